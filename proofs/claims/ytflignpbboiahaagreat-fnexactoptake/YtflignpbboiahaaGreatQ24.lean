/- Laid together: what the claim needs of the texts that were built one by one. -/
import Derived.Test.YtflignpbboiahaaGreatQ23
import Derived.Test.YtflignpbboiahaaGreatQ21
import Derived.Test.YtflignpbboiahaaGreatQ14
import Derived.DefersIn
import Derived.Test.YtflignpbboiahaaGreatQ0
import Derived.Test.YtflignpbboiahaaGreatQ18
import Derived.Test.YtflignpbboiahaaGreatQ1
import Derived.Test.YtflignpbboiahaaGreatQ15
set_option linter.unusedVariables false
namespace Go.Proofs.YtflignpbboiahaaGreat
open Go.ChangeShapes Go.WideShapes Go.ChangeAt Go.RowKit Go.Shelf Go.Maps
set_option linter.unusedSimpArgs false
attribute [local go_sem] Oper.semAt_some
def InvO (T : Int) (xs : List OrR) : Prop := RiseO xs ∧ ∀ x ∈ xs, (0 ≤ x.en ∧ x.en ≤ 1000) ∧ (-1000 ≤ x.st ∧ x.st ≤ 1000) ∧ (-1000 ≤ x.ky ∧ x.ky ≤ 1000) ∧ 0 ≤ x.td ∧ x.td ≤ T
theorem spn_bd1 : ∀ (old : List OrR) (st en : Int), -1000 ≤ st ∧ st ≤ 1000 → (∀ x ∈ old, -1000 ≤ x.st ∧ x.st ≤ 1000) → -1000 ≤ (spnO st en old).1 ∧ (spnO st en old).1 ≤ 1000
 | [], _, _, h, _ => h
 | x :: old, st, en, h, hx => by
  have h1 := hx x (by simp)
  exact spn_bd1 old (loI st x.st) (hiI en x.en) (by unfold loI; split <;> omega) (fun y hy => hx y (List.mem_cons_of_mem _ hy))
theorem met_mem {ses : Bool} {ky st en : Int} {xs : List OrR} {x : OrR} (h : x ∈ metO ses ky st en xs) : x ∈ xs := by
 unfold metO at h
 split at h
 ·exact (List.mem_filter.1 h).1
 ·cases hf : fndO (ky, st, en) xs with
  | none => rw [hf] at h; cases h
  | some y =>
   rw [hf] at h
   simp only [Option.toList, List.mem_singleton] at h
   subst h
   exact (fndO_pl hf).2
theorem put_inv {T : Int} {xs : List OrR} {r : OrR} (h : InvO T xs) (hr : (0 ≤ r.en ∧ r.en ≤ 1000) ∧ (-1000 ≤ r.st ∧ r.st ≤ 1000) ∧ (-1000 ≤ r.ky ∧ r.ky ≤ 1000) ∧ 0 ≤ r.td ∧ r.td ≤ T) : InvO T (putO r xs) := by
 refine ⟨putO_rise h.1, fun x hx => ?_⟩
 rcases putO_mem.1 hx with rfl | ⟨hx, _⟩
 ·exact hr
 ·exact h.2 x hx
theorem im_inv {ses : Bool} {l m ky v T : Int} {xs : List OrR} {ps : List PnR} {lw : List WnR} {w : WnR} (h : InvO T xs) (hT : 0 ≤ T) (hk : -1000 ≤ ky ∧ ky ≤ 1000) (ha : -1000 ≤ w.a ∧ w.a ≤ 1000) (hb : 0 ≤ w.b ∧ w.b ≤ 1000) : InvO T (imStep ses l m ky v (xs, ps, lw) w).1 ∧ (imStep ses l m ky v (xs, ps, lw) w).1.length ≤ xs.length + 1 ∧ (imStep ses l m ky v (xs, ps, lw) w).2.1.length ≤ ps.length + (if ses = true then xs.length else 0) ∧ (imStep ses l m ky v (xs, ps, lw) w).2.2.length ≤ lw.length + 1 := by
 have h2 := spn_bd (metO ses ky w.a w.b xs) w.a w.b hb (fun x hx => (h.2 x (met_mem hx)).1)
 have h1 := spn_bd1 (metO ses ky w.a w.b xs) w.a w.b ha (fun x hx => (h.2 x (met_mem hx)).2.1)
 refine ⟨?_, ?_, ?_, ?_⟩
 ·unfold imStep
  dsimp only
  split
  ·exact h
  ·split
   ·refine put_inv h ?_
    unfold nexO
    cases hf : fndO (ky, (spnO w.a w.b (metO ses ky w.a w.b xs)).1, (spnO w.a w.b (metO ses ky w.a w.b xs)).2) xs with
    | none => exact ⟨h2, h1, hk, Int.le_refl _, hT⟩
    | some y => exact h.2 y (fndO_pl hf).2
   ·exact put_inv (xs := xs.filter _) ⟨h.1.sublist List.filter_sublist, fun x hx => h.2 x (List.mem_filter.1 hx).1⟩ ⟨h2, h1, hk, Int.le_refl _, hT⟩
 ·unfold imStep
  dsimp only
  split
  ·simp
  ·split
   ·exact putO_len _ _
   ·exact Nat.le_trans (putO_len _ _) (Nat.succ_le_succ (List.length_filter_le _ _))
 ·cases ses with
  | false =>
   rw [imStep_fix]
   split <;> simp
  | true =>
   unfold imStep
   dsimp only
   split
   ·simp
   ·split
    ·simp
    ·rw [List.length_append, if_pos rfl]
     have h3 := gon_len (metO true ky w.a w.b xs)
     have h4 : (metO true ky w.a w.b xs).length ≤ xs.length := by unfold metO; rw [if_pos rfl]; exact List.length_filter_le _ _
     omega
 ·unfold imStep
  dsimp only
  split
  ·simp
  ·split <;> simp
theorem slide_a {z p t : Int} (hp : 0 ≤ p) : ∀ (n : Nat) (s : Int), 0 ≤ s → ∀ x ∈ slideGo z p t n s, 0 ≤ x.a ∧ x.a ≤ t ∧ x.b = x.a + z
 | 0, _, _, x, hx => by cases hx
 | n + 1, s, hs, x, hx => by
  have ih := slide_a (z := z) (t := t) hp n (s + p) (by omega)
  unfold slideGo at hx
  split at hx
  ·rename_i h1
   split at hx
   ·rcases List.mem_cons.1 hx with rfl | hx
    ·exact ⟨hs, h1, rfl⟩
    ·exact ih x hx
   ·exact ih x hx
  ·cases hx
theorem wins_a {s t k z p l e v r T : Int} (hj : okJob s t k z p l e v r = true) (hT : 0 ≤ T ∧ T ≤ 60) : ∀ x ∈ winsOf k z p T, 0 ≤ x.a ∧ x.a ≤ T ∧ x.b = x.a + z := by
 obtain ⟨hk, hz, hp⟩ := okJob_parts hj
 unfold winsOf
 split
 ·intro x hx
  simp only [List.mem_singleton] at hx
  subst hx
  have h1 := Int.emod_nonneg T (show z ≠ 0 by omega)
  have h3 : 0 ≤ z * (T / z) := Int.mul_nonneg (by omega) (Int.ediv_nonneg hT.1 (by omega))
  have h4 : T % z + z * (T / z) = T := by first | exact Int.emod_add_ediv T z | exact Int.emod_add_mul_ediv T z
  exact ⟨by show 0 ≤ T - T % z; omega, by show T - T % z ≤ T; omega, rfl⟩
 ·split
  ·intro x hx
   simp only [List.mem_singleton] at hx
   subst hx
   exact ⟨hT.1, Int.le_refl _, rfl⟩
  ·refine slide_a ?_ 61 0 (by omega)
   unfold stepB at hp
   split at hp
   ·simp only [Bool.and_eq_true] at hp
    have := inB_iff.1 hp.1
    omega
   ·simp at hp
    omega
theorem wins_one {k z q T : Int} (hk : k = 3) : (winsOf k z q T).length ≤ 1 := by
 unfold winsOf
 rw [if_neg (by omega), if_pos hk]
 simp
theorem KpC.own {W W' : World} {B size n : Nat} {e : TypeId} {v : Value} {ys : List Value} (h : W.ownsRow B e size v n ys) (hk : KpC W W') (he : turnT e = false) : W'.ownsRow B e size v n ys := by
 rcases h with ⟨hl, h | ⟨q, cap, cur, rfl, hB, hblk, r⟩⟩
 ·exact ⟨hl, Or.inl h⟩
 ·exact ⟨hl, Or.inr ⟨q, cap, cur, rfl, hB, hk.2 q _ hblk (.inr ⟨_, _, he, rfl⟩), r⟩⟩
theorem gEs_rows (m : Int) (es : List Ent) : rowsE (gEs m es) = (rowsE es).map (gTx m) := by
 unfold rowsE gEs
 rw [List.map_map, List.map_map]
 rfl
theorem gEs_pans (m : Int) (pc : Bool) (es : List Ent) : (es.filter (fun e => telB m e.2)).map (fun e => panX pc e.2) = ((rowsE es).filter (telB m)).map (panX pc) := by
 unfold rowsE
 rw [List.filter_map, List.map_map]
 rfl
set_option maxRecDepth 100000 in
set_option maxHeartbeats 8000000 in
theorem take_any (Bo B mb nn : Nat) (s t k z q l e : Int) (b : Bool) (v r m : Int) (pv lv : Value) (es : List Ent) (x1 x2 x3 x4 x5 : Int) (w : World) (hO : w.heap[Bo]? = some (.cells #[.int .i64 s, .int .i64 t, .int .i64 k, .int .i64 z, .int .i64 q, .int .i64 l, .int .i64 e, .bool b, .int .i64 v, .int .i64 r, .int .i64 m, .map (some (mb)), pv, lv] 60 (0, 0))) (hBo : B ≤ Bo) (hBw : B ≤ w.heap.size) (hmb : B ≤ mb) (hR : RowsI w B mb nn es) (hP : OwnPn w B pv []) (hL : OwnLp w B lv []) (hj : okJob s t k z q l e v r = true) (hT : 0 ≤ x2 ∧ x2 ≤ 60) (hx3 : -1000 ≤ x3 ∧ x3 ≤ 1000) (hI0 : InvO 1500 (rowsE es)) (hnn : nn ≤ 800) (hesl : es.length ≤ 300) (hen : es.length ≤ nn) : Calls Tryz.prog 28 #[.pointer (some ⟨Bo, 0, none⟩), .agg #[.int .i64 x1, .int .i64 x2, .int .i64 x3, .int .i64 x4, .int .i64 x5]] w fun e' w' => e' = .returned (.tuple #[]) ∧ ∃ pv' lv' es', w'.heap[Bo]? = some (.cells #[.int .i64 s, .int .i64 t, .int .i64 k, .int .i64 z, .int .i64 q, .int .i64 l, .int .i64 e, .bool b, .int .i64 v, .int .i64 r, .int .i64 m, .map (some (mb)), pv', lv'] 60 (0, 0)) ∧ RowsI w' B mb (nn + 61) es' ∧ OwnPn w' B pv' (gaF b m (imTake (decide (k = 3)) l m x3 x4 (rowsE es) (winsOf k z q x2))).2.1 ∧ OwnLp w' B lv' ((gaF b m (imTake (decide (k = 3)) l m x3 x4 (rowsE es) (winsOf k z q x2))).2.2.map (latX x1 x2 x3 x4 x5)) ∧ rowsE es' = (gaF b m (imTake (decide (k = 3)) l m x3 x4 (rowsE es) (winsOf k z q x2))).1 ∧ RiseE es' ∧ (∀ e ∈ es', ok3 (plO e.2)) ∧ es'.length ≤ nn + 61 ∧ (gaF b m (imTake (decide (k = 3)) l m x3 x4 (rowsE es) (winsOf k z q x2))).2.1.length ≤ 2000 ∧ (gaF b m (imTake (decide (k = 3)) l m x3 x4 (rowsE es) (winsOf k z q x2))).2.2.length ≤ 61 ∧ Below B w w' := by
 have zBo : Bo < w.heap.size := (Array.getElem?_eq_some_iff.1 hO).1
 have hl := okJob_l hj
 have hwf : ∀ a : Int, -1000 ≤ a → a ≤ 1000 → (Lit.int .i64 a).wf = true := fun a h1 h2 => WalkArith.wf_i64 (show _ from ⟨by omega, by omega⟩)
 have HWa := hide (wins_a hj hT)
 have HWb := hide (wins_bd hj hT)
 have hz20 := (okJob_parts hj).2.1
 obtain ⟨ws, hws⟩ : ∃ ws, winsOf k z q x2 = ws := ⟨_, rfl⟩
 have hwl : ws.length ≤ 61 := by rw [← hws]; exact wins_len k z q x2
 have HW1 : Hid (decide (k = 3) = true → ws.length ≤ 1) := hide (fun h9 => by rw [← hws]; exact wins_one (by simpa using h9))
 rw [hws] at HWa HWb
 have HIM : Hid (imTake (decide (k = 3)) l m x3 x4 (rowsE es) (winsOf k z q x2) = ws.foldl (imStep (decide (k = 3)) l m x3 x4) (rowsE es, [], [])) := hide (by unfold imTake; rw [hws])
 have HC : Hid (∀ W : World, Calls Tryz.prog 53 #[.agg #[.int .i64 s, .int .i64 t, .int .i64 k, .int .i64 z, .int .i64 q, .int .i64 l, .int .i64 e, .bool b, .int .i64 v, .int .i64 r], .int .i64 x2] W fun e' w' => ∃ v', e' = .returned v' ∧ OwnWn w' W.heap.size v' ws ∧ Below W.heap.size W w') := hide (fun W => by
  have h9 := implwinof_any s t k z q l e b v r x2 W
  rw [winsAll_tt hj (inB_iff.2 hT), hws] at h9
  exact h9)
 obtain ⟨nw, hnw⟩ : ∃ nw, ws.length = nw := ⟨_, rfl⟩
 rw [hnw] at hwl
 have HNw := hide hnw
 have HIV := hide hI0
 clear hws hnw hI0
 refine (callsIn_wide (n := 26)).1 ?_
 refine callsIn_of_wp_defers Tryz.func28 rfl trivial ?_ rfl
 simp only [Tryz.ntmps28, List.size_toArray, List.length_cons, List.length_nil, Nat.reduceAdd, Nat.reduceSub, Array.replicate_succ, Array.replicate_zero, List.push_toArray, List.append_toArray, List.nil_append, List.cons_append]
 gi_wp2
 refine wpIn_region_inv (by kernel_rfl) (by kernel_rfl) (fun L a' W' => ∃ V : Nat → Value, a' = ({ tmps := #[.pointer (some ⟨Bo, 0, none⟩), .agg #[.int .i64 x1, .int .i64 x2, .int .i64 x3, .int .i64 x4, .int .i64 x5], undef, .pointer (some ⟨w.heap.size, 0, none⟩), undef, undef, .pointer (some ⟨Bo, 0, none⟩), V 0, V 1, V 2, V 3, V 4, V 5, V 6, V 7, V 8, undef, undef, undef, undef, undef, undef, undef, undef], defers := [{ target := Target.fn (Fn.func 52) #[], args := #[.pointer (some ⟨Bo, 0, none⟩)] }] } : Act) ∧ ((L 0 = true → V 0 = .pointer (some ⟨Bo, 0, none⟩)) ∧ (L 1 = true → V 1 = .pointer (some ⟨Bo, 0, none⟩)) ∧ (L 2 = true → V 2 = .pointer (some ⟨Bo, 0, none⟩)) ∧ (L 3 = true → V 3 = .agg #[.int .i64 s, .int .i64 t, .int .i64 k, .int .i64 z, .int .i64 q, .int .i64 l, .int .i64 e, .bool b, .int .i64 v, .int .i64 r]) ∧ (L 4 = true → V 4 = .pointer (some ⟨w.heap.size, 1, none⟩)) ∧ (L 5 = true → V 5 = .int .i64 x2) ∧ (L 7 = true → V 7 = .int .i64 nw) ∧ (L 8 = true → V 8 = .int .i64 0)) ∧ (L 6 = true → Hid (∃ aw cw, V 6 = .slice aw nw cw ∧ OwnWn W' B (.slice aw nw cw) ws)) ∧ Below w.heap.size w W' ∧ W'.heap[w.heap.size]? = some (.cells #[.int .i64 x1, .int .i64 x2, .int .i64 x3, .int .i64 x4, .int .i64 x5] 40 (0, 0)) ∧ w.heap.size < W'.heap.size) ?_ ?_ ?_
 ·exact ⟨fun _ => undef, rfl, ⟨(fun h9 => (by cases h9)), (fun h9 => (by cases h9)), (fun h9 => (by cases h9)), (fun h9 => (by cases h9)), (fun h9 => (by cases h9)), (fun h9 => (by cases h9)), (fun h9 => (by cases h9)), (fun h9 => (by cases h9))⟩, (fun h9 => (by cases h9)), bel_drew (bel_one _ _), World.alloc_heap_new w _, by simp⟩
 ·refine ⟨?_, ?_, ?_, ?_, ?_, ?_, ?_, ?_, ?_, trivial⟩
  ·intro L a' W' hI hLj hE K' hK
   obtain ⟨V, rfl, ⟨hv0, hv1, hv2, hv3, hv4, hv5, hv7, hv8⟩, hT6, hbW, bIW, hzW⟩ := hI
   go_simp
   exact hK.out _ _ ⟨fun m9 => if m9 = 0 then .pointer (some ⟨Bo, 0, none⟩) else V m9, rfl, ⟨fun _ => rfl, mO hv1, mO hv2, mO hv3, mO hv4, mO hv5, mO hv7, mO hv8⟩, mO hT6, hbW, bIW, hzW⟩
  ·intro L a' W' hI hLj hE K' hK
   obtain ⟨V, rfl, ⟨hv0, hv1, hv2, hv3, hv4, hv5, hv7, hv8⟩, hT6, hbW, bIW, hzW⟩ := hI
   have ev0 := hv0 (hE ⟨0, .data⟩ (by simp) rfl)
   rw [ev0]
   go_simp
   exact hK.out _ _ ⟨fun m9 => if m9 = 1 then .pointer (some ⟨Bo, 0, none⟩) else V m9, (by simp [Act.put, ev0]), ⟨mO hv0, fun _ => rfl, mO hv2, mO hv3, mO hv4, mO hv5, mO hv7, mO hv8⟩, mO hT6, hbW, bIW, hzW⟩
  ·intro L a' W' hI hLj hE K' hK
   obtain ⟨V, rfl, ⟨hv0, hv1, hv2, hv3, hv4, hv5, hv7, hv8⟩, hT6, hbW, bIW, hzW⟩ := hI
   have ev1 := hv1 (hE ⟨1, .data⟩ (by simp) rfl)
   rw [ev1]
   go_simp
   exact hK.out _ _ ⟨fun m9 => if m9 = 2 then .pointer (some ⟨Bo, 0, none⟩) else V m9, (by simp [Act.put, ev1]), ⟨mO hv0, mO hv1, fun _ => rfl, mO hv3, mO hv4, mO hv5, mO hv7, mO hv8⟩, mO hT6, hbW, bIW, hzW⟩
  ·intro L a' W' hI hLj hE K' hK
   obtain ⟨V, rfl, ⟨hv0, hv1, hv2, hv3, hv4, hv5, hv7, hv8⟩, hT6, hbW, bIW, hzW⟩ := hI
   have ev2 := hv2 (hE ⟨2, .data⟩ (by simp) rfl)
   have bOW := (hbW.block Bo zBo).trans hO
   have k0 : W'.cell? ⟨Bo, 0, none⟩ = some (.int .i64 s) := Joins.cell_of_block bOW 0
   have k1 : W'.cell? ⟨Bo, 1, none⟩ = some (.int .i64 t) := Joins.cell_of_block bOW 1
   have k2 : W'.cell? ⟨Bo, 2, none⟩ = some (.int .i64 k) := Joins.cell_of_block bOW 2
   have k3 : W'.cell? ⟨Bo, 3, none⟩ = some (.int .i64 z) := Joins.cell_of_block bOW 3
   have k4 : W'.cell? ⟨Bo, 4, none⟩ = some (.int .i64 q) := Joins.cell_of_block bOW 4
   have k5 : W'.cell? ⟨Bo, 5, none⟩ = some (.int .i64 l) := Joins.cell_of_block bOW 5
   have k6 : W'.cell? ⟨Bo, 6, none⟩ = some (.int .i64 e) := Joins.cell_of_block bOW 6
   have k7 : W'.cell? ⟨Bo, 7, none⟩ = some (.bool b) := Joins.cell_of_block bOW 7
   have k8 : W'.cell? ⟨Bo, 8, none⟩ = some (.int .i64 v) := Joins.cell_of_block bOW 8
   have k9 : W'.cell? ⟨Bo, 9, none⟩ = some (.int .i64 r) := Joins.cell_of_block bOW 9
   rw [ev2]
   go_simp
   exact hK.out _ _ ⟨fun m9 => if m9 = 3 then .agg #[.int .i64 s, .int .i64 t, .int .i64 k, .int .i64 z, .int .i64 q, .int .i64 l, .int .i64 e, .bool b, .int .i64 v, .int .i64 r] else V m9, (by simp [Act.put, ev2]), ⟨mO hv0, mO hv1, mO hv2, fun _ => rfl, mO hv4, mO hv5, mO hv7, mO hv8⟩, mO hT6, hbW, bIW, hzW⟩
  ·intro L a' W' hI hLj hE K' hK
   obtain ⟨V, rfl, ⟨hv0, hv1, hv2, hv3, hv4, hv5, hv7, hv8⟩, hT6, hbW, bIW, hzW⟩ := hI
   go_simp
   exact hK.out _ _ ⟨fun m9 => if m9 = 4 then .pointer (some ⟨w.heap.size, 1, none⟩) else V m9, rfl, ⟨mO hv0, mO hv1, mO hv2, mO hv3, fun _ => rfl, mO hv5, mO hv7, mO hv8⟩, mO hT6, hbW, bIW, hzW⟩
  ·intro L a' W' hI hLj hE K' hK
   obtain ⟨V, rfl, ⟨hv0, hv1, hv2, hv3, hv4, hv5, hv7, hv8⟩, hT6, hbW, bIW, hzW⟩ := hI
   have ev4 := hv4 (hE ⟨4, .data⟩ (by simp) rfl)
   have k1 : W'.cell? ⟨w.heap.size, 1, none⟩ = some (.int .i64 x2) := Joins.cell_of_block bIW 1
   rw [ev4]
   go_simp
   exact hK.out _ _ ⟨fun m9 => if m9 = 5 then .int .i64 x2 else V m9, (by simp [Act.put, ev4]), ⟨mO hv0, mO hv1, mO hv2, mO hv3, mO hv4, fun _ => rfl, mO hv7, mO hv8⟩, mO hT6, hbW, bIW, hzW⟩
  ·intro L a' W' hI hLj hE K' hK
   obtain ⟨V, rfl, ⟨hv0, hv1, hv2, hv3, hv4, hv5, hv7, hv8⟩, hT6, hbW, bIW, hzW⟩ := hI
   have ev3 := hv3 (hE ⟨3, .data⟩ (by simp) rfl)
   have ev5 := hv5 (hE ⟨5, .data⟩ (by simp) rfl)
   rw [ev3]
   rw [ev5]
   go_simp
   (first | (gi_at_call 53) | (refine ⟨trivial, ?_⟩; gi_at_call 53) | (refine ⟨trivial, fun _ => (by omega), ?_⟩; gi_at_call 53))
   refine (callsIn_wide.2 (unhide HC W')).mono ?_
   rintro e9 Wt ⟨vt, rfl, hOt, hbt⟩
   (try gi_wp2_with fail)
   obtain ⟨aw, cw, hvt⟩ := sliceC hOt
   rw [unhide HNw] at hvt
   subst hvt
   exact hK.out _ _ ⟨fun m9 => if m9 = 6 then .slice aw nw cw else V m9, (by simp [Act.put, ev3, ev5]), ⟨mO hv0, mO hv1, mO hv2, mO hv3, mO hv4, mO hv5, mO hv7, mO hv8⟩, fun _ => hide ⟨aw, cw, rfl, World.ownsRow.mono hOt (by have := hbW.size; omega)⟩, bel_trans hbW hbt, (hbt.block _ hzW).trans bIW, by have := hbt.size; omega⟩
  ·intro L a' W' hI hLj hE K' hK
   obtain ⟨V, rfl, ⟨hv0, hv1, hv2, hv3, hv4, hv5, hv7, hv8⟩, hT6, hbW, bIW, hzW⟩ := hI
   obtain ⟨aw, cw, ev6, hOt⟩ := unhide (hT6 (hE ⟨6, .data⟩ (by simp) rfl))
   rw [ev6]
   go_simp
   exact hK.out _ _ ⟨fun m9 => if m9 = 7 then .int .i64 nw else V m9, (by simp [ev6]), ⟨mO hv0, mO hv1, mO hv2, mO hv3, mO hv4, mO hv5, fun _ => rfl, mO hv8⟩, mO hT6, hbW, bIW, hzW⟩
  ·intro L a' W' hI hLj hE K' hK
   obtain ⟨V, rfl, ⟨hv0, hv1, hv2, hv3, hv4, hv5, hv7, hv8⟩, hT6, hbW, bIW, hzW⟩ := hI
   go_simp
   exact hK.out _ _ ⟨fun m9 => if m9 = 8 then .int .i64 0 else V m9, rfl, ⟨mO hv0, mO hv1, mO hv2, mO hv3, mO hv4, mO hv5, mO hv7, fun _ => rfl⟩, mO hT6, hbW, bIW, hzW⟩
 intro L a' W' hI hall
 obtain ⟨V, rfl, ⟨hv0, hv1, hv2, hv3, hv4, hv5, hv7, hv8⟩, hT6, hbW, bIW, hzW⟩ := hI
 have ev0 := hv0 (hall 0 (by decide))
 have ev1 := hv1 (hall 1 (by decide))
 have ev2 := hv2 (hall 2 (by decide))
 have ev3 := hv3 (hall 3 (by decide))
 have ev4 := hv4 (hall 4 (by decide))
 have ev5 := hv5 (hall 5 (by decide))
 have ev7 := hv7 (hall 7 (by decide))
 have ev8 := hv8 (hall 8 (by decide))
 obtain ⟨aw, cw, ev6, hOw⟩ := unhide (hT6 (hall 6 (by decide)))
 rw [ev0, ev1, ev2, ev3, ev4, ev5, ev6, ev7, ev8]
 clear ev0 ev1 ev2 ev3 ev4 ev5 ev6 ev7 ev8 hv0 hv1 hv2 hv3 hv4 hv5 hv7 hv8 hall hT6
 have HOw := hide hOw
 have HBw := hide (hbW.mono hBw)
 have HO1 : Hid (W'.heap[Bo]? = some (.cells #[.int .i64 s, .int .i64 t, .int .i64 k, .int .i64 z, .int .i64 q, .int .i64 l, .int .i64 e, .bool b, .int .i64 v, .int .i64 r, .int .i64 m, .map (some (mb)), pv, lv] 60 (0, 0))) := hide ((hbW.block Bo zBo).trans hO)
 have HR1 := hide (hR.bel hbW)
 have HP1 : Hid (OwnPn W' B pv []) := hide (own_row hP (grown_of0 hbW) (fun _ e9 => by cases e9))
 have HL1 : Hid (OwnLp W' B lv []) := hide (own_row hL (grown_of0 hbW) (fun _ e9 => by cases e9))
 have HI1 := hide bIW
 clear hOw hbW bIW hO hR hP hL
 gi_wp2
 gi_loopw [15] (fun iv wr => ∃ (i2 : Nat) (pv' lv' : Value) (es' : List Ent) (ps : List PnR) (lw : List WnR), i2 ≤ nw ∧ iv = .int .i64 i2 ∧ Hid ((ws.take i2).foldl (imStep (decide (k = 3)) l m x3 x4) (rowsE es, [], []) = (rowsE es', ps, lw)) ∧ Hid (InvO 1500 (rowsE es')) ∧ Hid (es'.length ≤ es.length + i2) ∧ Hid (ps.length ≤ (if decide (k = 3) = true then 400 * i2 else 0)) ∧ Hid (lw.length ≤ i2) ∧ Hid (wr.heap[Bo]? = some (.cells #[.int .i64 s, .int .i64 t, .int .i64 k, .int .i64 z, .int .i64 q, .int .i64 l, .int .i64 e, .bool b, .int .i64 v, .int .i64 r, .int .i64 m, .map (some (mb)), pv', lv'] 60 (0, 0))) ∧ Hid (RowsI wr B mb (nn + i2) es') ∧ Hid (OwnPn wr B pv' ps) ∧ Hid (OwnLp wr B lv' (lw.map (latX x1 x2 x3 x4 x5))) ∧ Hid (OwnWn wr B (.slice aw nw cw) ws) ∧ Hid (wr.heap[w.heap.size]? = some (.cells #[.int .i64 x1, .int .i64 x2, .int .i64 x3, .int .i64 x4, .int .i64 x5] 40 (0, 0))) ∧ Hid (Below B w wr) ∧ w.heap.size < wr.heap.size) (fun iv _ => nw - (intOf iv).toNat)
 case atStart =>
  exact ⟨0, pv, lv, es, [], [], Nat.zero_le _, rfl, hide rfl, HIV, hide (Nat.le_refl _), hide (Nat.zero_le _), hide (Nat.zero_le _), HO1, HR1, HP1, HL1, HOw, HI1, HBw, hzW⟩
 case round =>
  clear HO1 HR1 HP1 HL1 HOw HI1 HBw hzW
  obtain ⟨i2, pv', lv', es', ps, lw, hi2, rfl, HFo, HIn, HEl, HPl, HLl, HO, HR, HP, HL, HW, HI, HB, hzr⟩ := hrel
  have HPs : Hid (ps.length ≤ 400) := hide (by
   have h9 := unhide HPl
   by_cases hk3 : decide (k = 3) = true
   ·have h8 := unhide HW1 hk3
    rw [unhide HNw] at h8
    rw [if_pos hk3] at h9
    omega
   ·rw [if_neg hk3] at h9
    omega)
  have hel := unhide HEl
  have HRi : Hid (RiseE es') := hide (riseE_iff.2 (unhide HIn).1)
  have HOk : Hid (∀ e ∈ es', ok3 (plO e.2)) := hide (fun e9 he9 => by
   have h9 := (unhide HIn).2 e9.2 (List.mem_map.2 ⟨e9, he9, rfl⟩)
   exact ⟨hwf _ h9.2.2.1.1 h9.2.2.1.2, hwf _ h9.2.1.1 h9.2.1.2, hwf _ (by have := h9.1.1; simp [plO]; omega) h9.1.2⟩)
  by_cases hlt : i2 < nw
  ·have hWR := hold_wn (unhide HW) (by rw [unhide HNw]; omega)
   obtain ⟨_, _, hy⟩ := hWR
   obtain ⟨gw, ow, rfl, hr⟩ := hy.resolve_left (by omega)
   obtain ⟨x, hxk⟩ : ∃ x, ws[i2]? = some x := ⟨_, List.getElem?_eq_getElem (by rw [unhide HNw]; omega)⟩
   have hrow := hr i2 x hxk
   have hxa := unhide HWa x (List.mem_of_getElem? hxk)
   have hxb := unhide HWb x (List.mem_of_getElem? hxk)
   have HXK := hide hxk
   obtain ⟨xa, xb⟩ := x
   dsimp only at hxa hxb
   have hxlt : xa < xb := by omega
   have hxa2 : -1000 ≤ xa ∧ xa ≤ 1000 := by omega
   clear hr hy hxk hxa
   obtain ⟨d0, d1⟩ := hrow
   have hgw : gw < wr.heap.size := (WnRAt.lt ⟨d0, d1⟩)
   dsimp only at d0 d1
   have bI := unhide HI
   have ic0 := Joins.cell_of_block bI 0
   have ic1 := Joins.cell_of_block bI 1
   have ic2 := Joins.cell_of_block bI 2
   have ic3 := Joins.cell_of_block bI 3
   have ic4 := Joins.cell_of_block bI 4
   simp only [gA, gZ, gS] at ic0 ic1 ic2 ic3 ic4
   have zI : w.heap.size < wr.heap.size := by omega
   have hbx : Below wr.heap.size wr (wr.alloc (.cells #[.int .i64 xa, .int .i64 xb] 64)) := bel_one _ _
   have hBx : Below B w (wr.alloc (.cells #[.int .i64 xa, .int .i64 xb] 64)) := (unhide HB).trans (hbx.mono (by have := (unhide HB).size; omega))
   have HC2 := hide (takein_any Bo B mb (nn + i2) s t k z q l e b v r m pv' lv' ps lw es' x1 x2 x3 x4 x5 xa xb (wr.alloc (.cells #[.int .i64 xa, .int .i64 xb] 64)) ((hbx.block Bo (Array.getElem?_eq_some_iff.1 (unhide HO)).1).trans (unhide HO)) hBo (by have := (unhide HB).size; simp; omega) hmb ((unhide HR).bel hbx) (own_row (unhide HP) (grown_of0 hbx) (fun _ e9 => by cases e9)) (own_row (unhide HL) (grown_of0 hbx) (fun _ e9 => by cases e9)) hl (unhide HRi) (unhide HOk) (fun e9 he9 => ((unhide HIn).2 e9.2 (List.mem_map.2 ⟨e9, he9, rfl⟩)).1) (hwf x3 hx3.1 hx3.2) hwf (fun e9 he9 => ((unhide HIn).2 e9.2 (List.mem_map.2 ⟨e9, he9, rfl⟩)).2.1) hxa2 hxb hxlt (by omega) (by omega) (by have := unhide HPs; omega) (by have := unhide HLl; omega))
   gi_wp2_with (refine ⟨trivial, ?_⟩; gi_at_call 54; refine (callsIn_wide.2 (unhide HC2)).mono ?_; rintro e9 w6 ⟨rfl, pv2, lv2, es2, bO2, hR2, hP2, hL2, hq2, hB2, hK2⟩)
   have HF2 : Hid ((ws.take (i2 + 1)).foldl (imStep (decide (k = 3)) l m x3 x4) (rowsE es, [], []) = imStep (decide (k = 3)) l m x3 x4 (rowsE es', ps, lw) ⟨xa, xb⟩) := hide (by rw [List.take_add_one, unhide HXK, Option.toList, List.foldl_append, unhide HFo]; rfl)
   have hinv := im_inv (ses := decide (k = 3)) (l := l) (m := m) (ky := x3) (v := x4) (ps := ps) (lw := lw) (w := ⟨xa, xb⟩) (unhide HIn) (by omega) hx3 hxa2 hxb
   obtain ⟨⟨ys3, ps3, lw3⟩, h3⟩ : ∃ r9, imStep (decide (k = 3)) l m x3 x4 (rowsE es', ps, lw) ⟨xa, xb⟩ = r9 := ⟨_, rfl⟩
   rw [h3] at hP2 hL2 hq2 hinv HF2
   dsimp only at hP2 hL2 hq2 hinv
   subst hq2
   have hel2 : es2.length ≤ es'.length + 1 := by have h9 := hinv.2.1; unfold rowsE at h9; rw [List.length_map, List.length_map] at h9; exact h9
   refine ⟨⟨i2 + 1, pv2, lv2, es2, ps3, lw3, by omega, by go_num, HF2, hide hinv.1, hide (by omega), hide ?_, hide (by have := hinv.2.2.2; have := unhide HLl; omega), hide bO2, hide hR2, hide hP2, hide hL2, hide (KpG.own (own_row (unhide HW) (grown_of0 hbx) (fun _ e9 => by cases e9)) hK2 (by decide)), hide (hK2.2 _ _ _ (by decide) ((hbx.block _ zI).trans (unhide HI))), hide (hBx.trans hB2), by have := hK2.1; simp at this; omega⟩, by simp [intOf]; omega⟩
   have h9 := hinv.2.2.1
   have h8 := unhide HPl
   have h7 : (rowsE es').length ≤ 361 := by unfold rowsE; rw [List.length_map]; omega
   split
   ·rename_i hk3
    rw [if_pos hk3] at h9 h8
    omega
   ·rename_i hk3
    rw [if_neg hk3] at h9 h8
    omega
  ·obtain rfl : i2 = nw := by omega
   rw [List.take_of_length_le (by rw [unhide HNw]; exact Nat.le_refl _), ← unhide HIM] at HFo
   gi_wp2
   refine leavesIn_cons (f := 52) (args := #[.pointer (some ⟨Bo, 0, none⟩)]) (by simp) (fun _ => by omega) (by simp [go_sem]) (fun _ _ => trivial) ?_
   refine (gather_any .returning Bo B mb (nn + i2) s t k z q l e b v r m pv' lv' ps es' wr (unhide HO) hBo (by have := (unhide HB).size; omega) (unhide HR) (unhide HP) (unhide HRi) (unhide HOk) (fun e9 he9 => by have h9 := ((unhide HIn).2 e9.2 (List.mem_map.2 ⟨e9, he9, rfl⟩)).2.2.2; exact ⟨h9.1, by omega⟩) (by omega) (by have := unhide HPs; omega) (by omega)).mono ?_
   rintro e9 u9 w2 ⟨rfl, rfl, pv2, bO2, hR2, hP2, hB2, hK2⟩
   have hfl : ((rowsE es').filter (telB m)).length ≤ 400 := Nat.le_trans (List.length_filter_le _ _) (by unfold rowsE; rw [List.length_map]; omega)
   refine ⟨.tuple #[], results_none rfl _ _ _, rfl, pv2, lv', gEs m es', bO2, hR2.more (by omega), ?_, ?_, ?_, ?_, ?_, ?_, ?_, ?_, (unhide HB).trans hB2⟩
   ·rw [unhide HFo]
    rw [gEs_pans] at hP2
    exact hP2
   ·rw [unhide HFo]
    exact hK2.own (unhide HL) (by decide)
   ·rw [unhide HFo, gEs_rows]
    rfl
   ·rw [riseE_iff, gEs_rows]
    exact List.pairwise_map.2 ((unhide HIn).1.imp (fun {a c} hac => by rw [gTx_pl, gTx_pl]; exact hac))
   ·intro e8 he8
    unfold gEs at he8
    obtain ⟨e7, he7, rfl⟩ := List.mem_map.1 he8
    have h9 := unhide HOk e7 he7
    have e6 : plO (if telB m e7.2 = true then toldX e7.2 else e7.2) = plO e7.2 := by split <;> rfl
    show ok3 (plO (if telB m e7.2 = true then toldX e7.2 else e7.2))
    rw [e6]
    exact h9
   ·unfold gEs
    rw [List.length_map]
    omega
   ·rw [unhide HFo]
    unfold gaF
    dsimp only
    rw [List.length_append, List.length_map]
    have := unhide HPs
    omega
   ·rw [unhide HFo]
    have := unhide HLl
    show lw.length ≤ 61
    omega
set_option linter.unusedSimpArgs false
set_option maxRecDepth 100000 in
set_option maxHeartbeats 8000000 in
theorem impltake_any (s t k z q l e : Int) (b : Bool) (v r m : Int) (a : Option Addr) (len cap : Nat) (xs : List OrR) (x1 x2 x3 x4 x5 : Int) (w : World) (h : OrRs w a len xs) : Calls Tryz.prog 9 #[.agg #[.int .i64 s, .int .i64 t, .int .i64 k, .int .i64 z, .int .i64 q, .int .i64 l, .int .i64 e, .bool b, .int .i64 v, .int .i64 r], .agg #[.int .i64 m, .slice a len cap], .agg #[.int .i64 x1, .int .i64 x2, .int .i64 x3, .int .i64 x4, .int .i64 x5]] w fun e' w' => ∃ v1 v2 v3, e' = .returned (.tuple #[.agg #[.int .i64 (takF s t k z q l e b v r m xs x1 x2 x3 x4 x5).1, v1], v2, v3]) ∧ OwnOr w' w.heap.size v1 (takF s t k z q l e b v r m xs x1 x2 x3 x4 x5).2.1 ∧ OwnPn w' w.heap.size v2 (takF s t k z q l e b v r m xs x1 x2 x3 x4 x5).2.2.1 ∧ OwnLp w' w.heap.size v3 (takF s t k z q l e b v r m xs x1 x2 x3 x4 x5).2.2.2 ∧ Below w.heap.size w w' := by
 have hxl := h.1
 have hbE : Below w.heap.size w ((((w.alloc (.cells #[.int .i64 s, .int .i64 t, .int .i64 k, .int .i64 z, .int .i64 q, .int .i64 l, .int .i64 e, .bool b, .int .i64 v, .int .i64 r] 37)).alloc (.cells #[.int .i64 m, .slice a len cap] 32)).alloc (.cells #[.int .i64 x1, .int .i64 x2, .int .i64 x3, .int .i64 x4, .int .i64 x5] 40)).alloc (.cells #[.int .i64 0, .slice none 0 0] 32)) := bel_alloc (bel_alloc (bel_alloc (bel_one _ _) _) _) _
 have HE := hide (h.below hbE)
 have eJ : ((((w.alloc (.cells #[.int .i64 s, .int .i64 t, .int .i64 k, .int .i64 z, .int .i64 q, .int .i64 l, .int .i64 e, .bool b, .int .i64 v, .int .i64 r] 37)).alloc (.cells #[.int .i64 m, .slice a len cap] 32)).alloc (.cells #[.int .i64 x1, .int .i64 x2, .int .i64 x3, .int .i64 x4, .int .i64 x5] 40)).alloc (.cells #[.int .i64 0, .slice none 0 0] 32)).heap[w.heap.size]? = some (.cells #[.int .i64 s, .int .i64 t, .int .i64 k, .int .i64 z, .int .i64 q, .int .i64 l, .int .i64 e, .bool b, .int .i64 v, .int .i64 r] 37 (0, 0)) := aN <| aN <| aN <| nA
 have eS : ((((w.alloc (.cells #[.int .i64 s, .int .i64 t, .int .i64 k, .int .i64 z, .int .i64 q, .int .i64 l, .int .i64 e, .bool b, .int .i64 v, .int .i64 r] 37)).alloc (.cells #[.int .i64 m, .slice a len cap] 32)).alloc (.cells #[.int .i64 x1, .int .i64 x2, .int .i64 x3, .int .i64 x4, .int .i64 x5] 40)).alloc (.cells #[.int .i64 0, .slice none 0 0] 32)).heap[w.heap.size + 1]? = some (.cells #[.int .i64 m, .slice a len cap] 32 (0, 0)) := aN <| aN <| nA
 have eI : ((((w.alloc (.cells #[.int .i64 s, .int .i64 t, .int .i64 k, .int .i64 z, .int .i64 q, .int .i64 l, .int .i64 e, .bool b, .int .i64 v, .int .i64 r] 37)).alloc (.cells #[.int .i64 m, .slice a len cap] 32)).alloc (.cells #[.int .i64 x1, .int .i64 x2, .int .i64 x3, .int .i64 x4, .int .i64 x5] 40)).alloc (.cells #[.int .i64 0, .slice none 0 0] 32)).heap[w.heap.size + 1 + 1]? = some (.cells #[.int .i64 x1, .int .i64 x2, .int .i64 x3, .int .i64 x4, .int .i64 x5] 40 (0, 0)) := aN <| nA
 have eR : ((((w.alloc (.cells #[.int .i64 s, .int .i64 t, .int .i64 k, .int .i64 z, .int .i64 q, .int .i64 l, .int .i64 e, .bool b, .int .i64 v, .int .i64 r] 37)).alloc (.cells #[.int .i64 m, .slice a len cap] 32)).alloc (.cells #[.int .i64 x1, .int .i64 x2, .int .i64 x3, .int .i64 x4, .int .i64 x5] 40)).alloc (.cells #[.int .i64 0, .slice none 0 0] 32)).heap[w.heap.size + 1 + 1 + 1]? = some (.cells #[.int .i64 0, .slice none 0 0] 32 (0, 0)) := nA
 obtain ⟨ob, hob⟩ : ∃ ob, okOp s t k z q l e v r m xs = ob := ⟨_, rfl⟩
 have HOB := hide hob
 clear hob
 go_enter Tryz.func9, Tryz.ntmps9
 go_wp2_with fail
 refine (implopok_eq s t k z q l e b v r m _ _ _ xs _ (unhide HE) HOB).mono ?_
 rintro e' w1 ⟨rfl, hb1⟩
 have bJ := (hb1.block (w.heap.size) (sA)).trans eJ
 have bS := (hb1.block (w.heap.size + 1) (sA)).trans eS
 have bI := (hb1.block (w.heap.size + 1 + 1) (sA)).trans eI
 have bR := (hb1.block (w.heap.size + 1 + 1 + 1) (sA)).trans eR
 have hbw : Below w.heap.size w w1 := bel_trans hbE hb1
 have hz1 : w.heap.size + 4 ≤ w1.heap.size := by have := hb1.size; simp at this; omega
 clear eJ eS eI eR HE hbE hb1
 have hnone : takB s t k z q l e v r m xs x1 x2 x3 x4 x5 = false → ∀ (W : World) (v2 v3 : Value), OwnPn W w.heap.size v2 [] → OwnLp W w.heap.size v3 [] → Below w.heap.size w W → ∃ v1 v4 v5, (Ending.returned (.tuple #[.agg #[.int .i64 0, .slice none 0 0], v2, v3])) = .returned (.tuple #[.agg #[.int .i64 (takF s t k z q l e b v r m xs x1 x2 x3 x4 x5).1, v1], v4, v5]) ∧ OwnOr W w.heap.size v1 (takF s t k z q l e b v r m xs x1 x2 x3 x4 x5).2.1 ∧ OwnPn W w.heap.size v4 (takF s t k z q l e b v r m xs x1 x2 x3 x4 x5).2.2.1 ∧ OwnLp W w.heap.size v5 (takF s t k z q l e b v r m xs x1 x2 x3 x4 x5).2.2.2 ∧ Below w.heap.size w W := by
  intro h9 W v2 v3 h2 h3 hW
  rw [takF_no h9]
  exact ⟨_, _, _, rfl, World.ownsRow_nil _ _ _ _, h2, h3, hW⟩
 have zw0 : w.heap.size < w1.heap.size := by omega
 have zw1 : w.heap.size + 1 < w1.heap.size := by omega
 have zw2 : w.heap.size + 1 + 1 < w1.heap.size := by omega
 have zw3 : w.heap.size + 1 + 1 + 1 < w1.heap.size := by omega
 have j0 := Joins.cell_of_block bJ 0
 have j1 := Joins.cell_of_block bJ 1
 have j2 := Joins.cell_of_block bJ 2
 have j3 := Joins.cell_of_block bJ 3
 have j4 := Joins.cell_of_block bJ 4
 have j5 := Joins.cell_of_block bJ 5
 have j6 := Joins.cell_of_block bJ 6
 have j7 := Joins.cell_of_block bJ 7
 have j8 := Joins.cell_of_block bJ 8
 have j9 := Joins.cell_of_block bJ 9
 simp only [gA, gZ, gS] at j0 j1 j2 j3 j4 j5 j6 j7 j8 j9
 have ss0 := Joins.cell_of_block bS 0
 have ss1 := Joins.cell_of_block bS 1
 simp only [gA, gZ, gS] at ss0 ss1
 have ic0 := Joins.cell_of_block bI 0
 have ic1 := Joins.cell_of_block bI 1
 have ic2 := Joins.cell_of_block bI 2
 have ic3 := Joins.cell_of_block bI 3
 have ic4 := Joins.cell_of_block bI 4
 simp only [gA, gZ, gS] at ic0 ic1 ic2 ic3 ic4
 have rr0 := Joins.cell_of_block bR 0
 have rr1 := Joins.cell_of_block bR 1
 simp only [gA, gZ, gS] at rr0 rr1
 have rrf0 := cF bR 0
 have rrf1 := cF bR 1
 cases ob with
 | false =>
  have hno := hide (hnone (by unfold takB; rw [unhide HOB]; rfl))
  have hO4 : Hid (Below w.heap.size w ((w1.setCell ⟨w.heap.size + 1 + 1 + 1, 0, none⟩ (.int .i64 0)).setCell ⟨w.heap.size + 1 + 1 + 1, 1, none⟩ (.slice none 0 0))) := hide (bel_set (bel_set hbw (sA) _) (sA) _)
  clear hnone bJ bS bI bR
  go_wp2
  refine bodyPost_ret (v := .tuple #[.agg #[.int .i64 0, .slice none 0 0], .slice none 0 0, .slice none 0 0]) (by simp (maxDischargeDepth := 9) [results, Tryz.results9, go_sem, *]) rfl ?_
  exact unhide hno _ _ _ (World.ownsRow_nil _ _ _ _) (World.ownsRow_nil _ _ _ _) (unhide hO4)
 | true =>
  obtain ⟨io, hio⟩ : ∃ io, isRecB x1 x2 x3 x4 x5 = io := ⟨_, rfl⟩
  have HIR := hide hio
  have HCI := isrec_any x1 x2 x3 x4 x5 w1
  rw [hio] at HCI
  have HCI2 := hide HCI
  clear hio HCI
  go_wp2_with fail
  refine (unhide HCI2).mono ?_
  rintro e' w2 ⟨rfl, hb2⟩
  clear j0 j1 j2 j3 j4 j5 j6 j7 j8 j9 ss0 ss1 ic0 ic1 ic2 ic3 ic4 rr0 rr1 rrf0 rrf1 HCI2 zw0 zw1 zw2 zw3
  replace bJ := (hb2.block (w.heap.size) (by omega)).trans bJ
  replace bS := (hb2.block (w.heap.size + 1) (by omega)).trans bS
  replace bI := (hb2.block (w.heap.size + 1 + 1) (by omega)).trans bI
  replace bR := (hb2.block (w.heap.size + 1 + 1 + 1) (by omega)).trans bR
  replace hbw : Below w.heap.size w w2 := bel_trans hbw hb2
  have zzw2 := hb2.size
  clear hb2
  have zw0 : w.heap.size < w2.heap.size := by omega
  have zw1 : w.heap.size + 1 < w2.heap.size := by omega
  have zw2 : w.heap.size + 1 + 1 < w2.heap.size := by omega
  have zw3 : w.heap.size + 1 + 1 + 1 < w2.heap.size := by omega
  have j0 := Joins.cell_of_block bJ 0
  have j1 := Joins.cell_of_block bJ 1
  have j2 := Joins.cell_of_block bJ 2
  have j3 := Joins.cell_of_block bJ 3
  have j4 := Joins.cell_of_block bJ 4
  have j5 := Joins.cell_of_block bJ 5
  have j6 := Joins.cell_of_block bJ 6
  have j7 := Joins.cell_of_block bJ 7
  have j8 := Joins.cell_of_block bJ 8
  have j9 := Joins.cell_of_block bJ 9
  simp only [gA, gZ, gS] at j0 j1 j2 j3 j4 j5 j6 j7 j8 j9
  have ss0 := Joins.cell_of_block bS 0
  have ss1 := Joins.cell_of_block bS 1
  simp only [gA, gZ, gS] at ss0 ss1
  have ic0 := Joins.cell_of_block bI 0
  have ic1 := Joins.cell_of_block bI 1
  have ic2 := Joins.cell_of_block bI 2
  have ic3 := Joins.cell_of_block bI 3
  have ic4 := Joins.cell_of_block bI 4
  simp only [gA, gZ, gS] at ic0 ic1 ic2 ic3 ic4
  have rr0 := Joins.cell_of_block bR 0
  have rr1 := Joins.cell_of_block bR 1
  simp only [gA, gZ, gS] at rr0 rr1
  have rrf0 := cF bR 0
  have rrf1 := cF bR 1
  cases io with
  | false =>
   have hno := hide (hnone (by unfold takB; rw [unhide HOB, unhide HIR]; rfl))
   have hO4 : Hid (Below w.heap.size w ((w2.setCell ⟨w.heap.size + 1 + 1 + 1, 0, none⟩ (.int .i64 0)).setCell ⟨w.heap.size + 1 + 1 + 1, 1, none⟩ (.slice none 0 0))) := hide (bel_set (bel_set hbw (sA) _) (sA) _)
   clear hnone bJ bS bI bR
   go_wp2
   refine bodyPost_ret (v := .tuple #[.agg #[.int .i64 0, .slice none 0 0], .slice none 0 0, .slice none 0 0]) (by simp (maxDischargeDepth := 9) [results, Tryz.results9, go_sem, *]) rfl ?_
   exact unhide hno _ _ _ (World.ownsRow_nil _ _ _ _) (World.ownsRow_nil _ _ _ _) (unhide hO4)
  | true =>
   by_cases hn : len ≤ 280
   ·have kd : decide ((280 : Int) < (len : Int)) = false := by simp; omega
    have kd2 : decide (280 < len) = false := by simp; omega
    obtain ⟨hx3, hl, hmb, hokx, hrs⟩ := okOp_at (unhide HOB)
    have hj := okOp_job (unhide HOB)
    obtain ⟨hT, hx33⟩ := isRec_bd (unhide HIR)
    have HTF : Hid (takF s t k z q l e b v r m xs x1 x2 x3 x4 x5 = (m, (spTake (decide (k = 3)) b l m x3 x4 xs (winsOf k z q x2)).1, (spTake (decide (k = 3)) b l m x3 x4 xs (winsOf k z q x2)).2.1, (spTake (decide (k = 3)) b l m x3 x4 xs (winsOf k z q x2)).2.2.map (latX x1 x2 x3 x4 x5))) := hide (by unfold takF; rw [takB_of (unhide HOB) (unhide HIR) (by omega)]; rfl)
    have HSame : Hid (spTake (decide (k = 3)) b l m x3 x4 xs (winsOf k z q x2) = gaF b m (imTake (decide (k = 3)) l m x3 x4 xs (winsOf k z q x2))) := hide (take_same hrs hokx (by omega) (fun h9 => wins_one (by simpa using h9)) (wins_pw hj))
    rw [unhide HSame] at HTF
    have HInv : Hid (InvO 1500 xs) := hide ⟨hrs, fun x hx => by have h1 := (okB_all (hokx x hx)).2.1; have h2 := (okB_all (hokx x hx)).2.2.2.1; have h3 := (okB_all (hokx x hx)).1; omega⟩
    have HOk3 : Hid (∀ x ∈ xs, ok3 (plO x)) := hide (fun x hx => ok_ok3 (hokx x hx))
    have HRs := hide hrs
    clear hnone hokx hrs
    have HX := hide (h.below hbw)
    go_wp2_with fail
    refine (operof_any s t k z q l e b v r m _ _ _ xs _ (unhide HX) (by omega) (unhide HOk3) (unhide HRs)).mono ?_
    rintro e' w3 ⟨es, rfl, hE, hR3, bO3, hb3⟩
    clear j0 j1 j2 j3 j4 j5 j6 j7 j8 j9 ss0 ss1 ic0 ic1 ic2 ic3 ic4 rr0 rr1 rrf0 rrf1 kd kd2 zw0 zw1 zw2 zw3
    have hbs3 := hb3.size
    replace bJ := (hb3.block (w.heap.size) (by omega)).trans bJ
    replace bS := (hb3.block (w.heap.size + 1) (by omega)).trans bS
    replace bI := (hb3.block (w.heap.size + 1 + 1) (by omega)).trans bI
    replace bR := (hb3.block (w.heap.size + 1 + 1 + 1) (by omega)).trans bR
    replace hbw : Below w.heap.size w w3 := bel_trans hbw hb3
    have zzw3 := hb3.size
    clear hb3
    have hE2 : rowsE es = xs := hE
    have hel : es.length = len := by have h9 := congrArg List.length hE; rw [List.length_map] at h9; omega
    obtain ⟨Bo, hBo⟩ : ∃ Bo, w2.heap.size + 1 + 1 + 1 = Bo := ⟨_, rfl⟩
    obtain ⟨mb, hmbe⟩ : ∃ mb, w2.heap.size + 1 + 1 = mb := ⟨_, rfl⟩
    rw [hBo, hmbe] at bO3
    rw [hmbe] at hR3
    rw [hBo]
    have hBB : w2.heap.size ≤ Bo := by omega
    have hBm : w2.heap.size ≤ mb := by omega
    have HTk := hide (take_any Bo w2.heap.size mb len s t k z q l e b v r m (.slice none 0 0) (.slice none 0 0) es x1 x2 x3 x4 x5 w3 bO3 hBB zzw3 hBm hR3 (World.ownsRow_nil _ _ _ _) (World.ownsRow_nil _ _ _ _) hj hT ⟨by omega, by omega⟩ (by rw [hE2]; exact unhide HInv) (by omega) (by omega) (by omega))
    rw [hE2] at HTk
    clear hBo hmbe hE hE2 bO3 hR3 HX
    have ic0 := Joins.cell_of_block bI 0
    have ic1 := Joins.cell_of_block bI 1
    have ic2 := Joins.cell_of_block bI 2
    have ic3 := Joins.cell_of_block bI 3
    have ic4 := Joins.cell_of_block bI 4
    simp only [gA, gZ, gS] at ic0 ic1 ic2 ic3 ic4
    go_wp2_with fail
    refine (unhide HTk).mono ?_
    rintro e' w4 ⟨rfl, pv4, lv4, es4, bO4, hR4, hP4, hL4, hq4, hri4, hok4, hl4, hpl4, hll4, hb4⟩
    clear ic0 ic1 ic2 ic3 ic4 HTk
    have zz4 := hb4.size
    have bR4 := (hb4.block (w.heap.size + 1 + 1 + 1) (by omega)).trans bR
    have hbw4 : Below w.heap.size w w4 := hbw.trans (hb4.mono (by omega))
    obtain ⟨⟨ys, ps, lw⟩, hF⟩ : ∃ r9, gaF b m (imTake (decide (k = 3)) l m x3 x4 xs (winsOf k z q x2)) = r9 := ⟨_, rfl⟩
    rw [hF] at hP4 hL4 hq4 hpl4 hll4 HTF
    dsimp only at hP4 hL4 hq4 hpl4 hll4
    have HSt := hide (state_any Bo w2.heap.size mb (len + 61) s t k z q l e b v r m pv4 lv4 es4 w4.drew bO4 (hR4.bel (bel_drew (Below.refl _ _))) hri4 hok4 (by omega))
    have HP4 := hide hP4
    have HL4 := hide hL4
    have Hq4 := hide hq4
    clear bJ bS bI bR hP4 hL4 hq4 hR4 hri4 hok4 hF hbw hb4
    go_wp2_with fail
    refine wp_region_held_drew (S := (fun W => W.heap[Bo]? = some (.cells #[.int .i64 s, .int .i64 t, .int .i64 k, .int .i64 z, .int .i64 q, .int .i64 l, .int .i64 e, .bool b, .int .i64 v, .int .i64 r, .int .i64 m, .map (some (mb)), pv4, lv4] 60 (0, 0)))) (by kernel_rfl) ?_ (fun hHeld => ?_)
    ·((try dsimp only); exact bO4)
    refine kV 0 ?_
    refine kV 2 ?_
    refine kV 3 ?_
    refine kV 4 ?_
    refine kT 5 ?_ ?_ ?_
    rotate_left
    ·(intro w9 hSw; (try dsimp only at hSw); have q0 := hSw; have ax0 := cA q0 0; have ax1 := cA q0 1; have ax2 := cA q0 2; have ax3 := cA q0 3; have ax4 := cA q0 4; have ax5 := cA q0 5; have ax6 := cA q0 6; have ax7 := cA q0 7; have ax8 := cA q0 8; have ax9 := cA q0 9; have ax10 := cA q0 10; simp only [gA, gZ, gS] at ax0 ax1 ax2 ax3 ax4 ax5 ax6 ax7 ax8 ax9 ax10; have ax11 : w9.cell? ⟨Bo, 11, none⟩ = some (.map (some (mb))) := (by simp [World.cell?, q0, go_sem]); have ax12 := cA q0 12; have ax13 := cA q0 13; simp only [gA, gZ, gS] at ax12 ax13; go_simp <;> with_reducible rfl)
    try simp only [Act.put, tA, tZ, tS]
    refine kV 6 ?_
    refine kV 7 ?_
    refine kV 8 ?_
    refine kT 9 ?_ ?_ ?_
    rotate_left
    ·(intro w9 hSw; (try dsimp only at hSw); have q0 := hSw; have ax0 := cA q0 0; have ax1 := cA q0 1; have ax2 := cA q0 2; have ax3 := cA q0 3; have ax4 := cA q0 4; have ax5 := cA q0 5; have ax6 := cA q0 6; have ax7 := cA q0 7; have ax8 := cA q0 8; have ax9 := cA q0 9; have ax10 := cA q0 10; simp only [gA, gZ, gS] at ax0 ax1 ax2 ax3 ax4 ax5 ax6 ax7 ax8 ax9 ax10; have ax11 : w9.cell? ⟨Bo, 11, none⟩ = some (.map (some (mb))) := (by simp [World.cell?, q0, go_sem]); have ax12 := cA q0 12; have ax13 := cA q0 13; simp only [gA, gZ, gS] at ax12 ax13; go_simp <;> with_reducible rfl)
    try simp only [Act.put, tA, tZ, tS]
    refine rD 1 (fun K hK => ?_)
    go_simp
    (go_at_call 29; refine (unhide HSt).mono ?_; rintro e9 w5 ⟨a5, c5, rfl, hO5, hb5⟩)
    (try go_wp2_with fail)
    replace hb5 : Below w4.heap.size w4 w5 := bel_trans (bel_drew (Below.refl _ _)) hb5
    have zz5 := hb5.size
    replace bO4 := (hb5.block Bo (Array.getElem?_eq_some_iff.1 bO4).1).trans bO4
    replace bR4 := (hb5.block (w.heap.size + 1 + 1 + 1) (Array.getElem?_eq_some_iff.1 bR4).1).trans bR4
    replace hbw4 : Below w.heap.size w w5 := bel_trans hbw4 hb5
    have HO5 : Hid (OwnOr w5 w.heap.size (.slice a5 es4.length c5) ys) := hide (by rw [← unhide Hq4]; exact World.ownsRow.mono hO5 (show w.heap.size ≤ w4.heap.size by omega))
    have HP5 := hide (World.ownsRow.mono (own_row (unhide HP4) (grown_of0 hb5) (fun _ e9 => by cases e9)) (show w.heap.size ≤ w2.heap.size by omega))
    have HL5 := hide (World.ownsRow.mono (own_row (unhide HL4) (grown_of0 hb5) (fun _ e9 => by cases e9)) (show w.heap.size ≤ w2.heap.size by omega))
    have hneB : Bo ≠ w.heap.size + 1 + 1 + 1 := by omega
    clear hO5 hb5
    clear hHeld
    refine hK.out _ _ ?_ (fun hHeld => ?_)
    ·((try dsimp only); exact bO4)
    clear hK K
    try simp only [Act.put, tA, tZ, tS]
    refine rD 10 (fun K hK => ?_)
    have rr0 := Joins.cell_of_block bR4 0
    have rr1 := Joins.cell_of_block bR4 1
    simp only [gA, gZ, gS] at rr0 rr1
    have rrf0 := cF bR4 0
    have rrf1 := cF bR4 1
    have zr5 : w.heap.size + 1 + 1 + 1 < w5.heap.size := by omega
    go_simp
    clear rr0 rr1 rrf0 rrf1
    have mO : ((w5.setCell ⟨w.heap.size + 1 + 1 + 1, 0, none⟩ (.int .i64 m)).setCell ⟨w.heap.size + 1 + 1 + 1, 1, none⟩ (.slice a5 es4.length c5)).heap[Bo]? = some (.cells #[.int .i64 s, .int .i64 t, .int .i64 k, .int .i64 z, .int .i64 q, .int .i64 l, .int .i64 e, .bool b, .int .i64 v, .int .i64 r, .int .i64 m, .map (some (mb)), pv4, lv4] 60 (0, 0)) := (Below.heap_setCell _ _ _ _ hneB).trans ((Below.heap_setCell _ _ _ _ hneB).trans bO4)
    have mR : ((w5.setCell ⟨w.heap.size + 1 + 1 + 1, 0, none⟩ (.int .i64 m)).setCell ⟨w.heap.size + 1 + 1 + 1, 1, none⟩ (.slice a5 es4.length c5)).heap[w.heap.size + 1 + 1 + 1]? = some (.cells #[.int .i64 m, (.slice a5 es4.length c5)] 32 (0, 0)) := Joins.block_setCell (Joins.block_setCell bR4 _) _
    have hOF := hide (own_setX (p := ⟨w.heap.size + 1 + 1 + 1, 1, none⟩) (u := (.slice a5 es4.length c5)) (own_setX (p := ⟨w.heap.size + 1 + 1 + 1, 0, none⟩) (u := .int .i64 m) (unhide HO5) (own_ne_ty (unhide HO5) bR4 (by decide))) (own_ne_ty (unhide HO5) bR4 (by decide)))
    have hPF := hide (own_setX (p := ⟨w.heap.size + 1 + 1 + 1, 1, none⟩) (u := (.slice a5 es4.length c5)) (own_setX (p := ⟨w.heap.size + 1 + 1 + 1, 0, none⟩) (u := .int .i64 m) (unhide HP5) (own_ne_ty (unhide HP5) bR4 (by decide))) (own_ne_ty (unhide HP5) bR4 (by decide)))
    have hLF := hide (own_setX (p := ⟨w.heap.size + 1 + 1 + 1, 1, none⟩) (u := (.slice a5 es4.length c5)) (own_setX (p := ⟨w.heap.size + 1 + 1 + 1, 0, none⟩) (u := .int .i64 m) (unhide HL5) (own_ne_ty (unhide HL5) bR4 (by decide))) (own_ne_ty (unhide HL5) bR4 (by decide)))
    have hBF := hide (bel_set (p := ⟨w.heap.size + 1 + 1 + 1, 1, none⟩) (bel_set (p := ⟨w.heap.size + 1 + 1 + 1, 0, none⟩) hbw4 (sA) (.int .i64 m)) (sA) (.slice a5 es4.length c5))
    clear hHeld
    refine hK.out _ _ ?_ (fun hHeld => ?_)
    ·((try dsimp only); exact mO)
    clear hK K
    try simp only [Act.put, tA, tZ, tS]
    refine rD 11 (fun K hK => ?_)
    go_simp
    clear hHeld
    refine hK.out _ _ ?_ (fun hHeld => ?_)
    ·((try dsimp only); exact mO)
    clear hK K
    try simp only [Act.put, tA, tZ, tS]
    refine rD 12 (fun K hK => ?_)
    go_simp
    clear hHeld
    refine hK.out _ _ ?_ (fun hHeld => ?_)
    ·((try dsimp only); exact mO)
    clear hK K
    try simp only [Act.put, tA, tZ, tS]
    refine wpAnyH_done (by kernel_rfl) ?_ _
    clear hHeld mO bO4 bR4
    generalize ((w5.setCell ⟨w.heap.size + 1 + 1 + 1, 0, none⟩ (.int .i64 m)).setCell ⟨w.heap.size + 1 + 1 + 1, 1, none⟩ (.slice a5 es4.length c5)) = w6 at mR hOF hPF hLF hBF ⊢
    have rr0 := Joins.cell_of_block mR 0
    have rr1 := Joins.cell_of_block mR 1
    simp only [gA, gZ, gS] at rr0 rr1
    clear mR
    go_wp2
    refine bodyPost_ret (v := .tuple #[.agg #[.int .i64 m, (.slice a5 es4.length c5)], pv4, lv4]) (by simp (maxDischargeDepth := 9) [results, Tryz.results9, go_sem, *]) rfl ?_
    rw [unhide HTF]
    exact ⟨_, _, _, rfl, unhide hOF, unhide hPF, unhide hLF, unhide hBF⟩
   ·have kd : decide ((280 : Int) < (len : Int)) = true := by simp; omega
    have kd2 : decide (280 < len) = true := by simp; omega
    have hno := hide (hnone (by unfold takB; rw [unhide HOB, unhide HIR]; simp; omega))
    have hO4 : Hid (Below w.heap.size w ((w2.setCell ⟨w.heap.size + 1 + 1 + 1, 0, none⟩ (.int .i64 0)).setCell ⟨w.heap.size + 1 + 1 + 1, 1, none⟩ (.slice none 0 0))) := hide (bel_set (bel_set hbw (sA) _) (sA) _)
    clear hnone bJ bS bI bR
    go_wp2
    refine bodyPost_ret (v := .tuple #[.agg #[.int .i64 0, .slice none 0 0], .slice none 0 0, .slice none 0 0]) (by simp (maxDischargeDepth := 9) [results, Tryz.results9, go_sem, *]) rfl ?_
    exact unhide hno _ _ _ (World.ownsRow_nil _ _ _ _) (World.ownsRow_nil _ _ _ _) (unhide hO4)
end Go.Proofs.YtflignpbboiahaaGreat
namespace Go.Proofs.YtflignpbboiahaaGreat
open Go.ChangeShapes Go.WideShapes Go.ChangeAt Go.RowKit
def markKOr (K : Int) (i : Nat) : OrR := ⟨K + 13 * (i : Int), K + 13 * (i : Int) + 1, K + 13 * (i : Int) + 1 + 1, K + 13 * (i : Int) + 1 + 1 + 1, K + 13 * (i : Int) + 1 + 1 + 1 + 1, K + 13 * (i : Int) + 1 + 1 + 1 + 1 + 1, K + 13 * (i : Int) + 1 + 1 + 1 + 1 + 1 + 1, K + 13 * (i : Int) + 1 + 1 + 1 + 1 + 1 + 1 + 1, K + 13 * (i : Int) + 1 + 1 + 1 + 1 + 1 + 1 + 1 + 1, K + 13 * (i : Int) + 1 + 1 + 1 + 1 + 1 + 1 + 1 + 1 + 1, K + 13 * (i : Int) + 1 + 1 + 1 + 1 + 1 + 1 + 1 + 1 + 1 + 1, K + 13 * (i : Int) + 1 + 1 + 1 + 1 + 1 + 1 + 1 + 1 + 1 + 1 + 1, decide ((K + 13 * (i : Int) + 1 + 1 + 1 + 1 + 1 + 1 + 1 + 1 + 1 + 1 + 1 + 1) % 3 = 0)⟩
def MarkedKOr (W : World) (a : Option Addr) (n : Nat) (K : Int) : Prop := n = 0 ∨ ∃ g, a = some ⟨g, 0, none⟩ ∧ ∀ i, i < n → OrRAt W g (i * 13) (markKOr K i)
theorem MarkedKOr.below {W W' : World} {a : Option Addr} {n : Nat} {K : Int} (h : MarkedKOr W a n K) (hb : Below W.heap.size W W') : MarkedKOr W' a n K := by
 rcases h with h | ⟨g, ha, hM⟩
 ·exact Or.inl h
 ·exact Or.inr ⟨g, ha, fun i hi => (hM i hi).below hb (hM i hi).lt⟩
theorem markKOr_step {K : Int} {w wr : World} {g ty cap j : Nat} (hB : BlkOr wr g ty cap) (hj : j < cap) (hM : ∀ i, i < j → OrRAt wr g (i * 13) (markKOr K i)) (hG : w.grownBy wr (some g)) :
  BlkOr (setOr wr g (j * 13) (markKOr K j)) g ty cap ∧ (∀ i, i < j + 1 → OrRAt (setOr wr g (j * 13) (markKOr K j)) g (i * 13) (markKOr K i)) ∧ w.grownBy (setOr wr g (j * 13) (markKOr K j)) (some g) := by
 refine ⟨hB.sets _, fun i hi => ?_, grown_setOr hG⟩
 by_cases he : i = j
 ·subst he
  exact setOr_this hB hj (markKOr K i)
 ·exact setOr_ne (hM i (by omega)) he
set_option maxRecDepth 20000 in
set_option maxHeartbeats 1000000 in
theorem markKOr_any (K : Int) (h0K : 0 ≤ K) (hK : K ≤ 1125899906842624) (a : Option Addr) (n cap : Nat) (w : World) (h : WrOr w a n cap) (hn : n ≤ 1048576) : Calls Tryz.prog 33 #[.slice a n cap, .int .i64 K] w fun e w' => e = .returned (.int .i64 (K + 13 * (n : Int))) ∧ MarkedKOr w' a n K ∧ w.grownBy w' (rowOr a n) := by
 by_cases h0 : n = 0
 ·subst h0
  go_enter Tryz.func33, Tryz.ntmps33
  go_wp2
  go_loopw [1, 5] (fun kv i wr => kv = .int .i64 K ∧ i = .int .i64 0 ∧ wr = w) (fun _ _ _ => 0)
  case atStart => exact ⟨rfl, rfl, rfl⟩
  case round =>
   obtain ⟨rfl, rfl, rfl⟩ := hrel
   go_wp2
   go_ret
   exact ⟨by simp, Or.inl rfl, grown0Or (Below.refl _ _)⟩
 ·obtain ⟨g, rfl, hB, hc⟩ := h.resolve_left h0
  rw [rowOr_pos h0]
  go_enter Tryz.func33, Tryz.ntmps33
  go_wp2
  go_loopw [1, 5] (fun kv i wr => ∃ j : Nat, j ≤ n ∧ kv = .int .i64 (K + 13 * (j : Int)) ∧ i = .int .i64 j ∧ BlkOr wr g 76 cap ∧ (∀ i, i < j → OrRAt wr g (i * 13) (markKOr K i)) ∧ w.grownBy wr (some g)) (fun _ i _ => n - (intOf i).toNat)
  case atStart => exact ⟨0, Nat.zero_le _, by simp, rfl, hB, fun i hi => absurd hi (by omega), ⟨rfl, rfl, rfl, Nat.le_refl _, fun _ _ _ => rfl⟩⟩
  case round =>
   obtain ⟨j, hj, rfl, rfl, hBw, hM, hG⟩ := hrel
   have HM := hide hM
   clear hM
   by_cases hlt : j < n
   ·obtain ⟨⟨u0, d0⟩, ⟨u1, d1⟩, ⟨u2, d2⟩, ⟨u3, d3⟩, ⟨u4, d4⟩, ⟨u5, d5⟩, ⟨u6, d6⟩, ⟨u7, d7⟩, ⟨u8, d8⟩, ⟨u9, d9⟩, ⟨u10, d10⟩, ⟨u11, d11⟩, ⟨u12, d12⟩⟩ := hBw.cells (k := j) (by omega)
    have f0 := hBw.frozen (i := j * 13)
    have f1 := hBw.frozen (i := j * 13 + 1)
    have f2 := hBw.frozen (i := j * 13 + 2)
    have f3 := hBw.frozen (i := j * 13 + 3)
    have f4 := hBw.frozen (i := j * 13 + 4)
    have f5 := hBw.frozen (i := j * 13 + 5)
    have f6 := hBw.frozen (i := j * 13 + 6)
    have f7 := hBw.frozen (i := j * 13 + 7)
    have f8 := hBw.frozen (i := j * 13 + 8)
    have f9 := hBw.frozen (i := j * 13 + 9)
    have f10 := hBw.frozen (i := j * 13 + 10)
    have f11 := hBw.frozen (i := j * 13 + 11)
    have f12 := hBw.frozen (i := j * 13 + 12)
    go_wp2
    go_roundw
    case rel =>
     obtain ⟨s1, s2, s3⟩ := markKOr_step hBw (by omega) (unhide HM) hG
     exact ⟨j + 1, by omega, by go_num, by go_num, s1, s2, s3⟩
    case measure => simp [intOf]; omega
   ·obtain rfl : j = n := by omega
    go_wp2
    go_ret
    exact ⟨rfl, Or.inr ⟨g, rfl, unhide HM⟩, hG⟩
set_option maxRecDepth 20000 in
set_option maxHeartbeats 1000000 in
theorem heldKOr_any (K : Int) (h0K : 0 ≤ K) (hK : K ≤ 1125899906842624) (a : Option Addr) (n cap : Nat) (w : World) (h : MarkedKOr w a n K) (hn : n ≤ 1048576) : Calls Tryz.prog 34 #[.slice a n cap, .int .i64 K] w fun e w' => e = .returned (.int .i64 (K + 13 * (n : Int))) ∧ w' = w := by
 go_enter Tryz.func34, Tryz.ntmps34
 go_wp2
 go_loop [1, 5] (fun kv i => ∃ j : Nat, j ≤ n ∧ kv = .int .i64 (K + 13 * (j : Int)) ∧ i = .int .i64 j) (fun _ i => n - (intOf i).toNat)
 case atStart => exact ⟨0, Nat.zero_le _, by simp, rfl⟩
 case round =>
  obtain ⟨j, hj, rfl, rfl⟩ := hrel
  by_cases hlt : j < n
  ·obtain ⟨g, rfl, hM⟩ := h.resolve_left (by omega)
   obtain ⟨c0, c1, c2, c3, c4, c5, c6, c7, c8, c9, c10, c11, c12⟩ := (show w.cell? ⟨g, j * 13, none⟩ = some (.int .i64 (K + 13 * (j : Int))) ∧ w.cell? ⟨g, j * 13 + 1, none⟩ = some (.int .i64 (K + 13 * (j : Int) + 1)) ∧ w.cell? ⟨g, j * 13 + 2, none⟩ = some (.int .i64 (K + 13 * (j : Int) + 1 + 1)) ∧ w.cell? ⟨g, j * 13 + 3, none⟩ = some (.int .i64 (K + 13 * (j : Int) + 1 + 1 + 1)) ∧ w.cell? ⟨g, j * 13 + 4, none⟩ = some (.int .i64 (K + 13 * (j : Int) + 1 + 1 + 1 + 1)) ∧ w.cell? ⟨g, j * 13 + 5, none⟩ = some (.int .i64 (K + 13 * (j : Int) + 1 + 1 + 1 + 1 + 1)) ∧ w.cell? ⟨g, j * 13 + 6, none⟩ = some (.int .i64 (K + 13 * (j : Int) + 1 + 1 + 1 + 1 + 1 + 1)) ∧ w.cell? ⟨g, j * 13 + 7, none⟩ = some (.int .i64 (K + 13 * (j : Int) + 1 + 1 + 1 + 1 + 1 + 1 + 1)) ∧ w.cell? ⟨g, j * 13 + 8, none⟩ = some (.int .i64 (K + 13 * (j : Int) + 1 + 1 + 1 + 1 + 1 + 1 + 1 + 1)) ∧ w.cell? ⟨g, j * 13 + 9, none⟩ = some (.int .i64 (K + 13 * (j : Int) + 1 + 1 + 1 + 1 + 1 + 1 + 1 + 1 + 1)) ∧ w.cell? ⟨g, j * 13 + 10, none⟩ = some (.int .i64 (K + 13 * (j : Int) + 1 + 1 + 1 + 1 + 1 + 1 + 1 + 1 + 1 + 1)) ∧ w.cell? ⟨g, j * 13 + 11, none⟩ = some (.int .i64 (K + 13 * (j : Int) + 1 + 1 + 1 + 1 + 1 + 1 + 1 + 1 + 1 + 1 + 1)) ∧ w.cell? ⟨g, j * 13 + 12, none⟩ = some (.bool (decide ((K + 13 * (j : Int) + 1 + 1 + 1 + 1 + 1 + 1 + 1 + 1 + 1 + 1 + 1 + 1) % 3 = 0))) from hM j hlt)
   clear hM
   by_cases h3 : (K + 13 * (j : Int) + 1 + 1 + 1 + 1 + 1 + 1 + 1 + 1 + 1 + 1 + 1 + 1) % 3 = 0
   ·rw [decide_eq_true h3] at c12
    go_wp2
    go_round
    case rel => exact ⟨j + 1, by omega, by go_num, by go_num⟩
    case measure => simp [intOf]; omega
   ·rw [decide_eq_false h3] at c12
    go_wp2
    go_round
    case rel => exact ⟨j + 1, by omega, by go_num, by go_num⟩
    case measure => simp [intOf]; omega
  ·obtain rfl : j = n := by omega
   go_wp2
   go_ret
   exact ⟨rfl, rfl⟩
theorem MarkedKOr.keep {W W' : World} {a : Option Addr} {n : Nat} {K : Int} (h : MarkedKOr W a n K) (hb : ∀ g o, 0 < n → a = some ⟨g, o, none⟩ → W'.heap[g]? = W.heap[g]?) : MarkedKOr W' a n K := by
 rcases h with h | ⟨g, ha, hM⟩
 ·exact Or.inl h
 ·refine Or.inr ⟨g, ha, fun i hi => ?_⟩
  have hbk := hb g 0 (by omega) ha
  obtain ⟨h0, h1, h2, h3, h4, h5, h6, h7, h8, h9, h10, h11, h12⟩ := hM i hi
  exact ⟨(World.cell?_of_block (w := W) hbk).trans h0, (World.cell?_of_block (w := W) hbk).trans h1, (World.cell?_of_block (w := W) hbk).trans h2, (World.cell?_of_block (w := W) hbk).trans h3, (World.cell?_of_block (w := W) hbk).trans h4, (World.cell?_of_block (w := W) hbk).trans h5, (World.cell?_of_block (w := W) hbk).trans h6, (World.cell?_of_block (w := W) hbk).trans h7, (World.cell?_of_block (w := W) hbk).trans h8, (World.cell?_of_block (w := W) hbk).trans h9, (World.cell?_of_block (w := W) hbk).trans h10, (World.cell?_of_block (w := W) hbk).trans h11, (World.cell?_of_block (w := W) hbk).trans h12⟩
def markKPn (K : Int) (i : Nat) : PnR := ⟨K + 9 * (i : Int), K + 9 * (i : Int) + 1, K + 9 * (i : Int) + 1 + 1, K + 9 * (i : Int) + 1 + 1 + 1, K + 9 * (i : Int) + 1 + 1 + 1 + 1, K + 9 * (i : Int) + 1 + 1 + 1 + 1 + 1, K + 9 * (i : Int) + 1 + 1 + 1 + 1 + 1 + 1, K + 9 * (i : Int) + 1 + 1 + 1 + 1 + 1 + 1 + 1, K + 9 * (i : Int) + 1 + 1 + 1 + 1 + 1 + 1 + 1 + 1⟩
def MarkedKPn (W : World) (a : Option Addr) (n : Nat) (K : Int) : Prop := n = 0 ∨ ∃ g, a = some ⟨g, 0, none⟩ ∧ ∀ i, i < n → PnRAt W g (i * 9) (markKPn K i)
theorem MarkedKPn.below {W W' : World} {a : Option Addr} {n : Nat} {K : Int} (h : MarkedKPn W a n K) (hb : Below W.heap.size W W') : MarkedKPn W' a n K := by
 rcases h with h | ⟨g, ha, hM⟩
 ·exact Or.inl h
 ·exact Or.inr ⟨g, ha, fun i hi => (hM i hi).below hb (hM i hi).lt⟩
theorem markKPn_step {K : Int} {w wr : World} {g ty cap j : Nat} (hB : BlkPn wr g ty cap) (hj : j < cap) (hM : ∀ i, i < j → PnRAt wr g (i * 9) (markKPn K i)) (hG : w.grownBy wr (some g)) :
  BlkPn (setPn wr g (j * 9) (markKPn K j)) g ty cap ∧ (∀ i, i < j + 1 → PnRAt (setPn wr g (j * 9) (markKPn K j)) g (i * 9) (markKPn K i)) ∧ w.grownBy (setPn wr g (j * 9) (markKPn K j)) (some g) := by
 refine ⟨hB.sets _, fun i hi => ?_, grown_setPn hG⟩
 by_cases he : i = j
 ·subst he
  exact setPn_this hB hj (markKPn K i)
 ·exact setPn_ne (hM i (by omega)) he
set_option maxRecDepth 20000 in
set_option maxHeartbeats 1000000 in
theorem markKPn_any (K : Int) (h0K : 0 ≤ K) (hK : K ≤ 17592186044416) (a : Option Addr) (n cap : Nat) (w : World) (h : WrPn w a n cap) (hn : n ≤ 1048576) : Calls Tryz.prog 14 #[.slice a n cap, .int .i64 K] w fun e w' => e = .returned (.int .i64 (K + 9 * (n : Int))) ∧ MarkedKPn w' a n K ∧ w.grownBy w' (rowPn a n) := by
 by_cases h0 : n = 0
 ·subst h0
  go_enter Tryz.func14, Tryz.ntmps14
  go_wp2
  go_loopw [1, 5] (fun kv i wr => kv = .int .i64 K ∧ i = .int .i64 0 ∧ wr = w) (fun _ _ _ => 0)
  case atStart => exact ⟨rfl, rfl, rfl⟩
  case round =>
   obtain ⟨rfl, rfl, rfl⟩ := hrel
   go_wp2
   go_ret
   exact ⟨by simp, Or.inl rfl, grown0Pn (Below.refl _ _)⟩
 ·obtain ⟨g, rfl, hB, hc⟩ := h.resolve_left h0
  rw [rowPn_pos h0]
  go_enter Tryz.func14, Tryz.ntmps14
  go_wp2
  go_loopw [1, 5] (fun kv i wr => ∃ j : Nat, j ≤ n ∧ kv = .int .i64 (K + 9 * (j : Int)) ∧ i = .int .i64 j ∧ BlkPn wr g 68 cap ∧ (∀ i, i < j → PnRAt wr g (i * 9) (markKPn K i)) ∧ w.grownBy wr (some g)) (fun _ i _ => n - (intOf i).toNat)
  case atStart => exact ⟨0, Nat.zero_le _, by simp, rfl, hB, fun i hi => absurd hi (by omega), ⟨rfl, rfl, rfl, Nat.le_refl _, fun _ _ _ => rfl⟩⟩
  case round =>
   obtain ⟨j, hj, rfl, rfl, hBw, hM, hG⟩ := hrel
   have HM := hide hM
   clear hM
   by_cases hlt : j < n
   ·obtain ⟨⟨u0, d0⟩, ⟨u1, d1⟩, ⟨u2, d2⟩, ⟨u3, d3⟩, ⟨u4, d4⟩, ⟨u5, d5⟩, ⟨u6, d6⟩, ⟨u7, d7⟩, ⟨u8, d8⟩⟩ := hBw.cells (k := j) (by omega)
    have f0 := hBw.frozen (i := j * 9)
    have f1 := hBw.frozen (i := j * 9 + 1)
    have f2 := hBw.frozen (i := j * 9 + 2)
    have f3 := hBw.frozen (i := j * 9 + 3)
    have f4 := hBw.frozen (i := j * 9 + 4)
    have f5 := hBw.frozen (i := j * 9 + 5)
    have f6 := hBw.frozen (i := j * 9 + 6)
    have f7 := hBw.frozen (i := j * 9 + 7)
    have f8 := hBw.frozen (i := j * 9 + 8)
    go_wp2
    go_roundw
    case rel =>
     obtain ⟨s1, s2, s3⟩ := markKPn_step hBw (by omega) (unhide HM) hG
     exact ⟨j + 1, by omega, by go_num, by go_num, s1, s2, s3⟩
    case measure => simp [intOf]; omega
   ·obtain rfl : j = n := by omega
    go_wp2
    go_ret
    exact ⟨rfl, Or.inr ⟨g, rfl, unhide HM⟩, hG⟩
set_option maxRecDepth 20000 in
set_option maxHeartbeats 1000000 in
theorem heldKPn_any (K : Int) (h0K : 0 ≤ K) (hK : K ≤ 17592186044416) (a : Option Addr) (n cap : Nat) (w : World) (h : MarkedKPn w a n K) (hn : n ≤ 1048576) : Calls Tryz.prog 17 #[.slice a n cap, .int .i64 K] w fun e w' => e = .returned (.int .i64 (K + 9 * (n : Int))) ∧ w' = w := by
 go_enter Tryz.func17, Tryz.ntmps17
 go_wp2
 go_loop [1, 5] (fun kv i => ∃ j : Nat, j ≤ n ∧ kv = .int .i64 (K + 9 * (j : Int)) ∧ i = .int .i64 j) (fun _ i => n - (intOf i).toNat)
 case atStart => exact ⟨0, Nat.zero_le _, by simp, rfl⟩
 case round =>
  obtain ⟨j, hj, rfl, rfl⟩ := hrel
  by_cases hlt : j < n
  ·obtain ⟨g, rfl, hM⟩ := h.resolve_left (by omega)
   obtain ⟨c0, c1, c2, c3, c4, c5, c6, c7, c8⟩ := (show w.cell? ⟨g, j * 9, none⟩ = some (.int .i64 (K + 9 * (j : Int))) ∧ w.cell? ⟨g, j * 9 + 1, none⟩ = some (.int .i64 (K + 9 * (j : Int) + 1)) ∧ w.cell? ⟨g, j * 9 + 2, none⟩ = some (.int .i64 (K + 9 * (j : Int) + 1 + 1)) ∧ w.cell? ⟨g, j * 9 + 3, none⟩ = some (.int .i64 (K + 9 * (j : Int) + 1 + 1 + 1)) ∧ w.cell? ⟨g, j * 9 + 4, none⟩ = some (.int .i64 (K + 9 * (j : Int) + 1 + 1 + 1 + 1)) ∧ w.cell? ⟨g, j * 9 + 5, none⟩ = some (.int .i64 (K + 9 * (j : Int) + 1 + 1 + 1 + 1 + 1)) ∧ w.cell? ⟨g, j * 9 + 6, none⟩ = some (.int .i64 (K + 9 * (j : Int) + 1 + 1 + 1 + 1 + 1 + 1)) ∧ w.cell? ⟨g, j * 9 + 7, none⟩ = some (.int .i64 (K + 9 * (j : Int) + 1 + 1 + 1 + 1 + 1 + 1 + 1)) ∧ w.cell? ⟨g, j * 9 + 8, none⟩ = some (.int .i64 (K + 9 * (j : Int) + 1 + 1 + 1 + 1 + 1 + 1 + 1 + 1)) from hM j hlt)
   clear hM
   go_wp2
   go_round
   case rel => exact ⟨j + 1, by omega, by go_num, by go_num⟩
   case measure => simp [intOf]; omega
  ·obtain rfl : j = n := by omega
   go_wp2
   go_ret
   exact ⟨rfl, rfl⟩
theorem MarkedKPn.keep {W W' : World} {a : Option Addr} {n : Nat} {K : Int} (h : MarkedKPn W a n K) (hb : ∀ g o, 0 < n → a = some ⟨g, o, none⟩ → W'.heap[g]? = W.heap[g]?) : MarkedKPn W' a n K := by
 rcases h with h | ⟨g, ha, hM⟩
 ·exact Or.inl h
 ·refine Or.inr ⟨g, ha, fun i hi => ?_⟩
  have hbk := hb g 0 (by omega) ha
  obtain ⟨h0, h1, h2, h3, h4, h5, h6, h7, h8⟩ := hM i hi
  exact ⟨(World.cell?_of_block (w := W) hbk).trans h0, (World.cell?_of_block (w := W) hbk).trans h1, (World.cell?_of_block (w := W) hbk).trans h2, (World.cell?_of_block (w := W) hbk).trans h3, (World.cell?_of_block (w := W) hbk).trans h4, (World.cell?_of_block (w := W) hbk).trans h5, (World.cell?_of_block (w := W) hbk).trans h6, (World.cell?_of_block (w := W) hbk).trans h7, (World.cell?_of_block (w := W) hbk).trans h8⟩
def markKLp (K : Int) (i : Nat) : LpR := ⟨K + 7 * (i : Int), K + 7 * (i : Int) + 1, K + 7 * (i : Int) + 1 + 1, K + 7 * (i : Int) + 1 + 1 + 1, K + 7 * (i : Int) + 1 + 1 + 1 + 1, K + 7 * (i : Int) + 1 + 1 + 1 + 1 + 1, K + 7 * (i : Int) + 1 + 1 + 1 + 1 + 1 + 1⟩
def MarkedKLp (W : World) (a : Option Addr) (n : Nat) (K : Int) : Prop := n = 0 ∨ ∃ g, a = some ⟨g, 0, none⟩ ∧ ∀ i, i < n → LpRAt W g (i * 7) (markKLp K i)
theorem MarkedKLp.below {W W' : World} {a : Option Addr} {n : Nat} {K : Int} (h : MarkedKLp W a n K) (hb : Below W.heap.size W W') : MarkedKLp W' a n K := by
 rcases h with h | ⟨g, ha, hM⟩
 ·exact Or.inl h
 ·exact Or.inr ⟨g, ha, fun i hi => (hM i hi).below hb (hM i hi).lt⟩
theorem markKLp_step {K : Int} {w wr : World} {g ty cap j : Nat} (hB : BlkLp wr g ty cap) (hj : j < cap) (hM : ∀ i, i < j → LpRAt wr g (i * 7) (markKLp K i)) (hG : w.grownBy wr (some g)) :
  BlkLp (setLp wr g (j * 7) (markKLp K j)) g ty cap ∧ (∀ i, i < j + 1 → LpRAt (setLp wr g (j * 7) (markKLp K j)) g (i * 7) (markKLp K i)) ∧ w.grownBy (setLp wr g (j * 7) (markKLp K j)) (some g) := by
 refine ⟨hB.sets _, fun i hi => ?_, grown_setLp hG⟩
 by_cases he : i = j
 ·subst he
  exact setLp_this hB hj (markKLp K i)
 ·exact setLp_ne (hM i (by omega)) he
set_option maxRecDepth 20000 in
set_option maxHeartbeats 1000000 in
theorem markKLp_any (K : Int) (h0K : 0 ≤ K) (hK : K ≤ 17592186044416) (a : Option Addr) (n cap : Nat) (w : World) (h : WrLp w a n cap) (hn : n ≤ 1048576) : Calls Tryz.prog 15 #[.slice a n cap, .int .i64 K] w fun e w' => e = .returned (.int .i64 (K + 7 * (n : Int))) ∧ MarkedKLp w' a n K ∧ w.grownBy w' (rowLp a n) := by
 by_cases h0 : n = 0
 ·subst h0
  go_enter Tryz.func15, Tryz.ntmps15
  go_wp2
  go_loopw [1, 5] (fun kv i wr => kv = .int .i64 K ∧ i = .int .i64 0 ∧ wr = w) (fun _ _ _ => 0)
  case atStart => exact ⟨rfl, rfl, rfl⟩
  case round =>
   obtain ⟨rfl, rfl, rfl⟩ := hrel
   go_wp2
   go_ret
   exact ⟨by simp, Or.inl rfl, grown0Lp (Below.refl _ _)⟩
 ·obtain ⟨g, rfl, hB, hc⟩ := h.resolve_left h0
  rw [rowLp_pos h0]
  go_enter Tryz.func15, Tryz.ntmps15
  go_wp2
  go_loopw [1, 5] (fun kv i wr => ∃ j : Nat, j ≤ n ∧ kv = .int .i64 (K + 7 * (j : Int)) ∧ i = .int .i64 j ∧ BlkLp wr g 71 cap ∧ (∀ i, i < j → LpRAt wr g (i * 7) (markKLp K i)) ∧ w.grownBy wr (some g)) (fun _ i _ => n - (intOf i).toNat)
  case atStart => exact ⟨0, Nat.zero_le _, by simp, rfl, hB, fun i hi => absurd hi (by omega), ⟨rfl, rfl, rfl, Nat.le_refl _, fun _ _ _ => rfl⟩⟩
  case round =>
   obtain ⟨j, hj, rfl, rfl, hBw, hM, hG⟩ := hrel
   have HM := hide hM
   clear hM
   by_cases hlt : j < n
   ·obtain ⟨⟨u0, d0⟩, ⟨u1, d1⟩, ⟨u2, d2⟩, ⟨u3, d3⟩, ⟨u4, d4⟩, ⟨u5, d5⟩, ⟨u6, d6⟩⟩ := hBw.cells (k := j) (by omega)
    have f0 := hBw.frozen (i := j * 7)
    have f1 := hBw.frozen (i := j * 7 + 1)
    have f2 := hBw.frozen (i := j * 7 + 2)
    have f3 := hBw.frozen (i := j * 7 + 3)
    have f4 := hBw.frozen (i := j * 7 + 4)
    have f5 := hBw.frozen (i := j * 7 + 5)
    have f6 := hBw.frozen (i := j * 7 + 6)
    go_wp2
    go_roundw
    case rel =>
     obtain ⟨s1, s2, s3⟩ := markKLp_step hBw (by omega) (unhide HM) hG
     exact ⟨j + 1, by omega, by go_num, by go_num, s1, s2, s3⟩
    case measure => simp [intOf]; omega
   ·obtain rfl : j = n := by omega
    go_wp2
    go_ret
    exact ⟨rfl, Or.inr ⟨g, rfl, unhide HM⟩, hG⟩
set_option maxRecDepth 20000 in
set_option maxHeartbeats 1000000 in
theorem heldKLp_any (K : Int) (h0K : 0 ≤ K) (hK : K ≤ 17592186044416) (a : Option Addr) (n cap : Nat) (w : World) (h : MarkedKLp w a n K) (hn : n ≤ 1048576) : Calls Tryz.prog 18 #[.slice a n cap, .int .i64 K] w fun e w' => e = .returned (.int .i64 (K + 7 * (n : Int))) ∧ w' = w := by
 go_enter Tryz.func18, Tryz.ntmps18
 go_wp2
 go_loop [1, 5] (fun kv i => ∃ j : Nat, j ≤ n ∧ kv = .int .i64 (K + 7 * (j : Int)) ∧ i = .int .i64 j) (fun _ i => n - (intOf i).toNat)
 case atStart => exact ⟨0, Nat.zero_le _, by simp, rfl⟩
 case round =>
  obtain ⟨j, hj, rfl, rfl⟩ := hrel
  by_cases hlt : j < n
  ·obtain ⟨g, rfl, hM⟩ := h.resolve_left (by omega)
   obtain ⟨c0, c1, c2, c3, c4, c5, c6⟩ := (show w.cell? ⟨g, j * 7, none⟩ = some (.int .i64 (K + 7 * (j : Int))) ∧ w.cell? ⟨g, j * 7 + 1, none⟩ = some (.int .i64 (K + 7 * (j : Int) + 1)) ∧ w.cell? ⟨g, j * 7 + 2, none⟩ = some (.int .i64 (K + 7 * (j : Int) + 1 + 1)) ∧ w.cell? ⟨g, j * 7 + 3, none⟩ = some (.int .i64 (K + 7 * (j : Int) + 1 + 1 + 1)) ∧ w.cell? ⟨g, j * 7 + 4, none⟩ = some (.int .i64 (K + 7 * (j : Int) + 1 + 1 + 1 + 1)) ∧ w.cell? ⟨g, j * 7 + 5, none⟩ = some (.int .i64 (K + 7 * (j : Int) + 1 + 1 + 1 + 1 + 1)) ∧ w.cell? ⟨g, j * 7 + 6, none⟩ = some (.int .i64 (K + 7 * (j : Int) + 1 + 1 + 1 + 1 + 1 + 1)) from hM j hlt)
   clear hM
   go_wp2
   go_round
   case rel => exact ⟨j + 1, by omega, by go_num, by go_num⟩
   case measure => simp [intOf]; omega
  ·obtain rfl : j = n := by omega
   go_wp2
   go_ret
   exact ⟨rfl, rfl⟩
theorem MarkedKLp.keep {W W' : World} {a : Option Addr} {n : Nat} {K : Int} (h : MarkedKLp W a n K) (hb : ∀ g o, 0 < n → a = some ⟨g, o, none⟩ → W'.heap[g]? = W.heap[g]?) : MarkedKLp W' a n K := by
 rcases h with h | ⟨g, ha, hM⟩
 ·exact Or.inl h
 ·refine Or.inr ⟨g, ha, fun i hi => ?_⟩
  have hbk := hb g 0 (by omega) ha
  obtain ⟨h0, h1, h2, h3, h4, h5, h6⟩ := hM i hi
  exact ⟨(World.cell?_of_block (w := W) hbk).trans h0, (World.cell?_of_block (w := W) hbk).trans h1, (World.cell?_of_block (w := W) hbk).trans h2, (World.cell?_of_block (w := W) hbk).trans h3, (World.cell?_of_block (w := W) hbk).trans h4, (World.cell?_of_block (w := W) hbk).trans h5, (World.cell?_of_block (w := W) hbk).trans h6⟩
end Go.Proofs.YtflignpbboiahaaGreat
