/- Proved here: what is kept of an operator behind a call: its mark, and its rows in order, in new memory. -/
import Derived.Test.YtflignpbboiahaaOpKp
import Derived.Test.YtflignpbboiahaaStepF
import Derived.Test.YtflignpbboiahaaRwaOp
import Derived.Stop.RegionWithIn
namespace Go.Proofs.Ytflignpbboiahaa
open Go.ChangeShapes Go.WideShapes Go.ChangeAt Go.RowKit Go.Shelf Go.Maps
set_option linter.unusedVariables false

set_option linter.unusedSimpArgs false
attribute [local go_sem] Oper.semAt_some
theorem own_ne_ty {W : World} {B b size n : Nat} {e ty : TypeId} {v : Value} {ys : List Value} {cs : Array Value} (h : W.ownsRow B e size v n ys) (hb : W.heap[b]? = some (.cells cs ty (0, 0))) (hne : ty ≠ e) : v.ownBlock ≠ some b := by
  rcases h.2 with ⟨rfl, _⟩ | ⟨g, cap, cur, rfl, _, hgb, _⟩
  · simp [Value.ownBlock]
  · intro e9
    simp [Value.ownBlock] at e9
    subst e9
    rw [hb] at hgb
    simp only [Option.some.injEq, Obj.cells.injEq] at hgb
    exact hne hgb.2.1
theorem own_cells {W : World} {B n : Nat} {v : Value} {ys : List Value} (h : W.ownsRow B 66 13 v n ys) (r : Nat) (e : v.ownBlock = some r) : ∃ cs ty, W.heap[r]? = some (.cells cs ty (0, 0)) ∧ turnT ty = true := by
  rcases h.2 with ⟨rfl, _⟩ | ⟨g, cap, cur, rfl, _, hgb, _⟩
  · cases e
  · simp [Value.ownBlock] at e
    subst e
    exact ⟨_, _, hgb, by decide⟩
theorem ownOr_geX {W : World} {B size n : Nat} {e : TypeId} {v : Value} {ys : List Value} (h : W.ownsRow B e size v n ys) : ∀ k, v.ownBlock = some k → B ≤ k := by
  intro k hk
  rcases h.2 with ⟨rfl, _⟩ | ⟨g, cap, cur, rfl, hg, _⟩
  · cases hk
  · simp [Value.ownBlock] at hk; omega
theorem own_setX {W : World} {p : Addr} {u : Value} {B : Nat} {e : TypeId} {size n : Nat} {v : Value} {xs : List Value} (h : W.ownsRow B e size v n xs) (hp : v.ownBlock ≠ some p.block) : (W.setCell p u).ownsRow B e size v n xs := by
  rcases h with ⟨hl, h | ⟨g, cap, cur, rfl, hB, hblk, r⟩⟩
  · exact ⟨hl, Or.inl h⟩
  · exact ⟨hl, Or.inr ⟨g, cap, cur, rfl, hB, (Below.heap_setCell _ _ _ _ (fun e => hp (by rw [← e]; rfl))).trans hblk, r⟩⟩
def actS (w : World) (Bo mb : Nat) (m : Int) {es : List Ent} (x : EntX es) : Act := { tmps := #[.pointer (some ⟨Bo, 0, none⟩), undef, .pointer (some ⟨w.heap.size, 0, none⟩), .pointer (some ⟨w.heap.size + 1, 0, none⟩), undef, .pointer (some ⟨(entOf x).1, 0, none⟩), .pointer (some ⟨Bo, 0, none⟩), .pointer (some ⟨Bo, 0, none⟩), .pointer (some ⟨Bo, 10, none⟩), .int .i64 m, .agg #[.int .i64 m, .slice none 0 0], .pointer (some ⟨Bo, 0, none⟩), .pointer (some ⟨Bo, 0, none⟩), .pointer (some ⟨Bo, 11, none⟩), .map (some mb), (.func (.func 60) #[] #[.pointer (some ⟨w.heap.size + 1 + 1, 0, none⟩)]), .agg #[.int .i64 x.1.1.1, .int .i64 x.1.1.2.1, .int .i64 x.1.1.2.2], .pointer (some ⟨(entOf x).1, 0, none⟩), undef, undef, undef, undef, undef, undef, undef, undef, undef], defers := [] }
/-- What stands between two rounds. -/
def SttI (w : World) (m : Int) (nn : Nat) {es : List Ent} (pre : List (EntX es)) (W : World) : Prop := ∃ rv, W.heap[w.heap.size + 1]? = some (.cells #[.int .i64 m, rv] 30 (0, 0)) ∧ W.ownsRow w.heap.size 66 13 rv pre.length (flatOr (pre.map (fun x => (entOf x).2))) ∧ pre.length ≤ nn ∧ W.heap[w.heap.size]? = some (.cells #[.int .i64 0, .slice none 0 0] 30 (0, 0)) ∧ Below w.heap.size w W
theorem row_cells {W W' : World} {row : Option Nat} {k : Nat} {cs : Array Value} {ty : TypeId} (h : W.heap[k]? = some (.cells cs ty (0, 0))) (hg : W.grownBy W' row) (hr : ∀ r, row = some r → ∃ o : Obj, W.heap[r]? = some o ∧ o.isCells = false) : W'.heap[k]? = some (.cells cs ty (0, 0)) := by
  refine (hg.block k (Array.getElem?_eq_some_iff.1 h).1 (fun e => ?_)).trans h
  obtain ⟨o, ho, hc⟩ := hr k e.symm
  rw [h] at ho
  cases ho
  cases hc
theorem own_row {W W' : World} {row : Option Nat} {B size n : Nat} {e : TypeId} {v : Value} {ys : List Value} (h : W.ownsRow B e size v n ys) (hg : W.grownBy W' row) (hr : ∀ r, row = some r → ∃ o : Obj, W.heap[r]? = some o ∧ o.isCells = false) : W'.ownsRow B e size v n ys := by
  rcases h with ⟨hl, h | ⟨g, cap, cur, hv, hB, hblk, r⟩⟩
  · exact ⟨hl, Or.inl h⟩
  · exact ⟨hl, Or.inr ⟨g, cap, cur, hv, hB, row_cells hblk hg hr, r⟩⟩
theorem sttI_own (w : World) (m : Int) (nn : Nat) {es : List Ent} (B : Nat) (hB : w.heap.size ≤ B) : OwnFrom B (SttI w m nn (es := es)) := fun s W W' row h hg hr => by
  obtain ⟨rv, h1, h2, h3, h4, h5⟩ := h
  have hr' := fun r e => (hr r e).2
  exact ⟨rv, row_cells h1 hg hr', own_row h2 hg hr', h3, row_cells h4 hg hr', h5.grown hg h5.size (fun k e => by have := (hr k e).1; omega)⟩

set_option maxRecDepth 100000 in
set_option maxHeartbeats 8000000 in
theorem state_any (Bo B mb nn : Nat) (s t k z q l e : Int) (b : Bool) (v r m : Int) (pv lv : Value) (es : List Ent) (w : World) (hO : w.heap[Bo]? = some (.cells (opV s t k z q l e b v r m mb pv lv) 54 (0, 0))) (hR : RowsI w B mb nn es) (hrise : RiseE es) (hok : ∀ e ∈ es, ok3 (plO e.2)) (hnn : nn ≤ 1000) :
    Calls Try.prog 25 #[.pointer (some ⟨Bo, 0, none⟩)] w fun e' w' => ∃ a c, e' = .returned (.agg #[.int .i64 m, .slice a es.length c]) ∧ OwnOr w' w.heap.size (.slice a es.length c) (es.map (fun e => e.2)) ∧ Below w.heap.size w w' := by
  obtain ⟨i0, hi, hz0', hz1', hz2'⟩ := info_parts Try.infoOr
  have hBo : Bo < w.heap.size := (Array.getElem?_eq_some_iff.1 hO).1
  have c10 : w.cell? ⟨Bo, 10, none⟩ = some (.int .i64 m) := Joins.cell_of_block hO 10
  have c11 : w.cell? ⟨Bo, 11, none⟩ = some (.map (some mb)) := Joins.cell_of_block hO 11
  refine (callsIn_wide (n := 20)).1 ?_
  refine callsIn_of_wp_marks Try.func25 rfl trivial ?_ rfl
  simp only [Try.ntmps25, List.size_toArray, List.length_cons, List.length_nil, Nat.reduceAdd, Nat.reduceSub, Array.replicate_succ, Array.replicate_zero, List.push_toArray, List.append_toArray, List.nil_append, List.cons_append]
  have hB0 : Below w.heap.size w (((w.alloc (.cells #[.int .i64 0, .slice none 0 0] 30)).alloc (.cells #[.int .i64 m, .slice none 0 0] 30)).alloc (.cells #[.map (some mb)] 51)) := bel_alloc (bel_alloc (bel_one _ _) _) _
  have hm : (((w.alloc (.cells #[.int .i64 0, .slice none 0 0] 30)).alloc (.cells #[.int .i64 m, .slice none 0 0] 30)).alloc (.cells #[.map (some mb)] 51)).heap[w.heap.size + 1 + 1]? = some (.cells #[.map (some mb)] 51 (0, 0)) := by
    have := World.alloc_heap_new ((w.alloc (.cells #[.int .i64 0, .slice none 0 0] 30)).alloc (.cells #[.int .i64 m, .slice none 0 0] 30)) (.cells #[.map (some mb)] 51)
    rw [World.size_alloc, World.size_alloc] at this
    exact this
  have hS0 : (((w.alloc (.cells #[.int .i64 0, .slice none 0 0] 30)).alloc (.cells #[.int .i64 m, .slice none 0 0] 30)).alloc (.cells #[.map (some mb)] 51)).heap[w.heap.size + 1]? = some (.cells #[.int .i64 m, .slice none 0 0] 30 (0, 0)) := by
    refine (Below.heap_alloc _ _ _ (by simp)).trans ?_
    have := World.alloc_heap_new (w.alloc (.cells #[.int .i64 0, .slice none 0 0] 30)) (.cells #[.int .i64 m, .slice none 0 0] 30)
    rw [World.size_alloc] at this
    exact this
  have hR0 : (((w.alloc (.cells #[.int .i64 0, .slice none 0 0] 30)).alloc (.cells #[.int .i64 m, .slice none 0 0] 30)).alloc (.cells #[.map (some mb)] 51)).heap[w.heap.size]? = some (.cells #[.int .i64 0, .slice none 0 0] 30 (0, 0)) := (Below.heap_alloc _ _ _ (by simp; omega)).trans ((Below.heap_alloc _ _ _ (by simp)).trans (World.alloc_heap_new w _))
  have hown : OwnsV (((w.alloc (.cells #[.int .i64 0, .slice none 0 0] 30)).alloc (.cells #[.int .i64 m, .slice none 0 0] 30)).alloc (.cells #[.map (some mb)] 51)) mb nn (fun q => (mapO es q).map evO) := by rw [mapO_ev]; exact hR.map.bel hB0
  have hbx : ∀ e ∈ es, BxO w e.1 e.2 := hR.box
  gi_wp2_with (refine ⟨trivial, ?_⟩; gi_at_call 42; refine (callsIn_wide.2 (inorder_any mb _)).mono ?_; rintro e' w1 ⟨rfl, hw1⟩; subst hw1)
  clear c10 c11
  refine wpIn_rangeFunc_ownH rfl (by omega) (gf := 60) (lb := #[.pointer (some ⟨w.heap.size + 1 + 1, 0, none⟩)]) (by simp [go_sem, Act.eval]) trivial (enters_of Try.func60 (by kernel_rfl) rfl)
    (inordX_stops _ (by omega) (w.heap.size + 1 + 1) mb nn evO (mapO es) none zeroEv (PXs es) (fun q _ a ha => mapO_px ha) _ (by omega) hm hown) KpO.trans KpO.put (Below.refl _ _) (fun _ => rfl)
    (SttI w m nn (es := es)) (fun _ _ _ => False) (sttI_own w m nn _ hB0.size) (fun _ _ _ _ _ hs _ _ => hs)
    ⟨_, hS0, World.ownsRow_nil _ _ _ _, Nat.zero_le _, hR0, hB0⟩
    (fun x a' W => a' = actS w Bo mb m x) (fun x a' _ W W' row hs _ _ => hs) ?assign ?body ?done ?stop
  case assign =>
    rintro lb0 pre x W K hI hK
    have HK := hK (actS w Bo mb m x) W (KeepsFrom.refl _ _) (KpO.rfl' W) hI rfl
    clear hK
    have hev := entOf_ev x
    unfold actS at HK
    rw [hev]
    gi_wp2
    exact HK
  case body =>
    rintro lb0 pre x a' W hlb _ ⟨rv, hS, hrow, hpn, hRb, hB⟩ rfl hpl
    have hbe := (hbx _ (entOf_mem x)).bel hB (hbx _ (entOf_mem x)).lt
    have zS : w.heap.size + 1 < W.heap.size := (Array.getElem?_eq_some_iff.1 hS).1
    have cS1 : W.cell? ⟨w.heap.size + 1, 1, none⟩ = some rv := Joins.cell_of_block hS 1
    have cB0 : W.cell? ⟨(entOf x).1, 0, none⟩ = some (.int .i64 (entOf x).2.ky) := Joins.cell_of_block hbe 0
    have cB1 : W.cell? ⟨(entOf x).1, 1, none⟩ = some (.int .i64 (entOf x).2.st) := Joins.cell_of_block hbe 1
    have cB2 : W.cell? ⟨(entOf x).1, 2, none⟩ = some (.int .i64 (entOf x).2.en) := Joins.cell_of_block hbe 2
    have cB3 : W.cell? ⟨(entOf x).1, 3, none⟩ = some (.int .i64 (entOf x).2.an) := Joins.cell_of_block hbe 3
    have cB4 : W.cell? ⟨(entOf x).1, 4, none⟩ = some (.int .i64 (entOf x).2.asu) := Joins.cell_of_block hbe 4
    have cB5 : W.cell? ⟨(entOf x).1, 5, none⟩ = some (.int .i64 (entOf x).2.ale) := Joins.cell_of_block hbe 5
    have cB6 : W.cell? ⟨(entOf x).1, 6, none⟩ = some (.int .i64 (entOf x).2.amo) := Joins.cell_of_block hbe 6
    have cB7 : W.cell? ⟨(entOf x).1, 7, none⟩ = some (.int .i64 (entOf x).2.fn) := Joins.cell_of_block hbe 7
    have cB8 : W.cell? ⟨(entOf x).1, 8, none⟩ = some (.int .i64 (entOf x).2.fsu) := Joins.cell_of_block hbe 8
    have cB9 : W.cell? ⟨(entOf x).1, 9, none⟩ = some (.int .i64 (entOf x).2.fle) := Joins.cell_of_block hbe 9
    have cB10 : W.cell? ⟨(entOf x).1, 10, none⟩ = some (.int .i64 (entOf x).2.fmo) := Joins.cell_of_block hbe 10
    have cB11 : W.cell? ⟨(entOf x).1, 11, none⟩ = some (.int .i64 (entOf x).2.td) := Joins.cell_of_block hbe 11
    have cB12 : W.cell? ⟨(entOf x).1, 12, none⟩ = some (.bool (entOf x).2.tm) := Joins.cell_of_block hbe 12
    have HR := hide hrow
    have HS := hide hS
    have HRb := hide hRb
    clear hrow hS hRb hm hS0 hR0 hown hbe
    unfold actS
    gi_wp2
    refine wpIn_region_last (by kernel_rfl) (by kernel_rfl) (by kernel_rfl) (fun L a' W' => ∃ V : Nat → Value, a' = ({ tmps := #[.pointer (some ⟨Bo, 0, none⟩), undef, .pointer (some ⟨w.heap.size, 0, none⟩), .pointer (some ⟨w.heap.size + 1, 0, none⟩), undef, .pointer (some ⟨(entOf x).1, 0, none⟩), .pointer (some ⟨Bo, 0, none⟩), .pointer (some ⟨Bo, 0, none⟩), .pointer (some ⟨Bo, 10, none⟩), .int .i64 m, .agg #[.int .i64 m, .slice none 0 0], .pointer (some ⟨Bo, 0, none⟩), .pointer (some ⟨Bo, 0, none⟩), .pointer (some ⟨Bo, 11, none⟩), .map (some mb), (.func (.func 60) #[] #[.pointer (some ⟨w.heap.size + 1 + 1, 0, none⟩)]), .agg #[.int .i64 x.1.1.1, .int .i64 x.1.1.2.1, .int .i64 x.1.1.2.2], .pointer (some ⟨(entOf x).1, 0, none⟩), V 0, V 1, V 2, V 3, V 4, V 5, V 6, V 7, undef], defers := [] } : Act) ∧ ((L 0 = true → V 0 = .pointer (some ⟨w.heap.size + 1, 1, none⟩)) ∧ (L 1 = true → V 1 = rv) ∧ (L 2 = true → V 2 = .pointer (some ⟨(entOf x).1, 0, none⟩)) ∧ (L 3 = true → V 3 = .pointer (some ⟨(entOf x).1, 0, none⟩)) ∧ (L 4 = true → V 4 = .agg #[.int .i64 (entOf x).2.ky, .int .i64 (entOf x).2.st, .int .i64 (entOf x).2.en, .int .i64 (entOf x).2.an, .int .i64 (entOf x).2.asu, .int .i64 (entOf x).2.ale, .int .i64 (entOf x).2.amo, .int .i64 (entOf x).2.fn, .int .i64 (entOf x).2.fsu, .int .i64 (entOf x).2.fle, .int .i64 (entOf x).2.fmo, .int .i64 (entOf x).2.td, .bool (entOf x).2.tm]) ∧ (L 5 = true → V 5 = .slice (some ⟨W.heap.size, 0, none⟩) 1 1) ∧ (L 7 = true → V 7 = .pointer (some ⟨w.heap.size + 1, 1, none⟩))) ∧ (L 5 = false → W' = W.drew) ∧ (L 5 = true → L 6 = false → W' = (W.alloc (.cells #[.int .i64 (entOf x).2.ky, .int .i64 (entOf x).2.st, .int .i64 (entOf x).2.en, .int .i64 (entOf x).2.an, .int .i64 (entOf x).2.asu, .int .i64 (entOf x).2.ale, .int .i64 (entOf x).2.amo, .int .i64 (entOf x).2.fn, .int .i64 (entOf x).2.fsu, .int .i64 (entOf x).2.fle, .int .i64 (entOf x).2.fmo, .int .i64 (entOf x).2.td, .bool (entOf x).2.tm] 66)).drew) ∧ (L 5 = true → L 4 = true) ∧ (L 6 = true → L 5 = true ∧ L 1 = true) ∧ (L 6 = true → Hid (W'.ownsRow w.heap.size 66 13 (V 6) (pre.length + 1) (flatOr (pre.map (fun x => (entOf x).2)) ++ [.int .i64 (entOf x).2.ky, .int .i64 (entOf x).2.st, .int .i64 (entOf x).2.en, .int .i64 (entOf x).2.an, .int .i64 (entOf x).2.asu, .int .i64 (entOf x).2.ale, .int .i64 (entOf x).2.amo, .int .i64 (entOf x).2.fn, .int .i64 (entOf x).2.fsu, .int .i64 (entOf x).2.fle, .int .i64 (entOf x).2.fmo, .int .i64 (entOf x).2.td, .bool (entOf x).2.tm]) ∧ (W.alloc (.cells #[.int .i64 (entOf x).2.ky, .int .i64 (entOf x).2.st, .int .i64 (entOf x).2.en, .int .i64 (entOf x).2.an, .int .i64 (entOf x).2.asu, .int .i64 (entOf x).2.ale, .int .i64 (entOf x).2.amo, .int .i64 (entOf x).2.fn, .int .i64 (entOf x).2.fsu, .int .i64 (entOf x).2.fle, .int .i64 (entOf x).2.fmo, .int .i64 (entOf x).2.td, .bool (entOf x).2.tm] 66)).drew.grownBy W' rv.ownBlock))) ?_ ?_
    · exact ⟨fun _ => undef, rfl, ⟨(fun h9 => (by cases h9)), (fun h9 => (by cases h9)), (fun h9 => (by cases h9)), (fun h9 => (by cases h9)), (fun h9 => (by cases h9)), (fun h9 => (by cases h9)), (fun h9 => (by cases h9))⟩, fun _ => rfl, fun h9 => (by cases h9), fun h9 => (by cases h9), fun h9 => (by cases h9), fun h9 => (by cases h9)⟩
    refine ⟨?_, ?_, ?_, ?_, ?_, ?_, ?_, ?_, ?_⟩
    · intro L a' W' hI hLj hE K' hK
      obtain ⟨V, rfl, ⟨hv0, hv1, hv2, hv3, hv4, hv5, hv7⟩, hw0, hw1, hw2, hw4, hw3⟩ := hI
      go_simp
      exact hK.out _ _ ⟨fun m9 => if m9 = 0 then .pointer (some ⟨w.heap.size + 1, 1, none⟩) else V m9, rfl, ⟨fun _ => rfl, fun h9 => hv1 (by simpa [more] using h9), fun h9 => hv2 (by simpa [more] using h9), fun h9 => hv3 (by simpa [more] using h9), fun h9 => hv4 (by simpa [more] using h9), fun h9 => hv5 (by simpa [more] using h9), fun h9 => hv7 (by simpa [more] using h9)⟩, fun h9 => hw0 (by simpa [more] using h9), fun h9 h8 => hw1 (by simpa [more] using h9) (by simpa [more] using h8), fun h9 => by have := hw2 (by simpa [more] using h9); simp [more, this], fun h9 => by have := hw4 (by simpa [more] using h9); simp [more, this], fun h9 => hw3 (by simpa [more] using h9)⟩
    · intro L a' W' hI hLj hE K' hK
      obtain ⟨V, rfl, ⟨hv0, hv1, hv2, hv3, hv4, hv5, hv7⟩, hw0, hw1, hw2, hw4, hw3⟩ := hI
      have el0 := hE ⟨0, .data⟩ (by simp) rfl
      have ev0 := hv0 el0
      have h6 : L 6 = false := by
        cases h9 : L 6 with
        | false => rfl
        | true => have := (hw4 h9).2; rw [hLj] at this; cases this
      have k1 : W'.cell? ⟨w.heap.size + 1, 1, none⟩ = some rv := by
        cases h5 : L 5 with
        | false => rw [hw0 h5]; exact cS1
        | true => rw [hw1 h5 h6]; exact ((bel_one W _).cell (p := ⟨w.heap.size + 1, 1, none⟩) zS).trans cS1
      rw [ev0]
      go_simp
      exact hK.out _ _ ⟨fun m9 => if m9 = 1 then rv else V m9, (by simp [ev0]), ⟨fun h9 => hv0 (by simpa [more] using h9), fun _ => rfl, fun h9 => hv2 (by simpa [more] using h9), fun h9 => hv3 (by simpa [more] using h9), fun h9 => hv4 (by simpa [more] using h9), fun h9 => hv5 (by simpa [more] using h9), fun h9 => hv7 (by simpa [more] using h9)⟩, fun h9 => hw0 (by simpa [more] using h9), fun h9 h8 => hw1 (by simpa [more] using h9) (by simpa [more] using h8), fun h9 => by have := hw2 (by simpa [more] using h9); simp [more, this], fun h9 => by have := hw4 (by simpa [more] using h9); simp [more, this], fun h9 => hw3 (by simpa [more] using h9)⟩
    · intro L a' W' hI hLj hE K' hK
      obtain ⟨V, rfl, ⟨hv0, hv1, hv2, hv3, hv4, hv5, hv7⟩, hw0, hw1, hw2, hw4, hw3⟩ := hI
      go_simp
      exact hK.out _ _ ⟨fun m9 => if m9 = 2 then .pointer (some ⟨(entOf x).1, 0, none⟩) else V m9, rfl, ⟨fun h9 => hv0 (by simpa [more] using h9), fun h9 => hv1 (by simpa [more] using h9), fun _ => rfl, fun h9 => hv3 (by simpa [more] using h9), fun h9 => hv4 (by simpa [more] using h9), fun h9 => hv5 (by simpa [more] using h9), fun h9 => hv7 (by simpa [more] using h9)⟩, fun h9 => hw0 (by simpa [more] using h9), fun h9 h8 => hw1 (by simpa [more] using h9) (by simpa [more] using h8), fun h9 => by have := hw2 (by simpa [more] using h9); simp [more, this], fun h9 => by have := hw4 (by simpa [more] using h9); simp [more, this], fun h9 => hw3 (by simpa [more] using h9)⟩
    · intro L a' W' hI hLj hE K' hK
      obtain ⟨V, rfl, ⟨hv0, hv1, hv2, hv3, hv4, hv5, hv7⟩, hw0, hw1, hw2, hw4, hw3⟩ := hI
      have el2 := hE ⟨2, .data⟩ (by simp) rfl
      have ev2 := hv2 el2
      rw [ev2]
      go_simp
      exact hK.out _ _ ⟨fun m9 => if m9 = 3 then .pointer (some ⟨(entOf x).1, 0, none⟩) else V m9, (by simp [ev2]), ⟨fun h9 => hv0 (by simpa [more] using h9), fun h9 => hv1 (by simpa [more] using h9), fun h9 => hv2 (by simpa [more] using h9), fun _ => rfl, fun h9 => hv4 (by simpa [more] using h9), fun h9 => hv5 (by simpa [more] using h9), fun h9 => hv7 (by simpa [more] using h9)⟩, fun h9 => hw0 (by simpa [more] using h9), fun h9 h8 => hw1 (by simpa [more] using h9) (by simpa [more] using h8), fun h9 => by have := hw2 (by simpa [more] using h9); simp [more, this], fun h9 => by have := hw4 (by simpa [more] using h9); simp [more, this], fun h9 => hw3 (by simpa [more] using h9)⟩
    · intro L a' W' hI hLj hE K' hK
      obtain ⟨V, rfl, ⟨hv0, hv1, hv2, hv3, hv4, hv5, hv7⟩, hw0, hw1, hw2, hw4, hw3⟩ := hI
      have el3 := hE ⟨3, .data⟩ (by simp) rfl
      have ev3 := hv3 el3
      have h5 : L 5 = false := by
        cases h9 : L 5 with
        | false => rfl
        | true => have := hw2 h9; rw [hLj] at this; cases this
      obtain rfl := hw0 h5
      have d0 : W.drew.cell? ⟨(entOf x).1, 0, none⟩ = some (.int .i64 (entOf x).2.ky) := cB0
      have d1 : W.drew.cell? ⟨(entOf x).1, 1, none⟩ = some (.int .i64 (entOf x).2.st) := cB1
      have d2 : W.drew.cell? ⟨(entOf x).1, 2, none⟩ = some (.int .i64 (entOf x).2.en) := cB2
      have d3 : W.drew.cell? ⟨(entOf x).1, 3, none⟩ = some (.int .i64 (entOf x).2.an) := cB3
      have d4 : W.drew.cell? ⟨(entOf x).1, 4, none⟩ = some (.int .i64 (entOf x).2.asu) := cB4
      have d5 : W.drew.cell? ⟨(entOf x).1, 5, none⟩ = some (.int .i64 (entOf x).2.ale) := cB5
      have d6 : W.drew.cell? ⟨(entOf x).1, 6, none⟩ = some (.int .i64 (entOf x).2.amo) := cB6
      have d7 : W.drew.cell? ⟨(entOf x).1, 7, none⟩ = some (.int .i64 (entOf x).2.fn) := cB7
      have d8 : W.drew.cell? ⟨(entOf x).1, 8, none⟩ = some (.int .i64 (entOf x).2.fsu) := cB8
      have d9 : W.drew.cell? ⟨(entOf x).1, 9, none⟩ = some (.int .i64 (entOf x).2.fle) := cB9
      have d10 : W.drew.cell? ⟨(entOf x).1, 10, none⟩ = some (.int .i64 (entOf x).2.fmo) := cB10
      have d11 : W.drew.cell? ⟨(entOf x).1, 11, none⟩ = some (.int .i64 (entOf x).2.td) := cB11
      have d12 : W.drew.cell? ⟨(entOf x).1, 12, none⟩ = some (.bool (entOf x).2.tm) := cB12
      rw [ev3]
      go_simp
      exact hK.out _ _ ⟨fun m9 => if m9 = 4 then .agg #[.int .i64 (entOf x).2.ky, .int .i64 (entOf x).2.st, .int .i64 (entOf x).2.en, .int .i64 (entOf x).2.an, .int .i64 (entOf x).2.asu, .int .i64 (entOf x).2.ale, .int .i64 (entOf x).2.amo, .int .i64 (entOf x).2.fn, .int .i64 (entOf x).2.fsu, .int .i64 (entOf x).2.fle, .int .i64 (entOf x).2.fmo, .int .i64 (entOf x).2.td, .bool (entOf x).2.tm] else V m9, (by simp [ev3]), ⟨fun h9 => hv0 (by simpa [more] using h9), fun h9 => hv1 (by simpa [more] using h9), fun h9 => hv2 (by simpa [more] using h9), fun h9 => hv3 (by simpa [more] using h9), fun _ => rfl, fun h9 => hv5 (by simpa [more] using h9), fun h9 => hv7 (by simpa [more] using h9)⟩, fun h9 => hw0 (by simpa [more] using h9), fun h9 h8 => hw1 (by simpa [more] using h9) (by simpa [more] using h8), fun h9 => by have := hw2 (by simpa [more] using h9); simp [more, this], fun h9 => by have := hw4 (by simpa [more] using h9); simp [more, this], fun h9 => hw3 (by simpa [more] using h9)⟩
    · intro L a' W' hI hLj hE K' hK
      obtain ⟨V, rfl, ⟨hv0, hv1, hv2, hv3, hv4, hv5, hv7⟩, hw0, hw1, hw2, hw4, hw3⟩ := hI
      have el4 := hE ⟨4, .data⟩ (by simp) rfl
      have ev4 := hv4 el4
      obtain rfl := hw0 hLj
      have h6 : L 6 = false := by
        cases h9 : L 6 with
        | false => rfl
        | true => have := (hw4 h9).1; rw [hLj] at this; cases this
      rw [ev4]
      go_simp
      exact hK.out _ _ ⟨fun m9 => if m9 = 5 then .slice (some ⟨W.heap.size, 0, none⟩) 1 1 else V m9, (by simp [ev4]), ⟨fun h9 => hv0 (by simpa [more] using h9), fun h9 => hv1 (by simpa [more] using h9), fun h9 => hv2 (by simpa [more] using h9), fun h9 => hv3 (by simpa [more] using h9), fun h9 => hv4 (by simpa [more] using h9), fun _ => rfl, fun h9 => hv7 (by simpa [more] using h9)⟩, fun h9 => (by simp [more] at h9), fun h9 h8 => rfl, fun h9 => by simp [more, el4], fun h9 => by simp [more, h6] at h9, fun h9 => by simp [more, h6] at h9⟩
    · intro L a' W' hI hLj hE K' hK
      obtain ⟨V, rfl, ⟨hv0, hv1, hv2, hv3, hv4, hv5, hv7⟩, hw0, hw1, hw2, hw4, hw3⟩ := hI
      have el1 := hE ⟨1, .data⟩ (by simp) rfl
      have ev1 := hv1 el1
      have el5 := hE ⟨5, .data⟩ (by simp) rfl
      have ev5 := hv5 el5
      obtain rfl := hw1 el5 hLj
      refine step_append_F rfl _ _ 28 rfl w.heap.size 66 i0 _ 13 104 Try.underlying28 hi hz0' hz1' hz2' rfl (by decide) rv pre.length (flatOr (pre.map (fun x => (entOf x).2))) (show V 1 = rv from ev1) (World.ownsRow.alloc (unhide HR) _) ⟨W.heap.size, 0, none⟩ 1 1 [.int .i64 (entOf x).2.ky, .int .i64 (entOf x).2.st, .int .i64 (entOf x).2.en, .int .i64 (entOf x).2.an, .int .i64 (entOf x).2.asu, .int .i64 (entOf x).2.ale, .int .i64 (entOf x).2.amo, .int .i64 (entOf x).2.fn, .int .i64 (entOf x).2.fsu, .int .i64 (entOf x).2.fle, .int .i64 (entOf x).2.fmo, .int .i64 (entOf x).2.td, .bool (entOf x).2.tm] (show V 5 = _ from ev5) rfl (cells_newOr W _ _ _ _ _ _ _ _ _ _ _ _ _ _) (by simp [Value.oneCell']) (by unfold maxLen; omega) (by omega) (by have := hB.size; simp; omega) ?_
      intro v' w' hown' hgrow _
      exact hK.out _ _ ⟨fun m9 => if m9 = 6 then v' else V m9, rfl, ⟨fun h9 => hv0 (by simpa [more] using h9), fun h9 => hv1 (by simpa [more] using h9), fun h9 => hv2 (by simpa [more] using h9), fun h9 => hv3 (by simpa [more] using h9), fun h9 => hv4 (by simpa [more] using h9), fun h9 => hv5 (by simpa [more] using h9), fun h9 => hv7 (by simpa [more] using h9)⟩, fun h9 => by simp [more, el5] at h9, fun _ h8 => by simp [more] at h8, fun h9 => by have := hw2 (by simpa [more] using h9); simp [more, this], fun h9 => by simp [more, el5, el1], fun h9 => hide ⟨hown', hgrow⟩⟩
    · intro L a' W' hI hLj hE K' hK
      obtain ⟨V, rfl, ⟨hv0, hv1, hv2, hv3, hv4, hv5, hv7⟩, hw0, hw1, hw2, hw4, hw3⟩ := hI
      go_simp
      exact hK.out _ _ ⟨fun m9 => if m9 = 7 then .pointer (some ⟨w.heap.size + 1, 1, none⟩) else V m9, rfl, ⟨fun h9 => hv0 (by simpa [more] using h9), fun h9 => hv1 (by simpa [more] using h9), fun h9 => hv2 (by simpa [more] using h9), fun h9 => hv3 (by simpa [more] using h9), fun h9 => hv4 (by simpa [more] using h9), fun h9 => hv5 (by simpa [more] using h9), fun _ => rfl⟩, fun h9 => hw0 (by simpa [more] using h9), fun h9 h8 => hw1 (by simpa [more] using h9) (by simpa [more] using h8), fun h9 => by have := hw2 (by simpa [more] using h9); simp [more, this], fun h9 => by have := hw4 (by simpa [more] using h9); simp [more, this], fun h9 => hw3 (by simpa [more] using h9)⟩
    · intro L a' W' hI hA K' hK
      obtain ⟨V, rfl, ⟨hv0, hv1, hv2, hv3, hv4, hv5, hv7⟩, hw0, hw1, hw2, hw4, hw3⟩ := hI
      have ev7 := hv7 (hA 7 (by decide))
      obtain ⟨hown', hgrow⟩ := unhide (hw3 (hA 6 (by decide)))
      have hneS : rv.ownBlock ≠ some (w.heap.size + 1) := own_ne_ty (unhide HR) (unhide HS) (by decide)
      have hneR : rv.ownBlock ≠ some (w.heap.size) := own_ne_ty (unhide HR) (unhide HRb) (by decide)
      have bS : W'.heap[w.heap.size + 1]? = some (.cells #[.int .i64 m, rv] 30 (0, 0)) := (hgrow.block _ (by simp; omega) (fun e => hneS e.symm)).trans ((Below.heap_alloc _ _ _ zS).trans (unhide HS))
      have bR : W'.heap[w.heap.size]? = some (.cells #[.int .i64 0, .slice none 0 0] 30 (0, 0)) := (hgrow.block _ (by simp; omega) (fun e => hneR e.symm)).trans ((Below.heap_alloc _ _ _ (by omega)).trans (unhide HRb))
      have k0 : W'.cell? ⟨w.heap.size + 1, 0, none⟩ = some (.int .i64 m) := Joins.cell_of_block bS 0
      have k1 : W'.cell? ⟨w.heap.size + 1, 1, none⟩ = some rv := Joins.cell_of_block bS 1
      have f1 : W'.frozen? ⟨w.heap.size + 1, 1, none⟩ = false := by simp [World.frozen?, bS]
      rw [ev7]
      obtain ⟨v6, hv6⟩ : ∃ v6, V 6 = v6 := ⟨_, rfl⟩
      rw [hv6] at hown' ⊢
      obtain ⟨g6, c6, rfl⟩ := ownsRow_succ hown'
      go_simp
      refine hK.out _ _ ?_
      have hbF : Below w.heap.size w (W'.setCell ⟨w.heap.size + 1, 1, none⟩ (.slice (some ⟨g6, 0, none⟩) (pre.length + 1) c6)) := bel_set (Below.grown (bel_drew (bel_alloc hB _)) hgrow (by have := hB.size; simp; omega) (fun k9 e9 => ownOr_geX (unhide HR) k9 e9)) (by simp) _
      have hkp : KpC W (W'.setCell ⟨w.heap.size + 1, 1, none⟩ (.slice (some ⟨g6, 0, none⟩) (pre.length + 1) c6)) := ((KpC.bel (bel_drew (bel_one W _))).trans (KpC.grown hgrow (fun r9 e9 => own_cells (World.ownsRow.alloc (unhide HR) _) r9 e9))).trans (KpC.set _ bS (by decide))
      refine ⟨hkp.from _, hkp.kpo, ⟨_, Joins.block_setCell bS _, ?_, by rw [List.length_append]; simp; omega, (Below.heap_setCell _ _ _ _ (by simp)).trans bR, hbF⟩⟩
      rw [List.map_append, List.length_append]
      simp only [List.map_cons, List.map_nil, List.length_cons, List.length_nil]
      rw [flatOr_snoc]
      exact own_setX hown' (by simpa using own_ne_ty hown' bS (by decide))
  case done =>
    rintro D ys W hD hys ⟨rv, hS, hrow, hpn, hRb, hB⟩ hK
    have hyE := inO hrise hok hys
    have hyl : ys.length = es.length := by have h9 := congrArg List.length hyE; rw [List.length_map] at h9; exact h9
    have hym : ys.map (fun x => (entOf x).2) = es.map (fun e => e.2) := by have h9 := congrArg (List.map (fun e : Ent => e.2)) hyE; rw [List.map_map] at h9; exact h9
    rw [hyl, hym] at hrow
    have hsl : ∃ a c, rv = .slice a es.length c := by
      rcases hrow.2 with ⟨rfl, h0⟩ | ⟨g9, cap9, cur, rfl, _⟩
      · exact ⟨none, 0, by rw [h0]⟩
      · exact ⟨_, _, rfl⟩
    obtain ⟨a, c, rfl⟩ := hsl
    have k0 : W.cell? ⟨w.heap.size + 1, 0, none⟩ = some (.int .i64 m) := Joins.cell_of_block hS 0
    have k1 : W.cell? ⟨w.heap.size + 1, 1, none⟩ = some (.slice a es.length c) := Joins.cell_of_block hS 1
    have j0 : W.cell? ⟨w.heap.size, 0, none⟩ = some (.int .i64 0) := Joins.cell_of_block hRb 0
    have j1 : W.cell? ⟨w.heap.size, 1, none⟩ = some (.slice none 0 0) := Joins.cell_of_block hRb 1
    have f0 : W.frozen? ⟨w.heap.size, 0, none⟩ = false := by simp [World.frozen?, hRb]
    have f1 : W.frozen? ⟨w.heap.size, 1, none⟩ = false := by simp [World.frozen?, hRb]
    have zS : w.heap.size + 1 < W.heap.size := (Array.getElem?_eq_some_iff.1 hS).1
    gi_wp2
    have hneD : D ≠ w.heap.size := by rintro rfl; rw [hRb] at hK; cases hK
    have bF : ((W.setCell ⟨w.heap.size, 0, none⟩ (.int .i64 m)).setCell ⟨w.heap.size, 1, none⟩ (.slice a es.length c)).heap[w.heap.size]? = some (.cells #[.int .i64 m, .slice a es.length c] 30 (0, 0)) := Joins.block_setCell (Joins.block_setCell hRb _) _
    have hKF : ((W.setCell ⟨w.heap.size, 0, none⟩ (.int .i64 m)).setCell ⟨w.heap.size, 1, none⟩ (.slice a es.length c)).heap[D]? = some (.deferred (some [])) := (Below.heap_setCell _ _ _ _ hneD).trans ((Below.heap_setCell _ _ _ _ hneD).trans hK)
    have hOF := own_setX (u := .slice a es.length c) (p := ⟨w.heap.size, 1, none⟩) (own_setX (u := .int .i64 m) (p := ⟨w.heap.size, 0, none⟩) hrow (own_ne_ty hrow hRb (by decide))) (own_ne_ty hrow hRb (by decide))
    have hbF : Below w.heap.size w ((W.setCell ⟨w.heap.size, 0, none⟩ (.int .i64 m)).setCell ⟨w.heap.size, 1, none⟩ (.slice a es.length c)) := bel_set (bel_set hB (Nat.le_refl _) _) (Nat.le_refl _) _
    generalize ((W.setCell ⟨w.heap.size, 0, none⟩ (.int .i64 m)).setCell ⟨w.heap.size, 1, none⟩ (.slice a es.length c)) = WF at bF hKF hOF hbF ⊢
    refine ⟨by simp, .inl ⟨_, _, rfl, run_takeDeferred hKF, ?_⟩⟩
    have bG : (WF.putObj D (.deferred none)).heap[w.heap.size]? = some (.cells #[.int .i64 m, .slice a es.length c] 30 (0, 0)) := (World.putObj_heap_other (fun e9 => hneD e9.symm)).trans bF
    have g0 : (WF.putObj D (.deferred none)).cell? ⟨w.heap.size, 0, none⟩ = some (.int .i64 m) := Joins.cell_of_block bG 0
    have g1 : (WF.putObj D (.deferred none)).cell? ⟨w.heap.size, 1, none⟩ = some (.slice a es.length c) := Joins.cell_of_block bG 1
    refine ⟨.agg #[.int .i64 m, .slice a es.length c], (by simp (maxDischargeDepth := 9) [results, Try.results25, go_sem, *]), a, c, rfl, ?_, ?_⟩
    · unfold OwnOr
      rw [List.length_map]
      exact ownsRow_putObj hOF _ hKF rfl
    · exact hbF.trans (belowK_b (w := w) (Nat.le_refl _) WF D _ _ (by simp at hD; omega) hKF rfl rfl)
  case stop =>
    rintro D c pre W _ _ hx _
    exact hx.elim
end Go.Proofs.Ytflignpbboiahaa
