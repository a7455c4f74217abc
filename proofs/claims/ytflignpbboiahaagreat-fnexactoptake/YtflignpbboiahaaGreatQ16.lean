/- Laid together: what the claim needs of the texts that were built one by one. -/
import Derived.Test.YtflignpbboiahaaGreatQ13
import Derived.Test.YtflignpbboiahaaGreatQ15
import Derived.Test.YtflignpbboiahaaGreatQ12
import Derived.Test.YtflignpbboiahaaGreatQ0
set_option linter.unusedVariables false
namespace Go.Proofs.YtflignpbboiahaaGreat
open Go.ChangeShapes Go.WideShapes Go.ChangeAt Go.RowKit Go.Shelf Go.Maps
set_option linter.unusedSimpArgs false
def latX (x1 x2 x3 x4 x5 : Int) (w : WnR) : LpR := ⟨x1, x2, x3, x4, x5, w.a, w.b⟩
def BdO (T : Int) (xs : List OrR) : Prop := ∀ x ∈ xs, (0 ≤ x.en ∧ x.en ≤ 1000) ∧ 0 ≤ x.td ∧ x.td ≤ T
theorem BdO.up {T T' : Int} {xs : List OrR} (h : BdO T xs) (hT : T ≤ T') : BdO T' xs := fun x hx => ⟨(h x hx).1, (h x hx).2.1, by have := (h x hx).2.2; omega⟩
theorem tl_bd {pc : Bool} {m T : Int} {xs : List OrR} {r : OrR} (h : BdO T xs) (hr : (0 ≤ r.en ∧ r.en ≤ 1000) ∧ 0 ≤ r.td ∧ r.td ≤ T) : BdO (T + 1) (tlF pc m xs r).1 := by
 unfold tlF
 split
 ·intro x hx
  rcases putO_mem.1 hx with rfl | ⟨hx, _⟩
  ·exact ⟨hr.1, hr.2.1, by omega⟩
  ·exact (h.up (by omega)) x hx
 ·intro x hx
  rcases putO_mem.1 hx with rfl | ⟨hx, _⟩
  ·exact ⟨hr.1, by show 0 ≤ r.td + 1; omega, by show r.td + 1 ≤ T + 1; omega⟩
  ·exact (h.up (by omega)) x hx
theorem nex_bd {T : Int} {xs : List OrR} {ky st en v : Int} (h : BdO T xs) (hT : 0 ≤ T) (he : 0 ≤ en ∧ en ≤ 1000) : (0 ≤ (nexO (ky, st, en) v xs).en ∧ (nexO (ky, st, en) v xs).en ≤ 1000) ∧ 0 ≤ (nexO (ky, st, en) v xs).td ∧ (nexO (ky, st, en) v xs).td ≤ T := by
 unfold nexO
 cases hf : fndO (ky, st, en) xs with
 | none => exact ⟨he, Int.le_refl _, hT⟩
 | some y => exact h y (fndO_pl hf).2
theorem in_bd {pc : Bool} {l m T : Int} {xs : List OrR} {ky st en v : Int} (h : BdO T xs) (hT : 0 ≤ T) (he : 0 ≤ en ∧ en ≤ 1000) : BdO (T + 1) (inF pc l m xs ky v st en).1 := by
 unfold inF
 split
 ·exact h.up (by omega)
 ·exact tl_bd h (nex_bd h hT he)
theorem spn_bd : ∀ (old : List OrR) (st en : Int), 0 ≤ en ∧ en ≤ 1000 → (∀ x ∈ old, 0 ≤ x.en ∧ x.en ≤ 1000) → 0 ≤ (spnO st en old).2 ∧ (spnO st en old).2 ≤ 1000
 | [], _, _, h, _ => h
 | x :: old, st, en, h, hx => spn_bd old (loI st x.st) (hiI en x.en) (hiI_bd h (hx x (by simp))) (fun y hy => hx y (List.mem_cons_of_mem _ hy))
theorem se_bd {pc : Bool} {l m T : Int} {xs : List OrR} {ky st en v : Int} (h : BdO T xs) (hT : 0 ≤ T) (he : 0 ≤ en ∧ en ≤ 1000) : BdO (T + 1) (seF pc l m xs ky v st en).1 := by
 have hsp := spn_bd (xs.filter (touO ky st en)) st en he (fun x hx => (h x (List.mem_filter.1 hx).1).1)
 unfold seF
 dsimp only
 split
 ·exact h.up (by omega)
 ·split
  ·exact in_bd h hT hsp
  ·exact tl_bd (fun x hx => h x (List.mem_filter.1 hx).1) ⟨hsp, Int.le_refl _, hT⟩
def stF (ses pc : Bool) (l m : Int) (xs : List OrR) (ky v st en : Int) : List OrR × List PnR × Bool := if ses = true then seF pc l m xs ky v st en else inF pc l m xs ky v st en
theorem st_bd {ses pc : Bool} {l m T : Int} {xs : List OrR} {ky st en v : Int} (h : BdO T xs) (hT : 0 ≤ T) (he : 0 ≤ en ∧ en ≤ 1000) : BdO (T + 1) (stF ses pc l m xs ky v st en).1 := by
 unfold stF
 split
 ·exact se_bd h hT he
 ·exact in_bd h hT he
theorem tl_rows (pc : Bool) (m : Int) (xs : List OrR) (r : OrR) : (tlF pc m xs r).1.length ≤ xs.length + 1 := by
 unfold tlF
 split <;> exact putO_len _ _
theorem in_len (pc : Bool) (l m : Int) (xs : List OrR) (ky v st en : Int) : (inF pc l m xs ky v st en).1.length ≤ xs.length + 1 ∧ (inF pc l m xs ky v st en).2.1.length ≤ 1 := by
 unfold inF
 split
 ·simp
 ·exact ⟨tl_rows _ _ _ _, tl_len _ _ _ _⟩
theorem st_len (ses pc : Bool) (l m : Int) (xs : List OrR) (ky v st en : Int) : (stF ses pc l m xs ky v st en).1.length ≤ xs.length + 1 ∧ (stF ses pc l m xs ky v st en).2.1.length ≤ xs.length + 1 := by
 have hi := in_len pc l m xs ky v
 unfold stF
 split
 ·unfold seF
  dsimp only
  split
  ·simp
  ·split
   ·exact ⟨(hi _ _).1, Nat.le_trans (hi _ _).2 (by omega)⟩
   ·refine ⟨Nat.le_trans (tl_rows _ _ _ _) (by have := List.length_filter_le (fun x => !touO ky st en x) xs; omega), ?_⟩
    rw [List.length_append]
    have h1 := gon_len (xs.filter (touO ky st en))
    have h2 := List.length_filter_le (touO ky st en) xs
    have h3 := tl_len pc m (xs.filter (fun x => !touO ky st en x)) (newX (ky, (spnO st en (xs.filter (touO ky st en))).1, (spnO st en (xs.filter (touO ky st en))).2) (allO v (xs.filter (touO ky st en))))
    omega
 ·exact ⟨(hi _ _).1, Nat.le_trans (hi _ _).2 (by omega)⟩
theorem sp_step (ses pc : Bool) (l m ky v : Int) (ys : List OrR) (ps : List PnR) (ls : List WnR) (w : WnR) {ys2 : List OrR} {ps2 : List PnR} {ok : Bool} (h : stF ses pc l m ys ky v w.a w.b = (ys2, ps2, ok)) : spStep ses pc l m ky v (ys, ps, ls) w = (ys2, ps ++ ps2, if ok = true then ls else ls ++ [w]) := by
 unfold stF at h
 unfold spStep
 simp only
 rw [h]
theorem same_trans {w w1 w2 : World} {a a' : Option Addr} {len cap n' c' : Nat} {v : Value} {xs ys zs : List OrR} (h : SameOr w w1 a len cap (.slice a' n' c') xs ys) (k : SameOr w1 w2 a' n' c' v ys zs) (hb : Below w1.heap.size w1 w2) (hz : w.heap.size ≤ w1.heap.size) : SameOr w w2 a len cap v xs zs := by
 rcases k with ⟨rfl, rfl⟩ | k
 ·rcases h with h | h
  ·exact .inl h
  ·exact .inr (own_row h (grown_of0 hb) (fun _ e9 => by cases e9))
 ·exact .inr (World.ownsRow.mono k hz)
theorem same_rows {w w1 : World} {a a' : Option Addr} {len cap n' c' : Nat} {xs ys : List OrR} (h : SameOr w w1 a len cap (.slice a' n' c') xs ys) (h0 : OrRs w a len xs) (hb : Below w.heap.size w w1) (hl : ys.length ≤ 1048576) : OrRs w1 a' n' ys := by
 rcases h with ⟨e9, rfl⟩ | h
 ·simp only [Value.slice.injEq] at e9
  obtain ⟨rfl, rfl, rfl⟩ := e9
  exact h0.below hb
 ·exact hold_sl h hl
theorem same_bel {w w1 w2 : World} {a : Option Addr} {len cap : Nat} {v : Value} {xs ys : List OrR} (h : SameOr w w1 a len cap v xs ys) (hb : Below w1.heap.size w1 w2) : SameOr w w2 a len cap v xs ys := by
 rcases h with h | h
 ·exact .inl h
 ·exact .inr (own_row h (grown_of0 hb) (fun _ e9 => by cases e9))
theorem same_own {w w1 w2 : World} {a : Option Addr} {len cap : Nat} {v u : Value} {xs ys : List OrR} {B size n : Nat} {e : TypeId} {us : List Value} (h : SameOr w w1 a len cap v xs ys) (ho : w1.ownsRow B e size u n us) (hg : w1.grownBy w2 u.ownBlock) (hne : e ≠ 76) : SameOr w w2 a len cap v xs ys := by
 rcases h with h | h
 ·exact .inl h
 ·exact .inr (own_gQ h hg (fun k9 e8 e9 => own_nob h ho (fun e7 => hne e7.symm) e9 e8))
theorem wins_len (k z q T : Int) : (winsOf k z q T).length ≤ 61 := by
 unfold winsOf
 split
 ·simp
 ·split
  ·simp
  ·exact slideGo_len z q T 61 0
theorem slide_bd {z p t : Int} (hz : 1 ≤ z ∧ z ≤ 20) (ht : t ≤ 60) (hp : 0 ≤ p) : ∀ (n : Nat) (s : Int), 0 ≤ s → ∀ x ∈ slideGo z p t n s, 0 ≤ x.b ∧ x.b ≤ 1000
 | 0, _, _, x, hx => by cases hx
 | n + 1, s, hs, x, hx => by
  have ih := slide_bd hz ht hp n (s + p) (by omega)
  unfold slideGo at hx
  split at hx
  ·split at hx
   ·rcases List.mem_cons.1 hx with rfl | hx
    ·exact ⟨by show 0 ≤ s + z; omega, by show s + z ≤ 1000; omega⟩
    ·exact ih x hx
   ·exact ih x hx
  ·cases hx
theorem wins_bd {s t k z p l e v r T : Int} (hj : okJob s t k z p l e v r = true) (hT : 0 ≤ T ∧ T ≤ 60) : ∀ x ∈ winsOf k z p T, 0 ≤ x.b ∧ x.b ≤ 1000 := by
 obtain ⟨hk, hz, hp⟩ := okJob_parts hj
 unfold winsOf
 split
 ·intro x hx
  simp only [List.mem_singleton] at hx
  subst hx
  have h1 := Int.emod_nonneg T (show z ≠ 0 by omega)
  have h2 := Int.emod_lt_of_pos T (show 0 < z by omega)
  exact ⟨by show 0 ≤ T - T % z + z; omega, by show T - T % z + z ≤ 1000; omega⟩
 ·split
  ·intro x hx
   simp only [List.mem_singleton] at hx
   subst hx
   exact ⟨by show 0 ≤ T + z; omega, by show T + z ≤ 1000; omega⟩
  ·refine slide_bd hz hT.2 ?_ 61 0 (by omega)
   unfold stepB at hp
   split at hp
   ·simp only [Bool.and_eq_true] at hp
    have := inB_iff.1 hp.1
    omega
   ·simp at hp
    omega
theorem hold_wn {W : World} {B : Nat} {a : Option Addr} {n c : Nat} {ys : List WnR} (h : OwnWn W B (.slice a n c) ys) (hl : ys.length ≤ 1048576) : WnRs W a n ys := by
 obtain ⟨a', c', e9, h9, _⟩ := holdWn h hl
 simp only [Value.slice.injEq] at e9
 obtain ⟨rfl, rfl, rfl⟩ := e9
 exact h9
theorem wn_set {W : World} {g gq o k : Nat} {x : WnR} {v : Value} (h : WnRAt W gq o x) (hne : g ≠ gq) : WnRAt (W.setCell ⟨g, k, none⟩ v) gq o x := by
 have e9 : ∀ j, (W.setCell ⟨g, k, none⟩ v).cell? ⟨gq, j, none⟩ = W.cell? ⟨gq, j, none⟩ := fun j => World.cell?_setCell_other _ _ _ _ (by intro e; injection e with e1 e2; exact hne e1)
 unfold WnRAt at *
 simp only [e9]
 exact h
set_option maxRecDepth 100000 in
set_option maxHeartbeats 8000000 in
theorem l7take_any (s t k z q l e : Int) (b : Bool) (v r m : Int) (a : Option Addr) (len cap : Nat) (xs : List OrR) (x1 x2 x3 x4 x5 : Int) (w : World) (h : OrRs w a len xs) (hlen : len ≤ 400) (hj : okJob s t k z q l e v r = true) (hT : 0 ≤ x2 ∧ x2 ≤ 60) (hxs : BdO 1500 xs) : Calls Tryz.prog 22 #[.agg #[.int .i64 s, .int .i64 t, .int .i64 k, .int .i64 z, .int .i64 q, .int .i64 l, .int .i64 e, .bool b, .int .i64 v, .int .i64 r], .agg #[.int .i64 m, .slice a len cap], .agg #[.int .i64 x1, .int .i64 x2, .int .i64 x3, .int .i64 x4, .int .i64 x5]] w fun e' w' => ∃ v1 v2 v3, e' = .returned (.tuple #[.agg #[.int .i64 m, v1], v2, v3]) ∧ SameOr w w' a len cap v1 xs (spTake (decide (k = 3)) b l m x3 x4 xs (winsOf k z q x2)).1 ∧ OwnPn w' w.heap.size v2 (spTake (decide (k = 3)) b l m x3 x4 xs (winsOf k z q x2)).2.1 ∧ OwnLp w' w.heap.size v3 ((spTake (decide (k = 3)) b l m x3 x4 xs (winsOf k z q x2)).2.2.map (latX x1 x2 x3 x4 x5)) ∧ Below w.heap.size w w' := by
 obtain ⟨i0, hi, hz0', hz1', hz2'⟩ := info_parts Tryz.infoLp
 obtain ⟨i1, hi1, hy0, hy1, hy2⟩ := info_parts Tryz.infoPn
 have hl := okJob_l hj
 have HWb := hide (wins_bd hj hT)
 have hbE : Below w.heap.size w ((((((w.alloc (.cells #[.int .i64 s, .int .i64 t, .int .i64 k, .int .i64 z, .int .i64 q, .int .i64 l, .int .i64 e, .bool b, .int .i64 v, .int .i64 r] 37)).alloc (.cells #[.int .i64 m, .slice a len cap] 32)).alloc (.cells #[.int .i64 x1, .int .i64 x2, .int .i64 x3, .int .i64 x4, .int .i64 x5] 40)).alloc (.cells #[.int .i64 0, .slice none 0 0] 32)).alloc (.cells #[] 68)).alloc (.cells #[] 71)) := bel_alloc (bel_alloc (bel_alloc (bel_alloc (bel_alloc (bel_one _ _) _) _) _) _) _
 have eJ : ((((((w.alloc (.cells #[.int .i64 s, .int .i64 t, .int .i64 k, .int .i64 z, .int .i64 q, .int .i64 l, .int .i64 e, .bool b, .int .i64 v, .int .i64 r] 37)).alloc (.cells #[.int .i64 m, .slice a len cap] 32)).alloc (.cells #[.int .i64 x1, .int .i64 x2, .int .i64 x3, .int .i64 x4, .int .i64 x5] 40)).alloc (.cells #[.int .i64 0, .slice none 0 0] 32)).alloc (.cells #[] 68)).alloc (.cells #[] 71)).heap[w.heap.size]? = some (.cells #[.int .i64 s, .int .i64 t, .int .i64 k, .int .i64 z, .int .i64 q, .int .i64 l, .int .i64 e, .bool b, .int .i64 v, .int .i64 r] 37 (0, 0)) := aN <| aN <| aN <| aN <| aN <| nA
 have eS : ((((((w.alloc (.cells #[.int .i64 s, .int .i64 t, .int .i64 k, .int .i64 z, .int .i64 q, .int .i64 l, .int .i64 e, .bool b, .int .i64 v, .int .i64 r] 37)).alloc (.cells #[.int .i64 m, .slice a len cap] 32)).alloc (.cells #[.int .i64 x1, .int .i64 x2, .int .i64 x3, .int .i64 x4, .int .i64 x5] 40)).alloc (.cells #[.int .i64 0, .slice none 0 0] 32)).alloc (.cells #[] 68)).alloc (.cells #[] 71)).heap[w.heap.size + 1]? = some (.cells #[.int .i64 m, .slice a len cap] 32 (0, 0)) := aN <| aN <| aN <| aN <| nA
 have eI : ((((((w.alloc (.cells #[.int .i64 s, .int .i64 t, .int .i64 k, .int .i64 z, .int .i64 q, .int .i64 l, .int .i64 e, .bool b, .int .i64 v, .int .i64 r] 37)).alloc (.cells #[.int .i64 m, .slice a len cap] 32)).alloc (.cells #[.int .i64 x1, .int .i64 x2, .int .i64 x3, .int .i64 x4, .int .i64 x5] 40)).alloc (.cells #[.int .i64 0, .slice none 0 0] 32)).alloc (.cells #[] 68)).alloc (.cells #[] 71)).heap[w.heap.size + 1 + 1]? = some (.cells #[.int .i64 x1, .int .i64 x2, .int .i64 x3, .int .i64 x4, .int .i64 x5] 40 (0, 0)) := aN <| aN <| aN <| nA
 have eR : ((((((w.alloc (.cells #[.int .i64 s, .int .i64 t, .int .i64 k, .int .i64 z, .int .i64 q, .int .i64 l, .int .i64 e, .bool b, .int .i64 v, .int .i64 r] 37)).alloc (.cells #[.int .i64 m, .slice a len cap] 32)).alloc (.cells #[.int .i64 x1, .int .i64 x2, .int .i64 x3, .int .i64 x4, .int .i64 x5] 40)).alloc (.cells #[.int .i64 0, .slice none 0 0] 32)).alloc (.cells #[] 68)).alloc (.cells #[] 71)).heap[w.heap.size + 1 + 1 + 1]? = some (.cells #[.int .i64 0, .slice none 0 0] 32 (0, 0)) := aN <| aN <| nA
 have eP : Hid (OwnPn ((((((w.alloc (.cells #[.int .i64 s, .int .i64 t, .int .i64 k, .int .i64 z, .int .i64 q, .int .i64 l, .int .i64 e, .bool b, .int .i64 v, .int .i64 r] 37)).alloc (.cells #[.int .i64 m, .slice a len cap] 32)).alloc (.cells #[.int .i64 x1, .int .i64 x2, .int .i64 x3, .int .i64 x4, .int .i64 x5] 40)).alloc (.cells #[.int .i64 0, .slice none 0 0] 32)).alloc (.cells #[] 68)).alloc (.cells #[] 71)) w.heap.size (.slice (some ⟨w.heap.size + 1 + 1 + 1 + 1, 0, none⟩) 0 0) []) := hide (World.ownsRow.alloc (ownLit (W := ((((w.alloc (.cells #[.int .i64 s, .int .i64 t, .int .i64 k, .int .i64 z, .int .i64 q, .int .i64 l, .int .i64 e, .bool b, .int .i64 v, .int .i64 r] 37)).alloc (.cells #[.int .i64 m, .slice a len cap] 32)).alloc (.cells #[.int .i64 x1, .int .i64 x2, .int .i64 x3, .int .i64 x4, .int .i64 x5] 40)).alloc (.cells #[.int .i64 0, .slice none 0 0] 32))) (B := w.heap.size) _ _ (sA) (by simp)) _)
 have eL : Hid (OwnLp ((((((w.alloc (.cells #[.int .i64 s, .int .i64 t, .int .i64 k, .int .i64 z, .int .i64 q, .int .i64 l, .int .i64 e, .bool b, .int .i64 v, .int .i64 r] 37)).alloc (.cells #[.int .i64 m, .slice a len cap] 32)).alloc (.cells #[.int .i64 x1, .int .i64 x2, .int .i64 x3, .int .i64 x4, .int .i64 x5] 40)).alloc (.cells #[.int .i64 0, .slice none 0 0] 32)).alloc (.cells #[] 68)).alloc (.cells #[] 71)) w.heap.size (.slice (some ⟨w.heap.size + 1 + 1 + 1 + 1 + 1, 0, none⟩) 0 0) []) := hide (ownLit (W := (((((w.alloc (.cells #[.int .i64 s, .int .i64 t, .int .i64 k, .int .i64 z, .int .i64 q, .int .i64 l, .int .i64 e, .bool b, .int .i64 v, .int .i64 r] 37)).alloc (.cells #[.int .i64 m, .slice a len cap] 32)).alloc (.cells #[.int .i64 x1, .int .i64 x2, .int .i64 x3, .int .i64 x4, .int .i64 x5] 40)).alloc (.cells #[.int .i64 0, .slice none 0 0] 32)).alloc (.cells #[] 68))) (B := w.heap.size) _ _ (sA) (by simp))
 obtain ⟨ws, hws⟩ : ∃ ws, winsOf k z q x2 = ws := ⟨_, rfl⟩
 have hwl : ws.length ≤ 61 := by rw [← hws]; exact wins_len k z q x2
 rw [hws] at HWb
 have HRR : Hid (spTake (decide (k = 3)) b l m x3 x4 xs (winsOf k z q x2) = ws.foldl (spStep (decide (k = 3)) b l m x3 x4) (xs, [], [])) := hide (by unfold spTake; rw [hws])
 have HC := hide (l4of_any s t k z q l e b v r x2 ((((((w.alloc (.cells #[.int .i64 s, .int .i64 t, .int .i64 k, .int .i64 z, .int .i64 q, .int .i64 l, .int .i64 e, .bool b, .int .i64 v, .int .i64 r] 37)).alloc (.cells #[.int .i64 m, .slice a len cap] 32)).alloc (.cells #[.int .i64 x1, .int .i64 x2, .int .i64 x3, .int .i64 x4, .int .i64 x5] 40)).alloc (.cells #[.int .i64 0, .slice none 0 0] 32)).alloc (.cells #[] 68)).alloc (.cells #[] 71)) hj hT)
 rw [hws] at HC
 have HX := hide hxs
 clear hws hxs hj
 go_enter Tryz.func22, Tryz.ntmps22
 go_wp2_with fail
 refine (unhide HC).mono ?_
 rintro e' w1 ⟨vw, rfl, hW1, hb1⟩
 have bJ := (hb1.block (w.heap.size) (sA)).trans eJ
 have bS := (hb1.block (w.heap.size + 1) (sA)).trans eS
 have bI := (hb1.block (w.heap.size + 1 + 1) (sA)).trans eI
 have bR := (hb1.block (w.heap.size + 1 + 1 + 1) (sA)).trans eR
 have hbw : Below w.heap.size w w1 := bel_trans hbE hb1
 have hz1 : w.heap.size + 4 ≤ w1.heap.size := by have := hb1.size; simp at this; omega
 have HPo := hide (own_row (unhide eP) (grown_of0 hb1) (fun _ e9 => by cases e9))
 have HLo := hide (own_row (unhide eL) (grown_of0 hb1) (fun _ e9 => by cases e9))
 obtain ⟨aw, cw, rfl, _, _, _⟩ := holdWn hW1 (by omega)
 obtain ⟨nw, hnw⟩ : ∃ nw, ws.length = nw := ⟨_, rfl⟩
 have HWo : Hid (OwnWn w1 w.heap.size (.slice aw nw cw) ws) := hide (by rw [← hnw]; exact World.ownsRow.mono hW1 (by simp; omega))
 rw [hnw] at hwl ⊢
 have HNw := hide hnw
 clear hnw hW1 hb1 eJ eS eI eR eP eL hbE HC
 go_wp2
 go_loopw [9, 10, 12] (fun pv lv iv wr => ∃ (i2 : Nat) (a' : Option Addr) (n' c' : Nat) (ys : List OrR) (ps : List PnR) (ls : List WnR), i2 ≤ nw ∧ iv = .int .i64 i2 ∧ Hid ((ws.take i2).foldl (spStep (decide (k = 3)) b l m x3 x4) (xs, [], []) = (ys, ps, ls)) ∧ Hid (BdO (1500 + i2) ys) ∧ Hid (ys.length ≤ 400 + i2) ∧ Hid (ps.length ≤ 500 * i2) ∧ Hid (ls.length ≤ i2) ∧ Hid (OwnPn wr w.heap.size pv ps) ∧ Hid (OwnLp wr w.heap.size lv (ls.map (latX x1 x2 x3 x4 x5))) ∧ Hid (SameOr w wr a len cap (.slice a' n' c') xs ys) ∧ Hid (OwnWn wr w.heap.size (.slice aw nw cw) ws) ∧ wr.heap[w.heap.size]? = some (.cells #[.int .i64 s, .int .i64 t, .int .i64 k, .int .i64 z, .int .i64 q, .int .i64 l, .int .i64 e, .bool b, .int .i64 v, .int .i64 r] 37 (0, 0)) ∧ wr.heap[w.heap.size + 1]? = some (.cells #[.int .i64 m, .slice a' n' c'] 32 (0, 0)) ∧ wr.heap[w.heap.size + 1 + 1]? = some (.cells #[.int .i64 x1, .int .i64 x2, .int .i64 x3, .int .i64 x4, .int .i64 x5] 40 (0, 0)) ∧ wr.heap[w.heap.size + 1 + 1 + 1]? = some (.cells #[.int .i64 0, .slice none 0 0] 32 (0, 0)) ∧ Below w.heap.size w wr ∧ w.heap.size + 4 ≤ wr.heap.size) (fun _ _ iv _ => nw - (intOf iv).toNat)
 case atStart =>
  exact ⟨0, a, len, cap, xs, [], [], Nat.zero_le _, rfl, hide rfl, hide ((unhide HX).up (by omega)), hide (by rw [h.1]; omega), hide (Nat.zero_le _), hide (Nat.zero_le _), HPo, HLo, hide (.inl ⟨rfl, rfl⟩), HWo, bJ, bS, bI, bR, hbw, hz1⟩
 case round =>
  clear bJ bS bI bR HPo HLo HWo hbw
  obtain ⟨i2, a', n', c', ys, ps, ls, hi2, rfl, HFo, HBd, HYl, HPl, HLl, HPo, HLo, HSa, HWo, bJ, bS, bI, bR, hbw, hzr⟩ := hrel
  by_cases hlt : i2 < nw
  ·have hWR := hold_wn (unhide HWo) (by rw [unhide HNw]; omega)
   obtain ⟨_, _, hy⟩ := hWR
   obtain ⟨gw, ow, rfl, hr⟩ := hy.resolve_left (by omega)
   obtain ⟨x, hxk⟩ : ∃ x, ws[i2]? = some x := ⟨_, List.getElem?_eq_getElem (by rw [unhide HNw]; omega)⟩
   have hrow := hr i2 x hxk
   have hgw : gw < wr.heap.size := hrow.lt
   have hgS : w.heap.size + 1 ≠ gw := fun e9 => own_ne_ty (unhide HWo) bS (by decide) (by show some gw = _; rw [← e9])
   have hxb := unhide HWb x (List.mem_of_getElem? hxk)
   have HXK := hide hxk
   obtain ⟨xa, xb⟩ := x
   dsimp only at hxb
   clear hr hy hxk
   go_upto_region 9 with fail
   have hbA : Below wr.heap.size wr (wr.alloc (.cells #[] 68)) := bel_one _ _
   have hzA : w.heap.size + 4 ≤ (wr.alloc (.cells #[] 68)).heap.size := by simp; omega
   have hgA : gw < (wr.alloc (.cells #[] 68)).heap.size := by simp; omega
   generalize wr.alloc (.cells #[] 68) = wA at hbA hzA hgA ⊢
   replace hrow := hrow.below hbA hgw
   replace HSa := hide (same_bel (unhide HSa) hbA)
   have zwA : wr.heap.size ≤ wA.heap.size := hbA.size
   replace bJ := (hbA.block (w.heap.size) (by omega)).trans bJ
   replace bS := (hbA.block (w.heap.size + 1) (by omega)).trans bS
   replace bI := (hbA.block (w.heap.size + 1 + 1) (by omega)).trans bI
   replace bR := (hbA.block (w.heap.size + 1 + 1 + 1) (by omega)).trans bR
   replace HPo := hide (own_row (unhide HPo) (grown_of0 hbA) (fun _ e9 => by cases e9))
   replace HLo := hide (own_row (unhide HLo) (grown_of0 hbA) (fun _ e9 => by cases e9))
   replace HWo := hide (own_row (unhide HWo) (grown_of0 hbA) (fun _ e9 => by cases e9))
   replace hbw : Below w.heap.size w wA := bel_trans hbw hbA
   clear hbA hgw
   have hgw := hgA
   have hzr0 := hzr
   have hzr := hzA
   clear hgA hzA
   have HRw := hide (same_rows (unhide HSa) h hbw (by have := unhide HYl; omega))
   have hn' : n' ≤ 800 := by have h9 := (unhide HRw).1; have := unhide HYl; omega
   have j0 := Joins.cell_of_block bJ 0
   have j1 := Joins.cell_of_block bJ 1
   have j2 := Joins.cell_of_block bJ 2
   have j3 := Joins.cell_of_block bJ 3
   have j4 := Joins.cell_of_block bJ 4
   have j5 := Joins.cell_of_block bJ 5
   have j6 := Joins.cell_of_block bJ 6
   have j7 := Joins.cell_of_block bJ 7
   have j8 := Joins.cell_of_block bJ 8
   have j9 := Joins.cell_of_block bJ 9
   simp only [gA, gZ, gS] at j0 j1 j2 j3 j4 j5 j6 j7 j8 j9
   by_cases hk3 : k = 3
   ·have hkd : decide (k = 3) = true := by simp [hk3]
    have hkb : (k == 3) = true := by simp [hk3]
    clear hk3
    go_wp2_with fail
    clear j0 j1 j2 j3 j4 j5 j6 j7 j8 j9
    refine wp_region_held_drew (S := (fun W => W.heap[w.heap.size]? = some (.cells #[.int .i64 s, .int .i64 t, .int .i64 k, .int .i64 z, .int .i64 q, .int .i64 l, .int .i64 e, .bool b, .int .i64 v, .int .i64 r] 37 (0, 0)) ∧ W.heap[w.heap.size + 1 + 1]? = some (.cells #[.int .i64 x1, .int .i64 x2, .int .i64 x3, .int .i64 x4, .int .i64 x5] 40 (0, 0)) ∧ WnRAt W gw (ow + i2 * 2) (⟨xa, xb⟩ : WnR))) (by kernel_rfl) ?_ (fun hHeld => ?_)
    ·((try dsimp only); exact ⟨bJ, bI, hrow⟩)
    refine kT 0 ?_ ?_ ?_
    rotate_left
    ·(intro w9 hSw; (try dsimp only at hSw); obtain ⟨q0, q1, d0, d1⟩ := hSw; have ax0 := cA q0 0; have ax1 := cA q0 1; have ax2 := cA q0 2; have ax3 := cA q0 3; have ax4 := cA q0 4; have ax5 := cA q0 5; have ax6 := cA q0 6; have ax7 := cA q0 7; have ax8 := cA q0 8; have ax9 := cA q0 9; simp only [gA, gZ, gS] at ax0 ax1 ax2 ax3 ax4 ax5 ax6 ax7 ax8 ax9; go_simp <;> with_reducible rfl)
    try simp only [Act.put, tA, tZ, tS]
    refine kT 2 ?_ ?_ ?_
    rotate_left
    ·(intro w9 hSw; (try dsimp only at hSw); obtain ⟨q0, q1, d0, d1⟩ := hSw; have bx0 := cA q1 0; have bx1 := cA q1 1; have bx2 := cA q1 2; have bx3 := cA q1 3; have bx4 := cA q1 4; simp only [gA, gZ, gS] at bx0 bx1 bx2 bx3 bx4; go_simp <;> with_reducible rfl)
    try simp only [Act.put, tA, tZ, tS]
    refine kV 3 ?_
    refine kV 4 ?_
    refine kV 5 ?_
    refine kT 6 ?_ ?_ ?_
    rotate_left
    ·(intro w9 hSw; (try dsimp only at hSw); obtain ⟨q0, q1, d0, d1⟩ := hSw; go_simp <;> with_reducible rfl)
    try simp only [Act.put, tA, tZ, tS]
    refine rD 1 (fun K hK => ?_)
    have s0 := Joins.cell_of_block bS 0
    have s1 := Joins.cell_of_block bS 1
    simp only [gA, gZ, gS] at s0 s1
    go_simp
    clear s0 s1
    clear hHeld
    refine hK.out _ _ ?_ (fun hHeld => ?_)
    ·((try dsimp only); exact ⟨bJ, bI, hrow⟩)
    clear hK K
    try simp only [Act.put, tA, tZ, tS]
    refine rD 7 (fun K hK => ?_)
    go_simp
    (go_at_call 41; refine (l7ses_any s t k z q l e b v r m a' n' c' ys x1 x2 x3 x4 x5 xa xb wA.drew (unhide HRw) (by omega) hl hxb (fun x hx => ⟨(unhide HBd x hx).1, (unhide HBd x hx).2.1, by have := (unhide HBd x hx).2.2; omega⟩)).mono ?_; rintro e9 w6 ⟨v1, v2, rfl, hS6, hP6, hb6, hN6⟩)
    (try go_wp2_with fail)
    replace hb6 : Below wA.heap.size wA w6 := bel_trans (bel_drew (Below.refl _ _)) hb6
    replace hrow := hrow.below hb6 hgw
    have zw6 : wA.heap.size ≤ w6.heap.size := hb6.size
    replace bJ := (hb6.block (w.heap.size) (by omega)).trans bJ
    replace bS := (hb6.block (w.heap.size + 1) (by omega)).trans bS
    replace bI := (hb6.block (w.heap.size + 1 + 1) (by omega)).trans bI
    replace bR := (hb6.block (w.heap.size + 1 + 1 + 1) (by omega)).trans bR
    replace HPo := hide (own_row (unhide HPo) (grown_of0 hb6) (fun _ e9 => by cases e9))
    replace HLo := hide (own_row (unhide HLo) (grown_of0 hb6) (fun _ e9 => by cases e9))
    replace HWo := hide (own_row (unhide HWo) (grown_of0 hb6) (fun _ e9 => by cases e9))
    replace hbw : Below w.heap.size w w6 := bel_trans hbw hb6
    obtain ⟨⟨ys2, ps2, ok⟩, hF⟩ : ∃ r9, seF b l m ys x3 x4 xa xb = r9 := ⟨_, rfl⟩
    rw [hF] at hS6 hP6 ⊢
    dsimp only at hS6 hP6 ⊢
    obtain ⟨b1, b2, b3, rfl⟩ := same_sl hS6
    have HS6 : Hid (SameOr w w6 a len cap (.slice b1 b2 b3) xs ys2) := hide (same_trans (w1 := wA) (unhide HSa) hS6 hb6 (by omega))
    have HF : Hid (stF (decide (k = 3)) b l m ys x3 x4 xa xb = (ys2, ps2, ok)) := hide (by unfold stF; rw [hkd]; rw [if_pos rfl]; exact hF)
    have HP6 : Hid (OwnPn w6 wA.heap.size v2 ps2) := hide hP6
    have HN6 := hide hN6
    clear hS6 hP6 hN6 hF hb6
    clear hHeld
    refine hK.out _ _ ?_ (fun hHeld => ?_)
    ·((try dsimp only); exact ⟨bJ, bI, hrow⟩)
    clear hK K
    try simp only [Act.put, tA, tZ, tS]
    refine kV 8 ?_
    refine kV 9 ?_
    refine kV 10 ?_
    refine kV 11 ?_
    refine rD 12 (fun K hK => ?_)
    have s0 := Joins.cell_of_block bS 0
    have s1 := Joins.cell_of_block bS 1
    simp only [gA, gZ, gS] at s0 s1
    have sf0 := cF bS 0
    have sf1 := cF bS 1
    have zs6 : w.heap.size + 1 < w6.heap.size := by omega
    go_simp
    clear s0 s1 sf0 sf1
    have mS : ((w6.setCell ⟨w.heap.size + 1, 0, none⟩ (.int .i64 m)).setCell ⟨w.heap.size + 1, 1, none⟩ (.slice b1 b2 b3)).heap[w.heap.size + 1]? = some (.cells #[.int .i64 m, .slice b1 b2 b3] 32 (0, 0)) := Joins.block_setCell (Joins.block_setCell bS _) _
    have mJ : ((w6.setCell ⟨w.heap.size + 1, 0, none⟩ (.int .i64 m)).setCell ⟨w.heap.size + 1, 1, none⟩ (.slice b1 b2 b3)).heap[w.heap.size]? = some (.cells #[.int .i64 s, .int .i64 t, .int .i64 k, .int .i64 z, .int .i64 q, .int .i64 l, .int .i64 e, .bool b, .int .i64 v, .int .i64 r] 37 (0, 0)) := (Below.heap_setCell _ _ _ _ (by show _ ≠ w.heap.size + 1; omega)).trans ((Below.heap_setCell _ _ _ _ (by show _ ≠ w.heap.size + 1; omega)).trans bJ)
    have mI : ((w6.setCell ⟨w.heap.size + 1, 0, none⟩ (.int .i64 m)).setCell ⟨w.heap.size + 1, 1, none⟩ (.slice b1 b2 b3)).heap[w.heap.size + 1 + 1]? = some (.cells #[.int .i64 x1, .int .i64 x2, .int .i64 x3, .int .i64 x4, .int .i64 x5] 40 (0, 0)) := (Below.heap_setCell _ _ _ _ (by show _ ≠ w.heap.size + 1; omega)).trans ((Below.heap_setCell _ _ _ _ (by show _ ≠ w.heap.size + 1; omega)).trans bI)
    have mR : ((w6.setCell ⟨w.heap.size + 1, 0, none⟩ (.int .i64 m)).setCell ⟨w.heap.size + 1, 1, none⟩ (.slice b1 b2 b3)).heap[w.heap.size + 1 + 1 + 1]? = some (.cells #[.int .i64 0, .slice none 0 0] 32 (0, 0)) := (Below.heap_setCell _ _ _ _ (by show _ ≠ w.heap.size + 1; omega)).trans ((Below.heap_setCell _ _ _ _ (by show _ ≠ w.heap.size + 1; omega)).trans bR)
    have mrow : WnRAt ((w6.setCell ⟨w.heap.size + 1, 0, none⟩ (.int .i64 m)).setCell ⟨w.heap.size + 1, 1, none⟩ (.slice b1 b2 b3)) gw (ow + i2 * 2) (⟨xa, xb⟩ : WnR) := wn_set (wn_set hrow hgS) hgS
    have mSa : Hid (SameOr w ((w6.setCell ⟨w.heap.size + 1, 0, none⟩ (.int .i64 m)).setCell ⟨w.heap.size + 1, 1, none⟩ (.slice b1 b2 b3)) a len cap (.slice b1 b2 b3) xs ys2) := hide (same_set (same_set (unhide HS6) bS (by decide)) (Joins.block_setCell bS _) (by decide))
    have mP := hide (own_setX (p := ⟨w.heap.size + 1, 1, none⟩) (u := .slice b1 b2 b3) (own_setX (p := ⟨w.heap.size + 1, 0, none⟩) (u := .int .i64 m) (unhide HPo) (own_ne_ty (unhide HPo) bS (by decide))) (own_ne_ty (unhide HPo) bS (by decide)))
    have mL := hide (own_setX (p := ⟨w.heap.size + 1, 1, none⟩) (u := .slice b1 b2 b3) (own_setX (p := ⟨w.heap.size + 1, 0, none⟩) (u := .int .i64 m) (unhide HLo) (own_ne_ty (unhide HLo) bS (by decide))) (own_ne_ty (unhide HLo) bS (by decide)))
    have mW := hide (own_setX (p := ⟨w.heap.size + 1, 1, none⟩) (u := .slice b1 b2 b3) (own_setX (p := ⟨w.heap.size + 1, 0, none⟩) (u := .int .i64 m) (unhide HWo) (own_ne_ty (unhide HWo) bS (by decide))) (own_ne_ty (unhide HWo) bS (by decide)))
    have mM := hide (own_setX (p := ⟨w.heap.size + 1, 1, none⟩) (u := .slice b1 b2 b3) (own_setX (p := ⟨w.heap.size + 1, 0, none⟩) (u := .int .i64 m) (unhide HP6) (own_ne_ty (unhide HP6) bS (by decide))) (own_ne_ty (unhide HP6) bS (by decide)))
    have mb : Below w.heap.size w ((w6.setCell ⟨w.heap.size + 1, 0, none⟩ (.int .i64 m)).setCell ⟨w.heap.size + 1, 1, none⟩ (.slice b1 b2 b3)) := bel_set (bel_set hbw (sA) _) (sA) _
    have mz : wA.heap.size ≤ ((w6.setCell ⟨w.heap.size + 1, 0, none⟩ (.int .i64 m)).setCell ⟨w.heap.size + 1, 1, none⟩ (.slice b1 b2 b3)).heap.size := by simpa using zw6
    clear hHeld
    refine hK.out _ _ ?_ (fun hHeld => ?_)
    ·((try dsimp only); exact ⟨mJ, mI, mrow⟩)
    clear hK K
    try simp only [Act.put, tA, tZ, tS]
    refine rD 13 (fun K hK => ?_)
    go_simp
    clear hHeld
    refine hK.out _ _ ?_ (fun hHeld => ?_)
    ·((try dsimp only); exact ⟨mJ, mI, mrow⟩)
    clear hK K
    try simp only [Act.put, tA, tZ, tS]
    refine rD 14 (fun K hK => ?_)
    go_simp
    clear hHeld
    refine hK.out _ _ ?_ (fun hHeld => ?_)
    ·((try dsimp only); exact ⟨mJ, mI, mrow⟩)
    clear hK K
    try simp only [Act.put, tA, tZ, tS]
    refine wpAnyH_done (by kernel_rfl) ?_ _
    clear hHeld bJ bS bI bR HPo HLo HWo hbw HSa HRw hrow HS6 HP6 mrow
    generalize ((w6.setCell ⟨w.heap.size + 1, 0, none⟩ (.int .i64 m)).setCell ⟨w.heap.size + 1, 1, none⟩ (.slice b1 b2 b3)) = w2 at mJ mS mI mR mSa mP mL mW mM mb mz ⊢
    have bJ := mJ
    have bS := mS
    have bI := mI
    have bR := mR
    have HSa := mSa
    have HP6 := mM
    have HPo := mP
    have HLo := mL
    have HWo := mW
    have hbw := mb
    have hz2 := mz
    clear mJ mS mI mR mSa mP mL mW mM mb mz
    obtain ⟨a2, n2, c2, rfl⟩ := unhide HN6
    have hn2 : n2 = ps2.length := own_n (unhide HP6)
    subst hn2
    clear HN6
    have HSt := hide (st_len (decide (k = 3)) b l m ys x3 x4 xa xb)
    have HB2 : Hid (BdO (1500 + ((i2 + 1 : Nat) : Int)) ys2) := hide (by have h9 := st_bd (ses := decide (k = 3)) (pc := b) (l := l) (m := m) (ky := x3) (v := x4) (st := xa) (unhide HBd) (by omega) hxb; rw [unhide HF] at h9; exact h9.up (by omega))
    rw [unhide HF] at HSt
    have hps2 : ps2.length ≤ 480 := by have h9 := (unhide HSt).2; have := unhide HYl; dsimp only at h9; omega
    have hys2 : Hid (ys2.length ≤ 400 + (i2 + 1)) := hide (by have h9 := (unhide HSt).1; have := unhide HYl; dsimp only at h9; omega)
    have hpl : ps.length ≤ 40000 := by have := unhide HPl; omega
    have HFo2 : Hid ((ws.take (i2 + 1)).foldl (spStep (decide (k = 3)) b l m x3 x4) (xs, [], []) = (ys2, ps ++ ps2, if ok = true then ls else ls ++ [⟨xa, xb⟩])) := hide (by rw [List.take_add_one, unhide HXK, Option.toList, List.foldl_append, unhide HFo]; exact sp_step _ _ _ _ _ _ _ _ _ _ (unhide HF))
    go_upto_region 13 with (at_builtin; go_loud (refine wpList_append_at rfl _ _ 33 rfl w.heap.size 68 i1 _ 9 72 Tryz.underlying33 hi1 hy0 hy1 hy2 rfl (by decide) u9 _ _ rfl (unhide HPo) a2 ps2.length c2 (flatPn ps2) rfl (by rw [flatPn_len]) (own_news (unhide HP6)) (own_oneP ps2) (by unfold maxLen; omega) (by omega) (by omega) ?_); intro v5 w5 hown hgrow hat)
    have hge9 := hide (fun b9 (e9 : (u9 : Value).ownBlock = some b9) => ownOr_geX (unhide HPo) b9 e9)
    replace bJ := (hgrow.block (w.heap.size) (by omega) (fun e9 => own_ne_ty (unhide HPo) bJ (by decide) e9.symm)).trans bJ
    replace bS := (hgrow.block (w.heap.size + 1) (by omega) (fun e9 => own_ne_ty (unhide HPo) bS (by decide) e9.symm)).trans bS
    replace bI := (hgrow.block (w.heap.size + 1 + 1) (by omega) (fun e9 => own_ne_ty (unhide HPo) bI (by decide) e9.symm)).trans bI
    replace bR := (hgrow.block (w.heap.size + 1 + 1 + 1) (by omega) (fun e9 => own_ne_ty (unhide HPo) bR (by decide) e9.symm)).trans bR
    replace hbw : Below w.heap.size w w5 := hbw.grown hgrow (by omega) (fun b9 e9 => unhide hge9 b9 e9)
    replace HSa := hide (same_own (unhide HSa) (unhide HPo) hgrow (by decide))
    replace HLo := hide (own_gQ (unhide HLo) hgrow (fun k9 e8 e9 => own_nob (unhide HLo) (unhide HPo) (by decide) e9 e8))
    replace HWo := hide (own_gQ (unhide HWo) hgrow (fun k9 e8 e9 => own_nob (unhide HWo) (unhide HPo) (by decide) e9 e8))
    replace HPo : Hid (OwnPn w5 w.heap.size v5 (ps ++ ps2)) := hide (ownPn_app hown)
    have hz5 : wA.heap.size ≤ w5.heap.size := by have := hgrow.size; omega
    have HPl2 : Hid ((ps ++ ps2).length ≤ 500 * (i2 + 1)) := hide (by rw [List.length_append]; have := unhide HPl; omega)
    clear hown hgrow hat hge9 HP6 HSt
    cases ok with
    | true =>
     go_wp2
     exact ⟨⟨i2 + 1, b1, b2, b3, ys2, ps ++ ps2, ls, by omega, by go_num, HFo2, HB2, hys2, HPl2, hide (by have := unhide HLl; omega), HPo, HLo, HSa, HWo, bJ, bS, bI, bR, hbw, by omega⟩, by simp [intOf]; omega⟩
    | false =>
     have hWR := hold_wn (unhide HWo) (by rw [unhide HNw]; omega)
     obtain ⟨_, _, hy⟩ := hWR
     obtain ⟨gw2, ow2, e9, hr⟩ := hy.resolve_left (by omega)
     simp only [Option.some.injEq, Addr.mk.injEq, and_true] at e9
     obtain ⟨rfl, rfl⟩ := e9
     have hrow := hr i2 _ (unhide HXK)
     clear hr hy
     have hll : ls.length ≤ 61 := by have := unhide HLl; omega
     go_wp2_with fail
     refine wp_region_held_drew (S := (fun W => W.heap[w.heap.size + 1 + 1]? = some (.cells #[.int .i64 x1, .int .i64 x2, .int .i64 x3, .int .i64 x4, .int .i64 x5] 40 (0, 0)) ∧ WnRAt W gw (ow + i2 * 2) (⟨xa, xb⟩ : WnR))) (by kernel_rfl) ?_ (fun hHeld => ?_)
     ·((try dsimp only); exact ⟨bI, hrow⟩)
     refine kV 0 ?_
     refine kT 1 ?_ ?_ ?_
     rotate_left
     ·(intro w9 hSw; (try dsimp only at hSw); obtain ⟨q1, d0, d1⟩ := hSw; have bx0 := cA q1 0; have bx1 := cA q1 1; have bx2 := cA q1 2; have bx3 := cA q1 3; have bx4 := cA q1 4; simp only [gA, gZ, gS] at bx0 bx1 bx2 bx3 bx4; go_simp <;> with_reducible rfl)
     try simp only [Act.put, tA, tZ, tS]
     refine kV 2 ?_
     refine kV 3 ?_
     refine kV 4 ?_
     refine kT 5 ?_ ?_ ?_
     rotate_left
     ·(intro w9 hSw; (try dsimp only at hSw); obtain ⟨q1, d0, d1⟩ := hSw; go_simp <;> with_reducible rfl)
     try simp only [Act.put, tA, tZ, tS]
     refine kV 6 ?_
     refine rD 7 (fun K hK => ?_)
     go_simp
     replace bJ := (Below.heap_alloc w5.drew (.cells #[.int .i64 x1, .int .i64 x2, .int .i64 x3, .int .i64 x4, .int .i64 x5, .int .i64 xa, .int .i64 xb] 71) (w.heap.size) (by show _ < w5.heap.size; omega)).trans bJ
     replace bS := (Below.heap_alloc w5.drew (.cells #[.int .i64 x1, .int .i64 x2, .int .i64 x3, .int .i64 x4, .int .i64 x5, .int .i64 xa, .int .i64 xb] 71) (w.heap.size + 1) (by show _ < w5.heap.size; omega)).trans bS
     replace bI := (Below.heap_alloc w5.drew (.cells #[.int .i64 x1, .int .i64 x2, .int .i64 x3, .int .i64 x4, .int .i64 x5, .int .i64 xa, .int .i64 xb] 71) (w.heap.size + 1 + 1) (by show _ < w5.heap.size; omega)).trans bI
     replace bR := (Below.heap_alloc w5.drew (.cells #[.int .i64 x1, .int .i64 x2, .int .i64 x3, .int .i64 x4, .int .i64 x5, .int .i64 xa, .int .i64 xb] 71) (w.heap.size + 1 + 1 + 1) (by show _ < w5.heap.size; omega)).trans bR
     replace hrow := hrow.below (bel_alloc (bel_drew (Below.refl w5.heap.size w5)) (.cells #[.int .i64 x1, .int .i64 x2, .int .i64 x3, .int .i64 x4, .int .i64 x5, .int .i64 xa, .int .i64 xb] 71)) hrow.lt
     replace hbw := bel_alloc (bel_drew hbw) (.cells #[.int .i64 x1, .int .i64 x2, .int .i64 x3, .int .i64 x4, .int .i64 x5, .int .i64 xa, .int .i64 xb] 71)
     have hba : Below w5.heap.size w5 (w5.drew.alloc (.cells #[.int .i64 x1, .int .i64 x2, .int .i64 x3, .int .i64 x4, .int .i64 x5, .int .i64 xa, .int .i64 xb] 71)) := bel_alloc (bel_drew (Below.refl w5.heap.size w5)) (.cells #[.int .i64 x1, .int .i64 x2, .int .i64 x3, .int .i64 x4, .int .i64 x5, .int .i64 xa, .int .i64 xb] 71)
     clear hHeld
     refine hK.out _ _ ?_ (fun hHeld => ?_)
     ·((try dsimp only); exact ⟨bI, hrow⟩)
     clear hK K
     try simp only [Act.put, tA, tZ, tS]
     refine rD 8 (fun K hK => ?_)
     refine step_append_at rfl _ _ 34 rfl w.heap.size 71 i0 _ 7 56 Tryz.underlying34 hi hz0' hz1' hz2' rfl (by decide) u10 _ _ rfl (own_da (unhide HLo) _) ⟨w5.heap.size, 0, none⟩ 1 1 [.int .i64 x1, .int .i64 x2, .int .i64 x3, .int .i64 x4, .int .i64 x5, .int .i64 xa, .int .i64 xb] rfl rfl (cells_newLp w5.drew _ _ _ _ _ _ _ _) (by simp [Value.oneCell']) (by rw [List.length_map]; unfold maxLen; omega) (by rw [List.length_map]; omega) hbw.size ?_
     intro v6 w6 hown hgrow hat
     have hge9 := hide (fun b9 (e9 : (u10 : Value).ownBlock = some b9) => ownOr_geX (unhide HLo) b9 e9)
     have HLa := own_da (unhide HLo) (.cells #[.int .i64 x1, .int .i64 x2, .int .i64 x3, .int .i64 x4, .int .i64 x5, .int .i64 xa, .int .i64 xb] 71)
     replace bJ := (hgrow.block (w.heap.size) (Array.getElem?_eq_some_iff.1 bJ).1 (fun e9 => own_ne_ty HLa bJ (by decide) e9.symm)).trans bJ
     replace bS := (hgrow.block (w.heap.size + 1) (Array.getElem?_eq_some_iff.1 bS).1 (fun e9 => own_ne_ty HLa bS (by decide) e9.symm)).trans bS
     replace bI := (hgrow.block (w.heap.size + 1 + 1) (Array.getElem?_eq_some_iff.1 bI).1 (fun e9 => own_ne_ty HLa bI (by decide) e9.symm)).trans bI
     replace bR := (hgrow.block (w.heap.size + 1 + 1 + 1) (Array.getElem?_eq_some_iff.1 bR).1 (fun e9 => own_ne_ty HLa bR (by decide) e9.symm)).trans bR
     have hrow6 : WnRAt w6 gw (ow + i2 * 2) (⟨xa, xb⟩ : WnR) := hrow.grown hgrow (fun e9 => own_nob (unhide HWo) (unhide HLo) (by decide) (k := gw) rfl e9.symm)
     replace hbw : Below w.heap.size w w6 := hbw.grown hgrow (by have := hbw.size; omega) (fun b9 e9 => unhide hge9 b9 e9)
     replace HSa := hide (same_own (same_bel (unhide HSa) hba) HLa hgrow (by decide))
     replace HPo := hide (own_gQ (own_row (unhide HPo) (grown_of0 hba) (fun _ e9 => by cases e9)) hgrow (fun k9 e8 e9 => own_nob (unhide HPo) (unhide HLo) (by decide) e9 e8))
     replace HWo := hide (own_gQ (own_row (unhide HWo) (grown_of0 hba) (fun _ e9 => by cases e9)) hgrow (fun k9 e8 e9 => own_nob (unhide HWo) (unhide HLo) (by decide) e9 e8))
     replace HLo : Hid (OwnLp w6 w.heap.size v6 ((ls ++ [(⟨xa, xb⟩ : WnR)]).map (latX x1 x2 x3 x4 x5))) := hide (by rw [List.map_append]; exact ownLp_snoc (x := (latX x1 x2 x3 x4 x5) ⟨xa, xb⟩) hown)
     have hz6 : w5.heap.size ≤ w6.heap.size := Nat.le_trans hba.size hgrow.size
     clear hHeld
     refine hK.out _ _ ?_ (fun hHeld => ?_)
     ·((try dsimp only); exact ⟨bI, hrow6⟩)
     clear hK K
     try simp only [Act.put, tA, tZ, tS]
     refine rD 9 (fun K hK => ?_)
     go_simp
     clear hHeld
     refine hK.out _ _ ?_ (fun hHeld => ?_)
     ·((try dsimp only); exact ⟨bI, hrow6⟩)
     clear hK K
     try simp only [Act.put, tA, tZ, tS]
     refine wpAnyH_done (by kernel_rfl) ?_ _
     clear hHeld hown hgrow hat hge9 HLa hrow hrow6 hba
     go_wp2
     exact ⟨⟨i2 + 1, b1, b2, b3, ys2, ps ++ ps2, ls ++ [⟨xa, xb⟩], by omega, by go_num, HFo2, HB2, hys2, HPl2, hide (by rw [List.length_append]; have := unhide HLl; simp; omega), HPo, HLo, HSa, HWo, bJ, bS, bI, bR, hbw, by omega⟩, by simp [intOf]; omega⟩
   ·have hkd : decide (k = 3) = false := by simp [hk3]
    have hkb : (k == 3) = false := by simp [hk3]
    clear hk3
    go_wp2_with fail
    clear j0 j1 j2 j3 j4 j5 j6 j7 j8 j9
    refine wp_region_held_drew (S := (fun W => W.heap[w.heap.size]? = some (.cells #[.int .i64 s, .int .i64 t, .int .i64 k, .int .i64 z, .int .i64 q, .int .i64 l, .int .i64 e, .bool b, .int .i64 v, .int .i64 r] 37 (0, 0)) ∧ W.heap[w.heap.size + 1 + 1]? = some (.cells #[.int .i64 x1, .int .i64 x2, .int .i64 x3, .int .i64 x4, .int .i64 x5] 40 (0, 0)) ∧ WnRAt W gw (ow + i2 * 2) (⟨xa, xb⟩ : WnR))) (by kernel_rfl) ?_ (fun hHeld => ?_)
    ·((try dsimp only); exact ⟨bJ, bI, hrow⟩)
    refine kT 0 ?_ ?_ ?_
    rotate_left
    ·(intro w9 hSw; (try dsimp only at hSw); obtain ⟨q0, q1, d0, d1⟩ := hSw; have ax0 := cA q0 0; have ax1 := cA q0 1; have ax2 := cA q0 2; have ax3 := cA q0 3; have ax4 := cA q0 4; have ax5 := cA q0 5; have ax6 := cA q0 6; have ax7 := cA q0 7; have ax8 := cA q0 8; have ax9 := cA q0 9; simp only [gA, gZ, gS] at ax0 ax1 ax2 ax3 ax4 ax5 ax6 ax7 ax8 ax9; go_simp <;> with_reducible rfl)
    try simp only [Act.put, tA, tZ, tS]
    refine kT 2 ?_ ?_ ?_
    rotate_left
    ·(intro w9 hSw; (try dsimp only at hSw); obtain ⟨q0, q1, d0, d1⟩ := hSw; have bx0 := cA q1 0; have bx1 := cA q1 1; have bx2 := cA q1 2; have bx3 := cA q1 3; have bx4 := cA q1 4; simp only [gA, gZ, gS] at bx0 bx1 bx2 bx3 bx4; go_simp <;> with_reducible rfl)
    try simp only [Act.put, tA, tZ, tS]
    refine kV 3 ?_
    refine kV 4 ?_
    refine kV 5 ?_
    refine kT 6 ?_ ?_ ?_
    rotate_left
    ·(intro w9 hSw; (try dsimp only at hSw); obtain ⟨q0, q1, d0, d1⟩ := hSw; go_simp <;> with_reducible rfl)
    try simp only [Act.put, tA, tZ, tS]
    refine rD 1 (fun K hK => ?_)
    have s0 := Joins.cell_of_block bS 0
    have s1 := Joins.cell_of_block bS 1
    simp only [gA, gZ, gS] at s0 s1
    go_simp
    clear s0 s1
    clear hHeld
    refine hK.out _ _ ?_ (fun hHeld => ?_)
    ·((try dsimp only); exact ⟨bJ, bI, hrow⟩)
    clear hK K
    try simp only [Act.put, tA, tZ, tS]
    refine rD 7 (fun K hK => ?_)
    go_simp
    (go_at_call 42; refine (l7into_any s t k z q l e b v r m a' n' c' ys x1 x2 x3 x4 x5 xa xb wA.drew (unhide HRw) (by omega) hl hxb (fun x hx => ⟨(unhide HBd x hx).2.1, by have := (unhide HBd x hx).2.2; omega⟩)).mono ?_; rintro e9 w6 ⟨v1, v2, rfl, hS6, hP6, hb6, hN6⟩)
    (try go_wp2_with fail)
    replace hb6 : Below wA.heap.size wA w6 := bel_trans (bel_drew (Below.refl _ _)) hb6
    replace hrow := hrow.below hb6 hgw
    have zw6 : wA.heap.size ≤ w6.heap.size := hb6.size
    replace bJ := (hb6.block (w.heap.size) (by omega)).trans bJ
    replace bS := (hb6.block (w.heap.size + 1) (by omega)).trans bS
    replace bI := (hb6.block (w.heap.size + 1 + 1) (by omega)).trans bI
    replace bR := (hb6.block (w.heap.size + 1 + 1 + 1) (by omega)).trans bR
    replace HPo := hide (own_row (unhide HPo) (grown_of0 hb6) (fun _ e9 => by cases e9))
    replace HLo := hide (own_row (unhide HLo) (grown_of0 hb6) (fun _ e9 => by cases e9))
    replace HWo := hide (own_row (unhide HWo) (grown_of0 hb6) (fun _ e9 => by cases e9))
    replace hbw : Below w.heap.size w w6 := bel_trans hbw hb6
    obtain ⟨⟨ys2, ps2, ok⟩, hF⟩ : ∃ r9, inF b l m ys x3 x4 xa xb = r9 := ⟨_, rfl⟩
    rw [hF] at hS6 hP6 ⊢
    dsimp only at hS6 hP6 ⊢
    obtain ⟨b1, b2, b3, rfl⟩ := same_sl hS6
    have HS6 : Hid (SameOr w w6 a len cap (.slice b1 b2 b3) xs ys2) := hide (same_trans (w1 := wA) (unhide HSa) hS6 hb6 (by omega))
    have HF : Hid (stF (decide (k = 3)) b l m ys x3 x4 xa xb = (ys2, ps2, ok)) := hide (by unfold stF; rw [hkd]; rw [if_neg (by decide)]; exact hF)
    have HP6 : Hid (OwnPn w6 wA.heap.size v2 ps2) := hide hP6
    have HN6 := hide hN6
    clear hS6 hP6 hN6 hF hb6
    clear hHeld
    refine hK.out _ _ ?_ (fun hHeld => ?_)
    ·((try dsimp only); exact ⟨bJ, bI, hrow⟩)
    clear hK K
    try simp only [Act.put, tA, tZ, tS]
    refine kV 8 ?_
    refine kV 9 ?_
    refine kV 10 ?_
    refine kV 11 ?_
    refine rD 12 (fun K hK => ?_)
    have s0 := Joins.cell_of_block bS 0
    have s1 := Joins.cell_of_block bS 1
    simp only [gA, gZ, gS] at s0 s1
    have sf0 := cF bS 0
    have sf1 := cF bS 1
    have zs6 : w.heap.size + 1 < w6.heap.size := by omega
    go_simp
    clear s0 s1 sf0 sf1
    have mS : ((w6.setCell ⟨w.heap.size + 1, 0, none⟩ (.int .i64 m)).setCell ⟨w.heap.size + 1, 1, none⟩ (.slice b1 b2 b3)).heap[w.heap.size + 1]? = some (.cells #[.int .i64 m, .slice b1 b2 b3] 32 (0, 0)) := Joins.block_setCell (Joins.block_setCell bS _) _
    have mJ : ((w6.setCell ⟨w.heap.size + 1, 0, none⟩ (.int .i64 m)).setCell ⟨w.heap.size + 1, 1, none⟩ (.slice b1 b2 b3)).heap[w.heap.size]? = some (.cells #[.int .i64 s, .int .i64 t, .int .i64 k, .int .i64 z, .int .i64 q, .int .i64 l, .int .i64 e, .bool b, .int .i64 v, .int .i64 r] 37 (0, 0)) := (Below.heap_setCell _ _ _ _ (by show _ ≠ w.heap.size + 1; omega)).trans ((Below.heap_setCell _ _ _ _ (by show _ ≠ w.heap.size + 1; omega)).trans bJ)
    have mI : ((w6.setCell ⟨w.heap.size + 1, 0, none⟩ (.int .i64 m)).setCell ⟨w.heap.size + 1, 1, none⟩ (.slice b1 b2 b3)).heap[w.heap.size + 1 + 1]? = some (.cells #[.int .i64 x1, .int .i64 x2, .int .i64 x3, .int .i64 x4, .int .i64 x5] 40 (0, 0)) := (Below.heap_setCell _ _ _ _ (by show _ ≠ w.heap.size + 1; omega)).trans ((Below.heap_setCell _ _ _ _ (by show _ ≠ w.heap.size + 1; omega)).trans bI)
    have mR : ((w6.setCell ⟨w.heap.size + 1, 0, none⟩ (.int .i64 m)).setCell ⟨w.heap.size + 1, 1, none⟩ (.slice b1 b2 b3)).heap[w.heap.size + 1 + 1 + 1]? = some (.cells #[.int .i64 0, .slice none 0 0] 32 (0, 0)) := (Below.heap_setCell _ _ _ _ (by show _ ≠ w.heap.size + 1; omega)).trans ((Below.heap_setCell _ _ _ _ (by show _ ≠ w.heap.size + 1; omega)).trans bR)
    have mrow : WnRAt ((w6.setCell ⟨w.heap.size + 1, 0, none⟩ (.int .i64 m)).setCell ⟨w.heap.size + 1, 1, none⟩ (.slice b1 b2 b3)) gw (ow + i2 * 2) (⟨xa, xb⟩ : WnR) := wn_set (wn_set hrow hgS) hgS
    have mSa : Hid (SameOr w ((w6.setCell ⟨w.heap.size + 1, 0, none⟩ (.int .i64 m)).setCell ⟨w.heap.size + 1, 1, none⟩ (.slice b1 b2 b3)) a len cap (.slice b1 b2 b3) xs ys2) := hide (same_set (same_set (unhide HS6) bS (by decide)) (Joins.block_setCell bS _) (by decide))
    have mP := hide (own_setX (p := ⟨w.heap.size + 1, 1, none⟩) (u := .slice b1 b2 b3) (own_setX (p := ⟨w.heap.size + 1, 0, none⟩) (u := .int .i64 m) (unhide HPo) (own_ne_ty (unhide HPo) bS (by decide))) (own_ne_ty (unhide HPo) bS (by decide)))
    have mL := hide (own_setX (p := ⟨w.heap.size + 1, 1, none⟩) (u := .slice b1 b2 b3) (own_setX (p := ⟨w.heap.size + 1, 0, none⟩) (u := .int .i64 m) (unhide HLo) (own_ne_ty (unhide HLo) bS (by decide))) (own_ne_ty (unhide HLo) bS (by decide)))
    have mW := hide (own_setX (p := ⟨w.heap.size + 1, 1, none⟩) (u := .slice b1 b2 b3) (own_setX (p := ⟨w.heap.size + 1, 0, none⟩) (u := .int .i64 m) (unhide HWo) (own_ne_ty (unhide HWo) bS (by decide))) (own_ne_ty (unhide HWo) bS (by decide)))
    have mM := hide (own_setX (p := ⟨w.heap.size + 1, 1, none⟩) (u := .slice b1 b2 b3) (own_setX (p := ⟨w.heap.size + 1, 0, none⟩) (u := .int .i64 m) (unhide HP6) (own_ne_ty (unhide HP6) bS (by decide))) (own_ne_ty (unhide HP6) bS (by decide)))
    have mb : Below w.heap.size w ((w6.setCell ⟨w.heap.size + 1, 0, none⟩ (.int .i64 m)).setCell ⟨w.heap.size + 1, 1, none⟩ (.slice b1 b2 b3)) := bel_set (bel_set hbw (sA) _) (sA) _
    have mz : wA.heap.size ≤ ((w6.setCell ⟨w.heap.size + 1, 0, none⟩ (.int .i64 m)).setCell ⟨w.heap.size + 1, 1, none⟩ (.slice b1 b2 b3)).heap.size := by simpa using zw6
    clear hHeld
    refine hK.out _ _ ?_ (fun hHeld => ?_)
    ·((try dsimp only); exact ⟨mJ, mI, mrow⟩)
    clear hK K
    try simp only [Act.put, tA, tZ, tS]
    refine rD 13 (fun K hK => ?_)
    go_simp
    clear hHeld
    refine hK.out _ _ ?_ (fun hHeld => ?_)
    ·((try dsimp only); exact ⟨mJ, mI, mrow⟩)
    clear hK K
    try simp only [Act.put, tA, tZ, tS]
    refine rD 14 (fun K hK => ?_)
    go_simp
    clear hHeld
    refine hK.out _ _ ?_ (fun hHeld => ?_)
    ·((try dsimp only); exact ⟨mJ, mI, mrow⟩)
    clear hK K
    try simp only [Act.put, tA, tZ, tS]
    refine wpAnyH_done (by kernel_rfl) ?_ _
    clear hHeld bJ bS bI bR HPo HLo HWo hbw HSa HRw hrow HS6 HP6 mrow
    generalize ((w6.setCell ⟨w.heap.size + 1, 0, none⟩ (.int .i64 m)).setCell ⟨w.heap.size + 1, 1, none⟩ (.slice b1 b2 b3)) = w2 at mJ mS mI mR mSa mP mL mW mM mb mz ⊢
    have bJ := mJ
    have bS := mS
    have bI := mI
    have bR := mR
    have HSa := mSa
    have HP6 := mM
    have HPo := mP
    have HLo := mL
    have HWo := mW
    have hbw := mb
    have hz2 := mz
    clear mJ mS mI mR mSa mP mL mW mM mb mz
    obtain ⟨a2, n2, c2, rfl⟩ := unhide HN6
    have hn2 : n2 = ps2.length := own_n (unhide HP6)
    subst hn2
    clear HN6
    have HSt := hide (st_len (decide (k = 3)) b l m ys x3 x4 xa xb)
    have HB2 : Hid (BdO (1500 + ((i2 + 1 : Nat) : Int)) ys2) := hide (by have h9 := st_bd (ses := decide (k = 3)) (pc := b) (l := l) (m := m) (ky := x3) (v := x4) (st := xa) (unhide HBd) (by omega) hxb; rw [unhide HF] at h9; exact h9.up (by omega))
    rw [unhide HF] at HSt
    have hps2 : ps2.length ≤ 480 := by have h9 := (unhide HSt).2; have := unhide HYl; dsimp only at h9; omega
    have hys2 : Hid (ys2.length ≤ 400 + (i2 + 1)) := hide (by have h9 := (unhide HSt).1; have := unhide HYl; dsimp only at h9; omega)
    have hpl : ps.length ≤ 40000 := by have := unhide HPl; omega
    have HFo2 : Hid ((ws.take (i2 + 1)).foldl (spStep (decide (k = 3)) b l m x3 x4) (xs, [], []) = (ys2, ps ++ ps2, if ok = true then ls else ls ++ [⟨xa, xb⟩])) := hide (by rw [List.take_add_one, unhide HXK, Option.toList, List.foldl_append, unhide HFo]; exact sp_step _ _ _ _ _ _ _ _ _ _ (unhide HF))
    go_upto_region 13 with (at_builtin; go_loud (refine wpList_append_at rfl _ _ 33 rfl w.heap.size 68 i1 _ 9 72 Tryz.underlying33 hi1 hy0 hy1 hy2 rfl (by decide) u9 _ _ rfl (unhide HPo) a2 ps2.length c2 (flatPn ps2) rfl (by rw [flatPn_len]) (own_news (unhide HP6)) (own_oneP ps2) (by unfold maxLen; omega) (by omega) (by omega) ?_); intro v5 w5 hown hgrow hat)
    have hge9 := hide (fun b9 (e9 : (u9 : Value).ownBlock = some b9) => ownOr_geX (unhide HPo) b9 e9)
    replace bJ := (hgrow.block (w.heap.size) (by omega) (fun e9 => own_ne_ty (unhide HPo) bJ (by decide) e9.symm)).trans bJ
    replace bS := (hgrow.block (w.heap.size + 1) (by omega) (fun e9 => own_ne_ty (unhide HPo) bS (by decide) e9.symm)).trans bS
    replace bI := (hgrow.block (w.heap.size + 1 + 1) (by omega) (fun e9 => own_ne_ty (unhide HPo) bI (by decide) e9.symm)).trans bI
    replace bR := (hgrow.block (w.heap.size + 1 + 1 + 1) (by omega) (fun e9 => own_ne_ty (unhide HPo) bR (by decide) e9.symm)).trans bR
    replace hbw : Below w.heap.size w w5 := hbw.grown hgrow (by omega) (fun b9 e9 => unhide hge9 b9 e9)
    replace HSa := hide (same_own (unhide HSa) (unhide HPo) hgrow (by decide))
    replace HLo := hide (own_gQ (unhide HLo) hgrow (fun k9 e8 e9 => own_nob (unhide HLo) (unhide HPo) (by decide) e9 e8))
    replace HWo := hide (own_gQ (unhide HWo) hgrow (fun k9 e8 e9 => own_nob (unhide HWo) (unhide HPo) (by decide) e9 e8))
    replace HPo : Hid (OwnPn w5 w.heap.size v5 (ps ++ ps2)) := hide (ownPn_app hown)
    have hz5 : wA.heap.size ≤ w5.heap.size := by have := hgrow.size; omega
    have HPl2 : Hid ((ps ++ ps2).length ≤ 500 * (i2 + 1)) := hide (by rw [List.length_append]; have := unhide HPl; omega)
    clear hown hgrow hat hge9 HP6 HSt
    cases ok with
    | true =>
     go_wp2
     exact ⟨⟨i2 + 1, b1, b2, b3, ys2, ps ++ ps2, ls, by omega, by go_num, HFo2, HB2, hys2, HPl2, hide (by have := unhide HLl; omega), HPo, HLo, HSa, HWo, bJ, bS, bI, bR, hbw, by omega⟩, by simp [intOf]; omega⟩
    | false =>
     have hWR := hold_wn (unhide HWo) (by rw [unhide HNw]; omega)
     obtain ⟨_, _, hy⟩ := hWR
     obtain ⟨gw2, ow2, e9, hr⟩ := hy.resolve_left (by omega)
     simp only [Option.some.injEq, Addr.mk.injEq, and_true] at e9
     obtain ⟨rfl, rfl⟩ := e9
     have hrow := hr i2 _ (unhide HXK)
     clear hr hy
     have hll : ls.length ≤ 61 := by have := unhide HLl; omega
     go_wp2_with fail
     refine wp_region_held_drew (S := (fun W => W.heap[w.heap.size + 1 + 1]? = some (.cells #[.int .i64 x1, .int .i64 x2, .int .i64 x3, .int .i64 x4, .int .i64 x5] 40 (0, 0)) ∧ WnRAt W gw (ow + i2 * 2) (⟨xa, xb⟩ : WnR))) (by kernel_rfl) ?_ (fun hHeld => ?_)
     ·((try dsimp only); exact ⟨bI, hrow⟩)
     refine kV 0 ?_
     refine kT 1 ?_ ?_ ?_
     rotate_left
     ·(intro w9 hSw; (try dsimp only at hSw); obtain ⟨q1, d0, d1⟩ := hSw; have bx0 := cA q1 0; have bx1 := cA q1 1; have bx2 := cA q1 2; have bx3 := cA q1 3; have bx4 := cA q1 4; simp only [gA, gZ, gS] at bx0 bx1 bx2 bx3 bx4; go_simp <;> with_reducible rfl)
     try simp only [Act.put, tA, tZ, tS]
     refine kV 2 ?_
     refine kV 3 ?_
     refine kV 4 ?_
     refine kT 5 ?_ ?_ ?_
     rotate_left
     ·(intro w9 hSw; (try dsimp only at hSw); obtain ⟨q1, d0, d1⟩ := hSw; go_simp <;> with_reducible rfl)
     try simp only [Act.put, tA, tZ, tS]
     refine kV 6 ?_
     refine rD 7 (fun K hK => ?_)
     go_simp
     replace bJ := (Below.heap_alloc w5.drew (.cells #[.int .i64 x1, .int .i64 x2, .int .i64 x3, .int .i64 x4, .int .i64 x5, .int .i64 xa, .int .i64 xb] 71) (w.heap.size) (by show _ < w5.heap.size; omega)).trans bJ
     replace bS := (Below.heap_alloc w5.drew (.cells #[.int .i64 x1, .int .i64 x2, .int .i64 x3, .int .i64 x4, .int .i64 x5, .int .i64 xa, .int .i64 xb] 71) (w.heap.size + 1) (by show _ < w5.heap.size; omega)).trans bS
     replace bI := (Below.heap_alloc w5.drew (.cells #[.int .i64 x1, .int .i64 x2, .int .i64 x3, .int .i64 x4, .int .i64 x5, .int .i64 xa, .int .i64 xb] 71) (w.heap.size + 1 + 1) (by show _ < w5.heap.size; omega)).trans bI
     replace bR := (Below.heap_alloc w5.drew (.cells #[.int .i64 x1, .int .i64 x2, .int .i64 x3, .int .i64 x4, .int .i64 x5, .int .i64 xa, .int .i64 xb] 71) (w.heap.size + 1 + 1 + 1) (by show _ < w5.heap.size; omega)).trans bR
     replace hrow := hrow.below (bel_alloc (bel_drew (Below.refl w5.heap.size w5)) (.cells #[.int .i64 x1, .int .i64 x2, .int .i64 x3, .int .i64 x4, .int .i64 x5, .int .i64 xa, .int .i64 xb] 71)) hrow.lt
     replace hbw := bel_alloc (bel_drew hbw) (.cells #[.int .i64 x1, .int .i64 x2, .int .i64 x3, .int .i64 x4, .int .i64 x5, .int .i64 xa, .int .i64 xb] 71)
     have hba : Below w5.heap.size w5 (w5.drew.alloc (.cells #[.int .i64 x1, .int .i64 x2, .int .i64 x3, .int .i64 x4, .int .i64 x5, .int .i64 xa, .int .i64 xb] 71)) := bel_alloc (bel_drew (Below.refl w5.heap.size w5)) (.cells #[.int .i64 x1, .int .i64 x2, .int .i64 x3, .int .i64 x4, .int .i64 x5, .int .i64 xa, .int .i64 xb] 71)
     clear hHeld
     refine hK.out _ _ ?_ (fun hHeld => ?_)
     ·((try dsimp only); exact ⟨bI, hrow⟩)
     clear hK K
     try simp only [Act.put, tA, tZ, tS]
     refine rD 8 (fun K hK => ?_)
     refine step_append_at rfl _ _ 34 rfl w.heap.size 71 i0 _ 7 56 Tryz.underlying34 hi hz0' hz1' hz2' rfl (by decide) u10 _ _ rfl (own_da (unhide HLo) _) ⟨w5.heap.size, 0, none⟩ 1 1 [.int .i64 x1, .int .i64 x2, .int .i64 x3, .int .i64 x4, .int .i64 x5, .int .i64 xa, .int .i64 xb] rfl rfl (cells_newLp w5.drew _ _ _ _ _ _ _ _) (by simp [Value.oneCell']) (by rw [List.length_map]; unfold maxLen; omega) (by rw [List.length_map]; omega) hbw.size ?_
     intro v6 w6 hown hgrow hat
     have hge9 := hide (fun b9 (e9 : (u10 : Value).ownBlock = some b9) => ownOr_geX (unhide HLo) b9 e9)
     have HLa := own_da (unhide HLo) (.cells #[.int .i64 x1, .int .i64 x2, .int .i64 x3, .int .i64 x4, .int .i64 x5, .int .i64 xa, .int .i64 xb] 71)
     replace bJ := (hgrow.block (w.heap.size) (Array.getElem?_eq_some_iff.1 bJ).1 (fun e9 => own_ne_ty HLa bJ (by decide) e9.symm)).trans bJ
     replace bS := (hgrow.block (w.heap.size + 1) (Array.getElem?_eq_some_iff.1 bS).1 (fun e9 => own_ne_ty HLa bS (by decide) e9.symm)).trans bS
     replace bI := (hgrow.block (w.heap.size + 1 + 1) (Array.getElem?_eq_some_iff.1 bI).1 (fun e9 => own_ne_ty HLa bI (by decide) e9.symm)).trans bI
     replace bR := (hgrow.block (w.heap.size + 1 + 1 + 1) (Array.getElem?_eq_some_iff.1 bR).1 (fun e9 => own_ne_ty HLa bR (by decide) e9.symm)).trans bR
     have hrow6 : WnRAt w6 gw (ow + i2 * 2) (⟨xa, xb⟩ : WnR) := hrow.grown hgrow (fun e9 => own_nob (unhide HWo) (unhide HLo) (by decide) (k := gw) rfl e9.symm)
     replace hbw : Below w.heap.size w w6 := hbw.grown hgrow (by have := hbw.size; omega) (fun b9 e9 => unhide hge9 b9 e9)
     replace HSa := hide (same_own (same_bel (unhide HSa) hba) HLa hgrow (by decide))
     replace HPo := hide (own_gQ (own_row (unhide HPo) (grown_of0 hba) (fun _ e9 => by cases e9)) hgrow (fun k9 e8 e9 => own_nob (unhide HPo) (unhide HLo) (by decide) e9 e8))
     replace HWo := hide (own_gQ (own_row (unhide HWo) (grown_of0 hba) (fun _ e9 => by cases e9)) hgrow (fun k9 e8 e9 => own_nob (unhide HWo) (unhide HLo) (by decide) e9 e8))
     replace HLo : Hid (OwnLp w6 w.heap.size v6 ((ls ++ [(⟨xa, xb⟩ : WnR)]).map (latX x1 x2 x3 x4 x5))) := hide (by rw [List.map_append]; exact ownLp_snoc (x := (latX x1 x2 x3 x4 x5) ⟨xa, xb⟩) hown)
     have hz6 : w5.heap.size ≤ w6.heap.size := Nat.le_trans hba.size hgrow.size
     clear hHeld
     refine hK.out _ _ ?_ (fun hHeld => ?_)
     ·((try dsimp only); exact ⟨bI, hrow6⟩)
     clear hK K
     try simp only [Act.put, tA, tZ, tS]
     refine rD 9 (fun K hK => ?_)
     go_simp
     clear hHeld
     refine hK.out _ _ ?_ (fun hHeld => ?_)
     ·((try dsimp only); exact ⟨bI, hrow6⟩)
     clear hK K
     try simp only [Act.put, tA, tZ, tS]
     refine wpAnyH_done (by kernel_rfl) ?_ _
     clear hHeld hown hgrow hat hge9 HLa hrow hrow6 hba
     go_wp2
     exact ⟨⟨i2 + 1, b1, b2, b3, ys2, ps ++ ps2, ls ++ [⟨xa, xb⟩], by omega, by go_num, HFo2, HB2, hys2, HPl2, hide (by rw [List.length_append]; have := unhide HLl; simp; omega), HPo, HLo, HSa, HWo, bJ, bS, bI, bR, hbw, by omega⟩, by simp [intOf]; omega⟩
  ·obtain rfl : i2 = nw := by omega
   rw [List.take_of_length_le (by rw [unhide HNw]; exact Nat.le_refl _)] at HFo
   rw [← unhide HRR] at HFo
   have s0 := Joins.cell_of_block bS 0
   have s1 := Joins.cell_of_block bS 1
   simp only [gA, gZ, gS] at s0 s1
   have r0 := Joins.cell_of_block bR 0
   have r1 := Joins.cell_of_block bR 1
   simp only [gA, gZ, gS] at r0 r1
   have rf0 := cF bR 0
   have rf1 := cF bR 1
   have zr9 : w.heap.size + 1 + 1 + 1 < wr.heap.size := by omega
   have hSF : Hid (SameOr w ((wr.setCell ⟨w.heap.size + 1 + 1 + 1, 0, none⟩ (.int .i64 m)).setCell ⟨w.heap.size + 1 + 1 + 1, 1, none⟩ (.slice a' n' c')) a len cap (.slice a' n' c') xs ys) := hide (same_set (same_set (unhide HSa) bR (by decide)) (Joins.block_setCell bR _) (by decide))
   have hPF := hide (own_setX (p := ⟨w.heap.size + 1 + 1 + 1, 1, none⟩) (u := (.slice a' n' c')) (own_setX (p := ⟨w.heap.size + 1 + 1 + 1, 0, none⟩) (u := .int .i64 m) (unhide HPo) (own_ne_ty (unhide HPo) bR (by decide))) (own_ne_ty (unhide HPo) bR (by decide)))
   have hLF := hide (own_setX (p := ⟨w.heap.size + 1 + 1 + 1, 1, none⟩) (u := (.slice a' n' c')) (own_setX (p := ⟨w.heap.size + 1 + 1 + 1, 0, none⟩) (u := .int .i64 m) (unhide HLo) (own_ne_ty (unhide HLo) bR (by decide))) (own_ne_ty (unhide HLo) bR (by decide)))
   have hBF : Hid (Below w.heap.size w ((wr.setCell ⟨w.heap.size + 1 + 1 + 1, 0, none⟩ (.int .i64 m)).setCell ⟨w.heap.size + 1 + 1 + 1, 1, none⟩ (.slice a' n' c'))) := hide (bel_set (bel_set hbw (sA) _) (sA) _)
   clear bJ bS bI bR HPo HLo HWo HSa
   go_wp2
   refine bodyPost_ret (v := .tuple #[.agg #[.int .i64 m, (.slice a' n' c')], u9, u10]) (by simp (maxDischargeDepth := 9) [results, Tryz.results22, go_sem, *]) rfl ?_
   rw [unhide HFo]
   exact ⟨_, _, _, rfl, unhide hSF, unhide hPF, unhide hLF, unhide hBF⟩
end Go.Proofs.YtflignpbboiahaaGreat
