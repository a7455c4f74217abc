/- Laid together: what the claim needs of the texts that were built one by one. -/
import Derived.Test.YtflignpbboiahaaGreatQ5
import Derived.Test.YtflignpbboiahaaGreatQ17
import Derived.Deep.DeepCutAuto
import Derived.Test.YtflignpbboiahaaGreatQ0
import Derived.Test.YtflignpbboiahaaGreatQ16
import Derived.Test.YtflignpbboiahaaGreatQ8
import Derived.Test.YtflignpbboiahaaGreatQ14
import Derived.Test.YtflignpbboiahaaGreatQ6
set_option linter.unusedVariables false
namespace Go.Proofs.YtflignpbboiahaaGreat
open Go.ChangeShapes Go.WideShapes Go.ChangeAt Go.RowKit
theorem specopok_eq (s t k z p l e : Int) (b : Bool) (v r : Int) (m : Int) (a : Option Addr) (len cap : Nat) (xs : List OrR) (w : World) {ob : Bool} (h : OrRs w a len xs) (hV : Hid (okOp s t k z p l e v r m xs = ob)) : Calls Tryz.prog 20 #[.agg #[.int .i64 s, .int .i64 t, .int .i64 k, .int .i64 z, .int .i64 p, .int .i64 l, .int .i64 e, .bool b, .int .i64 v, .int .i64 r], .agg #[.int .i64 m, .slice a len cap]] w fun e' w' => e' = .returned (.bool ob) ∧ Below w.heap.size w w' := by
 rw [← unhide hV]; exact specopok_any s t k z p l e b v r m a len cap xs w h
theorem implopok_eq (s t k z p l e : Int) (b : Bool) (v r : Int) (m : Int) (a : Option Addr) (len cap : Nat) (xs : List OrR) (w : World) {ob : Bool} (h : OrRs w a len xs) (hV : Hid (okOp s t k z p l e v r m xs = ob)) : Calls Tryz.prog 25 #[.agg #[.int .i64 s, .int .i64 t, .int .i64 k, .int .i64 z, .int .i64 p, .int .i64 l, .int .i64 e, .bool b, .int .i64 v, .int .i64 r], .agg #[.int .i64 m, .slice a len cap]] w fun e' w' => e' = .returned (.bool ob) ∧ Below w.heap.size w w' := by
 rw [← unhide hV]; exact implopok_any s t k z p l e b v r m a len cap xs w h
end Go.Proofs.YtflignpbboiahaaGreat
namespace Go.Proofs.YtflignpbboiahaaGreat
open Go.ChangeShapes Go.WideShapes Go.ChangeAt Go.RowKit Go.Shelf Go.Maps
set_option linter.unusedSimpArgs false
def takB (s t k z q l e v r m : Int) (xs : List OrR) (x1 x2 x3 x4 x5 : Int) : Bool := okOp s t k z q l e v r m xs && (isRecB x1 x2 x3 x4 x5 && decide (xs.length ≤ 280))
def takF (s t k z q l e : Int) (b : Bool) (v r m : Int) (xs : List OrR) (x1 x2 x3 x4 x5 : Int) : Int × List OrR × List PnR × List LpR := if takB s t k z q l e v r m xs x1 x2 x3 x4 x5 = true then (m, (spTake (decide (k = 3)) b l m x3 x4 xs (winsOf k z q x2)).1, (spTake (decide (k = 3)) b l m x3 x4 xs (winsOf k z q x2)).2.1, (spTake (decide (k = 3)) b l m x3 x4 xs (winsOf k z q x2)).2.2.map (latX x1 x2 x3 x4 x5)) else (0, [], [], [])
theorem slide_ge {z p t : Int} (hp : 0 ≤ p) : ∀ (n : Nat) (s : Int), ∀ x ∈ slideGo z p t n s, s ≤ x.a
 | 0, _, x, hx => by cases hx
 | n + 1, s, x, hx => by
  have ih := slide_ge (z := z) (t := t) hp n (s + p)
  unfold slideGo at hx
  split at hx
  ·split at hx
   ·rcases List.mem_cons.1 hx with rfl | hx
    ·exact Int.le_refl _
    ·have := ih x hx; omega
   ·have := ih x hx; omega
  ·cases hx
theorem slide_up {z p t : Int} (hp : 1 ≤ p) : ∀ (n : Nat) (s : Int), (slideGo z p t n s).Pairwise (fun x y => x.a < y.a)
 | 0, _ => List.Pairwise.nil
 | n + 1, s => by
  unfold slideGo
  split
  ·split
   ·refine List.pairwise_cons.2 ⟨fun y hy => ?_, slide_up hp n (s + p)⟩
    have := slide_ge (z := z) (t := t) (by omega : 0 ≤ p) n (s + p) y hy
    show s < y.a
    omega
   ·exact slide_up hp n (s + p)
  ·exact List.Pairwise.nil
theorem wins_pw {s t k z p l e v r T ky : Int} (hj : okJob s t k z p l e v r = true) : decide (k = 3) = false → (winsOf k z p T).Pairwise (fun x y => ltPl (ky, x.a, x.b) (ky, y.a, y.b)) := by
 intro h3
 obtain ⟨hk, hz, hp⟩ := okJob_parts hj
 have hk3 : ¬ k = 3 := by simpa using h3
 unfold winsOf
 split
 ·exact List.pairwise_singleton _ _
 ·(try rw [if_neg hk3])
  have hp1 : 1 ≤ p := by
   unfold stepB at hp
   split at hp
   ·simp only [Bool.and_eq_true] at hp
    exact (inB_iff.1 hp.1).1
   ·omega
  exact (slide_up hp1 61 0).imp (fun {x y} hxy => .inr ⟨rfl, .inl hxy⟩)
theorem isRec_bd {x1 x2 x3 x4 x5 : Int} (h : isRecB x1 x2 x3 x4 x5 = true) : (0 ≤ x2 ∧ x2 ≤ 60) ∧ (0 ≤ x3 ∧ x3 ≤ 3) := by
 unfold isRecB at h
 simp only [Bool.and_eq_true] at h
 have h9 := h.2
 unfold okRec at h9
 simp only [Bool.and_eq_true] at h9
 exact ⟨inB_iff.1 (by first | exact h9.1.1.1 | exact h9.1.1 | exact h9.1), inB_iff.1 (by first | exact h9.1.1.2 | exact h9.1.2 | exact h9.2.1)⟩
theorem takB_of {s t k z q l e v r m : Int} {xs : List OrR} {x1 x2 x3 x4 x5 : Int} (h1 : okOp s t k z q l e v r m xs = true) (h2 : isRecB x1 x2 x3 x4 x5 = true) (h3 : xs.length ≤ 280) : takB s t k z q l e v r m xs x1 x2 x3 x4 x5 = true := by
 unfold takB
 simp [h1, h2, h3]
theorem takF_no {s t k z q l e : Int} {b : Bool} {v r m : Int} {xs : List OrR} {x1 x2 x3 x4 x5 : Int} (h : takB s t k z q l e v r m xs x1 x2 x3 x4 x5 = false) : takF s t k z q l e b v r m xs x1 x2 x3 x4 x5 = (0, [], [], []) := by
 unfold takF
 rw [h]
 rfl
theorem okOp_job {s t k z q l e v r m : Int} {xs : List OrR} (h : okOp s t k z q l e v r m xs = true) : okJob s t k z q l e v r = true := by
 unfold okOp at h
 simp only [Bool.and_eq_true, decide_eq_true_eq] at h
 exact h.1.1.1
set_option maxRecDepth 100000 in
set_option maxHeartbeats 8000000 in
theorem spectake_any (s t k z q l e : Int) (b : Bool) (v r m : Int) (a : Option Addr) (len cap : Nat) (xs : List OrR) (x1 x2 x3 x4 x5 : Int) (w : World) (h : OrRs w a len xs) : Calls Tryz.prog 5 #[.agg #[.int .i64 s, .int .i64 t, .int .i64 k, .int .i64 z, .int .i64 q, .int .i64 l, .int .i64 e, .bool b, .int .i64 v, .int .i64 r], .agg #[.int .i64 m, .slice a len cap], .agg #[.int .i64 x1, .int .i64 x2, .int .i64 x3, .int .i64 x4, .int .i64 x5]] w fun e' w' => ∃ v1 v2 v3, e' = .returned (.tuple #[.agg #[.int .i64 (takF s t k z q l e b v r m xs x1 x2 x3 x4 x5).1, v1], v2, v3]) ∧ OwnOr w' w.heap.size v1 (takF s t k z q l e b v r m xs x1 x2 x3 x4 x5).2.1 ∧ OwnPn w' w.heap.size v2 (takF s t k z q l e b v r m xs x1 x2 x3 x4 x5).2.2.1 ∧ OwnLp w' w.heap.size v3 (takF s t k z q l e b v r m xs x1 x2 x3 x4 x5).2.2.2 ∧ Below w.heap.size w w' := by
 have hxl := h.1
 have hbE : Below w.heap.size w ((((w.alloc (.cells #[.int .i64 s, .int .i64 t, .int .i64 k, .int .i64 z, .int .i64 q, .int .i64 l, .int .i64 e, .bool b, .int .i64 v, .int .i64 r] 37)).alloc (.cells #[.int .i64 m, .slice a len cap] 32)).alloc (.cells #[.int .i64 x1, .int .i64 x2, .int .i64 x3, .int .i64 x4, .int .i64 x5] 40)).alloc (.cells #[.int .i64 0, .slice none 0 0] 32)) := bel_alloc (bel_alloc (bel_alloc (bel_one _ _) _) _) _
 have HE := hide (h.below hbE)
 have eJ : ((((w.alloc (.cells #[.int .i64 s, .int .i64 t, .int .i64 k, .int .i64 z, .int .i64 q, .int .i64 l, .int .i64 e, .bool b, .int .i64 v, .int .i64 r] 37)).alloc (.cells #[.int .i64 m, .slice a len cap] 32)).alloc (.cells #[.int .i64 x1, .int .i64 x2, .int .i64 x3, .int .i64 x4, .int .i64 x5] 40)).alloc (.cells #[.int .i64 0, .slice none 0 0] 32)).heap[w.heap.size]? = some (.cells #[.int .i64 s, .int .i64 t, .int .i64 k, .int .i64 z, .int .i64 q, .int .i64 l, .int .i64 e, .bool b, .int .i64 v, .int .i64 r] 37 (0, 0)) := aN <| aN <| aN <| nA
 have eS : ((((w.alloc (.cells #[.int .i64 s, .int .i64 t, .int .i64 k, .int .i64 z, .int .i64 q, .int .i64 l, .int .i64 e, .bool b, .int .i64 v, .int .i64 r] 37)).alloc (.cells #[.int .i64 m, .slice a len cap] 32)).alloc (.cells #[.int .i64 x1, .int .i64 x2, .int .i64 x3, .int .i64 x4, .int .i64 x5] 40)).alloc (.cells #[.int .i64 0, .slice none 0 0] 32)).heap[w.heap.size + 1]? = some (.cells #[.int .i64 m, .slice a len cap] 32 (0, 0)) := aN <| aN <| nA
 have eI : ((((w.alloc (.cells #[.int .i64 s, .int .i64 t, .int .i64 k, .int .i64 z, .int .i64 q, .int .i64 l, .int .i64 e, .bool b, .int .i64 v, .int .i64 r] 37)).alloc (.cells #[.int .i64 m, .slice a len cap] 32)).alloc (.cells #[.int .i64 x1, .int .i64 x2, .int .i64 x3, .int .i64 x4, .int .i64 x5] 40)).alloc (.cells #[.int .i64 0, .slice none 0 0] 32)).heap[w.heap.size + 1 + 1]? = some (.cells #[.int .i64 x1, .int .i64 x2, .int .i64 x3, .int .i64 x4, .int .i64 x5] 40 (0, 0)) := aN <| nA
 have eR : ((((w.alloc (.cells #[.int .i64 s, .int .i64 t, .int .i64 k, .int .i64 z, .int .i64 q, .int .i64 l, .int .i64 e, .bool b, .int .i64 v, .int .i64 r] 37)).alloc (.cells #[.int .i64 m, .slice a len cap] 32)).alloc (.cells #[.int .i64 x1, .int .i64 x2, .int .i64 x3, .int .i64 x4, .int .i64 x5] 40)).alloc (.cells #[.int .i64 0, .slice none 0 0] 32)).heap[w.heap.size + 1 + 1 + 1]? = some (.cells #[.int .i64 0, .slice none 0 0] 32 (0, 0)) := nA
 obtain ⟨ob, hob⟩ : ∃ ob, okOp s t k z q l e v r m xs = ob := ⟨_, rfl⟩
 have HOB := hide hob
 clear hob
 go_enter Tryz.func5, Tryz.ntmps5
 go_wp2_with fail
 refine (specopok_eq s t k z q l e b v r m _ _ _ xs _ (unhide HE) HOB).mono ?_
 rintro e' w1 ⟨rfl, hb1⟩
 have bJ := (hb1.block (w.heap.size) (sA)).trans eJ
 have bS := (hb1.block (w.heap.size + 1) (sA)).trans eS
 have bI := (hb1.block (w.heap.size + 1 + 1) (sA)).trans eI
 have bR := (hb1.block (w.heap.size + 1 + 1 + 1) (sA)).trans eR
 have hbw : Below w.heap.size w w1 := bel_trans hbE hb1
 have hz1 : w.heap.size + 4 ≤ w1.heap.size := by have := hb1.size; simp at this; omega
 clear eJ eS eI eR HE hbE hb1
 have hnone : takB s t k z q l e v r m xs x1 x2 x3 x4 x5 = false → ∀ (W : World) (v2 v3 : Value), OwnPn W w.heap.size v2 [] → OwnLp W w.heap.size v3 [] → Below w.heap.size w W → ∃ v1 v4 v5, (Ending.returned (.tuple #[.agg #[.int .i64 0, .slice none 0 0], v2, v3])) = .returned (.tuple #[.agg #[.int .i64 (takF s t k z q l e b v r m xs x1 x2 x3 x4 x5).1, v1], v4, v5]) ∧ OwnOr W w.heap.size v1 (takF s t k z q l e b v r m xs x1 x2 x3 x4 x5).2.1 ∧ OwnPn W w.heap.size v4 (takF s t k z q l e b v r m xs x1 x2 x3 x4 x5).2.2.1 ∧ OwnLp W w.heap.size v5 (takF s t k z q l e b v r m xs x1 x2 x3 x4 x5).2.2.2 ∧ Below w.heap.size w W := by
  intro h9 W v2 v3 h2 h3 hW
  rw [takF_no h9]
  exact ⟨_, _, _, rfl, World.ownsRow_nil _ _ _ _, h2, h3, hW⟩
 have zw0 : w.heap.size < w1.heap.size := by omega
 have zw1 : w.heap.size + 1 < w1.heap.size := by omega
 have zw2 : w.heap.size + 1 + 1 < w1.heap.size := by omega
 have zw3 : w.heap.size + 1 + 1 + 1 < w1.heap.size := by omega
 have j0 := Joins.cell_of_block bJ 0
 have j1 := Joins.cell_of_block bJ 1
 have j2 := Joins.cell_of_block bJ 2
 have j3 := Joins.cell_of_block bJ 3
 have j4 := Joins.cell_of_block bJ 4
 have j5 := Joins.cell_of_block bJ 5
 have j6 := Joins.cell_of_block bJ 6
 have j7 := Joins.cell_of_block bJ 7
 have j8 := Joins.cell_of_block bJ 8
 have j9 := Joins.cell_of_block bJ 9
 simp only [gA, gZ, gS] at j0 j1 j2 j3 j4 j5 j6 j7 j8 j9
 have ss0 := Joins.cell_of_block bS 0
 have ss1 := Joins.cell_of_block bS 1
 simp only [gA, gZ, gS] at ss0 ss1
 have ic0 := Joins.cell_of_block bI 0
 have ic1 := Joins.cell_of_block bI 1
 have ic2 := Joins.cell_of_block bI 2
 have ic3 := Joins.cell_of_block bI 3
 have ic4 := Joins.cell_of_block bI 4
 simp only [gA, gZ, gS] at ic0 ic1 ic2 ic3 ic4
 have rr0 := Joins.cell_of_block bR 0
 have rr1 := Joins.cell_of_block bR 1
 simp only [gA, gZ, gS] at rr0 rr1
 have rrf0 := cF bR 0
 have rrf1 := cF bR 1
 cases ob with
 | false =>
  have hno := hide (hnone (by unfold takB; rw [unhide HOB]; rfl))
  have hbs : Below w.heap.size w ((w1.setCell ⟨w.heap.size + 1 + 1 + 1, 0, none⟩ (.int .i64 0)).setCell ⟨w.heap.size + 1 + 1 + 1, 1, none⟩ (.slice none 0 0)) := bel_set (bel_set hbw (sA) _) (sA) _
  have hO2 : Hid (OwnPn ((((w1.setCell ⟨w.heap.size + 1 + 1 + 1, 0, none⟩ (.int .i64 0)).setCell ⟨w.heap.size + 1 + 1 + 1, 1, none⟩ (.slice none 0 0)).alloc (.cells #[] 68)).alloc (.cells #[] 71)) w.heap.size (.slice (some ⟨w1.heap.size, 0, none⟩) 0 0) []) := hide (World.ownsRow.alloc (ownLit (W := ((w1.setCell ⟨w.heap.size + 1 + 1 + 1, 0, none⟩ (.int .i64 0)).setCell ⟨w.heap.size + 1 + 1 + 1, 1, none⟩ (.slice none 0 0))) (B := w.heap.size) _ _ (by have := hbs.size; omega) (by simp)) _)
  have hO3 : Hid (OwnLp ((((w1.setCell ⟨w.heap.size + 1 + 1 + 1, 0, none⟩ (.int .i64 0)).setCell ⟨w.heap.size + 1 + 1 + 1, 1, none⟩ (.slice none 0 0)).alloc (.cells #[] 68)).alloc (.cells #[] 71)) w.heap.size (.slice (some ⟨w1.heap.size + 1, 0, none⟩) 0 0) []) := hide (ownLit (W := (((w1.setCell ⟨w.heap.size + 1 + 1 + 1, 0, none⟩ (.int .i64 0)).setCell ⟨w.heap.size + 1 + 1 + 1, 1, none⟩ (.slice none 0 0)).alloc (.cells #[] 68))) (B := w.heap.size) _ _ (by have := hbs.size; simp at this ⊢; omega) (by simp))
  have hO4 : Hid (Below w.heap.size w ((((w1.setCell ⟨w.heap.size + 1 + 1 + 1, 0, none⟩ (.int .i64 0)).setCell ⟨w.heap.size + 1 + 1 + 1, 1, none⟩ (.slice none 0 0)).alloc (.cells #[] 68)).alloc (.cells #[] 71))) := hide (bel_alloc (bel_alloc hbs _) _)
  clear hnone bJ bS bI bR hbs
  go_wp2
  refine bodyPost_ret (v := .tuple #[.agg #[.int .i64 0, .slice none 0 0], .slice (some ⟨w1.heap.size, 0, none⟩) 0 0, .slice (some ⟨w1.heap.size + 1, 0, none⟩) 0 0]) (by simp (maxDischargeDepth := 9) [results, Tryz.results5, go_sem, *]) rfl ?_
  exact unhide hno _ _ _ (unhide hO2) (unhide hO3) (unhide hO4)
 | true =>
  by_cases hq : x1 = 1
  ·have kq : (x1 == 1) = true := by simp [hq]
   have kn : (x1 != 1) = false := by simp [hq]
   obtain ⟨io, hio⟩ : ∃ io, okItm x1 x2 x3 x4 x5 = io := ⟨_, rfl⟩
   have HIR : Hid (isRecB x1 x2 x3 x4 x5 = io) := hide (by rw [← hio]; unfold isRecB okItm; rw [kq, if_pos hq]; rfl)
   have HCI := specitm_any x1 x2 x3 x4 x5 w1
   rw [hio] at HCI
   have HCI2 := hide HCI
   clear hio hq HCI
   go_wp2_with fail
   refine (unhide HCI2).mono ?_
   rintro e' w2 ⟨rfl, hb2⟩
   clear j0 j1 j2 j3 j4 j5 j6 j7 j8 j9 ss0 ss1 ic0 ic1 ic2 ic3 ic4 rr0 rr1 rrf0 rrf1 HCI2 zw0 zw1 zw2 zw3
   replace bJ := (hb2.block (w.heap.size) (by omega)).trans bJ
   replace bS := (hb2.block (w.heap.size + 1) (by omega)).trans bS
   replace bI := (hb2.block (w.heap.size + 1 + 1) (by omega)).trans bI
   replace bR := (hb2.block (w.heap.size + 1 + 1 + 1) (by omega)).trans bR
   replace hbw : Below w.heap.size w w2 := bel_trans hbw hb2
   have zzw2 := hb2.size
   clear hb2
   have zw0 : w.heap.size < w2.heap.size := by omega
   have zw1 : w.heap.size + 1 < w2.heap.size := by omega
   have zw2 : w.heap.size + 1 + 1 < w2.heap.size := by omega
   have zw3 : w.heap.size + 1 + 1 + 1 < w2.heap.size := by omega
   have j0 := Joins.cell_of_block bJ 0
   have j1 := Joins.cell_of_block bJ 1
   have j2 := Joins.cell_of_block bJ 2
   have j3 := Joins.cell_of_block bJ 3
   have j4 := Joins.cell_of_block bJ 4
   have j5 := Joins.cell_of_block bJ 5
   have j6 := Joins.cell_of_block bJ 6
   have j7 := Joins.cell_of_block bJ 7
   have j8 := Joins.cell_of_block bJ 8
   have j9 := Joins.cell_of_block bJ 9
   simp only [gA, gZ, gS] at j0 j1 j2 j3 j4 j5 j6 j7 j8 j9
   have ss0 := Joins.cell_of_block bS 0
   have ss1 := Joins.cell_of_block bS 1
   simp only [gA, gZ, gS] at ss0 ss1
   have ic0 := Joins.cell_of_block bI 0
   have ic1 := Joins.cell_of_block bI 1
   have ic2 := Joins.cell_of_block bI 2
   have ic3 := Joins.cell_of_block bI 3
   have ic4 := Joins.cell_of_block bI 4
   simp only [gA, gZ, gS] at ic0 ic1 ic2 ic3 ic4
   have rr0 := Joins.cell_of_block bR 0
   have rr1 := Joins.cell_of_block bR 1
   simp only [gA, gZ, gS] at rr0 rr1
   have rrf0 := cF bR 0
   have rrf1 := cF bR 1
   cases io with
   | false =>
    have hno := hide (hnone (by unfold takB; rw [unhide HOB, unhide HIR]; rfl))
    have hbs : Below w.heap.size w ((w2.setCell ⟨w.heap.size + 1 + 1 + 1, 0, none⟩ (.int .i64 0)).setCell ⟨w.heap.size + 1 + 1 + 1, 1, none⟩ (.slice none 0 0)) := bel_set (bel_set hbw (sA) _) (sA) _
    have hO2 : Hid (OwnPn ((((w2.setCell ⟨w.heap.size + 1 + 1 + 1, 0, none⟩ (.int .i64 0)).setCell ⟨w.heap.size + 1 + 1 + 1, 1, none⟩ (.slice none 0 0)).alloc (.cells #[] 68)).alloc (.cells #[] 71)) w.heap.size (.slice (some ⟨w2.heap.size, 0, none⟩) 0 0) []) := hide (World.ownsRow.alloc (ownLit (W := ((w2.setCell ⟨w.heap.size + 1 + 1 + 1, 0, none⟩ (.int .i64 0)).setCell ⟨w.heap.size + 1 + 1 + 1, 1, none⟩ (.slice none 0 0))) (B := w.heap.size) _ _ (by have := hbs.size; omega) (by simp)) _)
    have hO3 : Hid (OwnLp ((((w2.setCell ⟨w.heap.size + 1 + 1 + 1, 0, none⟩ (.int .i64 0)).setCell ⟨w.heap.size + 1 + 1 + 1, 1, none⟩ (.slice none 0 0)).alloc (.cells #[] 68)).alloc (.cells #[] 71)) w.heap.size (.slice (some ⟨w2.heap.size + 1, 0, none⟩) 0 0) []) := hide (ownLit (W := (((w2.setCell ⟨w.heap.size + 1 + 1 + 1, 0, none⟩ (.int .i64 0)).setCell ⟨w.heap.size + 1 + 1 + 1, 1, none⟩ (.slice none 0 0)).alloc (.cells #[] 68))) (B := w.heap.size) _ _ (by have := hbs.size; simp at this ⊢; omega) (by simp))
    have hO4 : Hid (Below w.heap.size w ((((w2.setCell ⟨w.heap.size + 1 + 1 + 1, 0, none⟩ (.int .i64 0)).setCell ⟨w.heap.size + 1 + 1 + 1, 1, none⟩ (.slice none 0 0)).alloc (.cells #[] 68)).alloc (.cells #[] 71))) := hide (bel_alloc (bel_alloc hbs _) _)
    clear hnone bJ bS bI bR hbs
    go_wp2
    refine bodyPost_ret (v := .tuple #[.agg #[.int .i64 0, .slice none 0 0], .slice (some ⟨w2.heap.size, 0, none⟩) 0 0, .slice (some ⟨w2.heap.size + 1, 0, none⟩) 0 0]) (by simp (maxDischargeDepth := 9) [results, Tryz.results5, go_sem, *]) rfl ?_
    exact unhide hno _ _ _ (unhide hO2) (unhide hO3) (unhide hO4)
   | true =>
    by_cases hn : len ≤ 280
    ·have kd : decide ((300 : Int) < (len : Int) + 20) = false := by simp; omega
     have kd2 : decide (300 < len + 20) = false := by simp; omega
     have kw : IntKind.i64.wrap ((len : Int) + 20) = (len : Int) + 20 := IntWalk.i64_in _ ⟨by omega, by omega⟩
     obtain ⟨hx3, hl, hmb, hokx, hrs⟩ := okOp_at (unhide HOB)
     have hj := okOp_job (unhide HOB)
     obtain ⟨hT, hx33⟩ := isRec_bd (unhide HIR)
     have HTF : Hid (takF s t k z q l e b v r m xs x1 x2 x3 x4 x5 = (m, (spTake (decide (k = 3)) b l m x3 x4 xs (winsOf k z q x2)).1, (spTake (decide (k = 3)) b l m x3 x4 xs (winsOf k z q x2)).2.1, (spTake (decide (k = 3)) b l m x3 x4 xs (winsOf k z q x2)).2.2.map (latX x1 x2 x3 x4 x5))) := hide (by unfold takF; rw [takB_of (unhide HOB) (unhide HIR) (by omega)]; rfl)
     have HBd : Hid (BdO 1500 xs) := hide (fun x hx => by have h1 := (okB_all (hokx x hx)).2.1; have h2 := (okB_all (hokx x hx)).2.2.2.1; omega)
     clear hnone hokx hrs
     go_wp2_with fail
     clear j0 j1 j2 j3 j4 j5 j6 j7 j8 j9 ss0 ss1 ic0 ic1 ic2 ic3 ic4 rr0 rr1 rrf0 rrf1 kd kd2 kw
     refine wp_region_held_drew (S := (fun W => W.heap[w.heap.size]? = some (.cells #[.int .i64 s, .int .i64 t, .int .i64 k, .int .i64 z, .int .i64 q, .int .i64 l, .int .i64 e, .bool b, .int .i64 v, .int .i64 r] 37 (0, 0)) ∧ W.heap[w.heap.size + 1]? = some (.cells #[.int .i64 m, .slice a len cap] 32 (0, 0)) ∧ W.heap[w.heap.size + 1 + 1]? = some (.cells #[.int .i64 x1, .int .i64 x2, .int .i64 x3, .int .i64 x4, .int .i64 x5] 40 (0, 0)))) (by kernel_rfl) ?_ (fun hHeld => ?_)
     ·((try dsimp only); exact ⟨bJ, bS, bI⟩)
     refine kT 0 ?_ ?_ ?_
     rotate_left
     ·(intro w9 hSw; (try dsimp only at hSw); obtain ⟨q0, q1, q2⟩ := hSw; have ax0 := cA q0 0; have ax1 := cA q0 1; have ax2 := cA q0 2; have ax3 := cA q0 3; have ax4 := cA q0 4; have ax5 := cA q0 5; have ax6 := cA q0 6; have ax7 := cA q0 7; have ax8 := cA q0 8; have ax9 := cA q0 9; simp only [gA, gZ, gS] at ax0 ax1 ax2 ax3 ax4 ax5 ax6 ax7 ax8 ax9; go_simp <;> with_reducible rfl)
     try simp only [Act.put, tA, tZ, tS]
     refine kT 1 ?_ ?_ ?_
     rotate_left
     ·(intro w9 hSw; (try dsimp only at hSw); obtain ⟨q0, q1, q2⟩ := hSw; have bx0 := cA q1 0; have bx1 := cA q1 1; simp only [gA, gZ, gS] at bx0 bx1; go_simp <;> with_reducible rfl)
     try simp only [Act.put, tA, tZ, tS]
     refine kT 3 ?_ ?_ ?_
     rotate_left
     ·(intro w9 hSw; (try dsimp only at hSw); obtain ⟨q0, q1, q2⟩ := hSw; have cx0 := cA q2 0; have cx1 := cA q2 1; have cx2 := cA q2 2; have cx3 := cA q2 3; have cx4 := cA q2 4; simp only [gA, gZ, gS] at cx0 cx1 cx2 cx3 cx4; go_simp <;> with_reducible rfl)
     try simp only [Act.put, tA, tZ, tS]
     refine rD 2 (fun K hK => ?_)
     go_simp
     (go_at_call 23; refine (l7copyG_any m a len cap xs w2.drew (h.below (bel_drew hbw)) (by omega)).mono ?_; rintro e9 w3 ⟨vc, rfl, hOc, hb3⟩)
     (try go_wp2_with fail)
     replace hb3 : Below w2.heap.size w2 w3 := bel_trans (bel_drew (Below.refl _ _)) hb3
     obtain ⟨a1, c1, rfl⟩ := sliceC hOc
     have HOc : Hid (OwnOr w3 w.heap.size (.slice a1 len c1) xs) := hide (by unfold OwnOr; rw [hxl]; exact World.ownsRow.mono hOc (by show w.heap.size ≤ w2.heap.size + 2; omega))
     replace bJ := (hb3.block (w.heap.size) (by omega)).trans bJ
     replace bS := (hb3.block (w.heap.size + 1) (by omega)).trans bS
     replace bI := (hb3.block (w.heap.size + 1 + 1) (by omega)).trans bI
     replace bR := (hb3.block (w.heap.size + 1 + 1 + 1) (by omega)).trans bR
     replace hbw : Below w.heap.size w w3 := bel_trans hbw hb3
     have zzw3 := hb3.size
     clear hOc hb3
     have HRw := hide (hold_sl (unhide HOc) (by omega))
     clear hHeld
     refine hK.out _ _ ?_ (fun hHeld => ?_)
     ·((try dsimp only); exact ⟨bJ, bS, bI⟩)
     clear hK K
     try simp only [Act.put, tA, tZ, tS]
     refine rD 4 (fun K hK => ?_)
     go_simp
     (go_at_call 22; refine (l7take_any s t k z q l e b v r m a1 len c1 xs x1 x2 x3 x4 x5 w3 (unhide HRw) (by omega) hj hT (unhide HBd)).mono ?_; rintro e9 w4 ⟨v1, v2, v3, rfl, hS4, hP4, hL4, hb4⟩)
     (try go_wp2_with fail)
     obtain ⟨⟨ys, ps, lw⟩, hF⟩ : ∃ r9, spTake (decide (k = 3)) b l m x3 x4 xs (winsOf k z q x2) = r9 := ⟨_, rfl⟩
     rw [hF] at hS4 hP4 hL4 HTF
     dsimp only at hS4 hP4 hL4
     have hO4 : OwnOr w4 w.heap.size v1 ys := by
      rcases hS4 with ⟨rfl, rfl⟩ | h9
      ·exact own_row (unhide HOc) (grown_of0 hb4) (fun _ e9 => by cases e9)
      ·exact World.ownsRow.mono h9 (by omega)
     obtain ⟨a4, c4, rfl⟩ := sliceC hO4
     have HO4 := hide hO4
     have HP4 := hide (World.ownsRow.mono hP4 (show w.heap.size ≤ w3.heap.size by omega))
     have HL4 := hide (World.ownsRow.mono hL4 (show w.heap.size ≤ w3.heap.size by omega))
     replace bJ := (hb4.block (w.heap.size) (by omega)).trans bJ
     replace bS := (hb4.block (w.heap.size + 1) (by omega)).trans bS
     replace bI := (hb4.block (w.heap.size + 1 + 1) (by omega)).trans bI
     replace bR := (hb4.block (w.heap.size + 1 + 1 + 1) (by omega)).trans bR
     replace hbw : Below w.heap.size w w4 := bel_trans hbw hb4
     have zzw4 := hb4.size
     clear hS4 hP4 hL4 hO4 hb4 hF
     clear hHeld
     refine hK.out _ _ ?_ (fun hHeld => ?_)
     ·((try dsimp only); exact ⟨bJ, bS, bI⟩)
     clear hK K
     try simp only [Act.put, tA, tZ, tS]
     refine kV 5 ?_
     refine kV 6 ?_
     refine kV 7 ?_
     refine rD 8 (fun K hK => ?_)
     have rr0 := Joins.cell_of_block bR 0
     have rr1 := Joins.cell_of_block bR 1
     simp only [gA, gZ, gS] at rr0 rr1
     have rrf0 := cF bR 0
     have rrf1 := cF bR 1
     have zr4 : w.heap.size + 1 + 1 + 1 < w4.heap.size := by omega
     go_simp
     clear rr0 rr1 rrf0 rrf1
     have mJ : ((w4.setCell ⟨w.heap.size + 1 + 1 + 1, 0, none⟩ (.int .i64 m)).setCell ⟨w.heap.size + 1 + 1 + 1, 1, none⟩ (.slice a4 ys.length c4)).heap[w.heap.size]? = some (.cells #[.int .i64 s, .int .i64 t, .int .i64 k, .int .i64 z, .int .i64 q, .int .i64 l, .int .i64 e, .bool b, .int .i64 v, .int .i64 r] 37 (0, 0)) := (Below.heap_setCell _ _ _ _ (by show _ ≠ w.heap.size + 1 + 1 + 1; omega)).trans ((Below.heap_setCell _ _ _ _ (by show _ ≠ w.heap.size + 1 + 1 + 1; omega)).trans bJ)
     have mS : ((w4.setCell ⟨w.heap.size + 1 + 1 + 1, 0, none⟩ (.int .i64 m)).setCell ⟨w.heap.size + 1 + 1 + 1, 1, none⟩ (.slice a4 ys.length c4)).heap[w.heap.size + 1]? = some (.cells #[.int .i64 m, .slice a len cap] 32 (0, 0)) := (Below.heap_setCell _ _ _ _ (by show _ ≠ w.heap.size + 1 + 1 + 1; omega)).trans ((Below.heap_setCell _ _ _ _ (by show _ ≠ w.heap.size + 1 + 1 + 1; omega)).trans bS)
     have mI : ((w4.setCell ⟨w.heap.size + 1 + 1 + 1, 0, none⟩ (.int .i64 m)).setCell ⟨w.heap.size + 1 + 1 + 1, 1, none⟩ (.slice a4 ys.length c4)).heap[w.heap.size + 1 + 1]? = some (.cells #[.int .i64 x1, .int .i64 x2, .int .i64 x3, .int .i64 x4, .int .i64 x5] 40 (0, 0)) := (Below.heap_setCell _ _ _ _ (by show _ ≠ w.heap.size + 1 + 1 + 1; omega)).trans ((Below.heap_setCell _ _ _ _ (by show _ ≠ w.heap.size + 1 + 1 + 1; omega)).trans bI)
     have mR : ((w4.setCell ⟨w.heap.size + 1 + 1 + 1, 0, none⟩ (.int .i64 m)).setCell ⟨w.heap.size + 1 + 1 + 1, 1, none⟩ (.slice a4 ys.length c4)).heap[w.heap.size + 1 + 1 + 1]? = some (.cells #[.int .i64 m, (.slice a4 ys.length c4)] 32 (0, 0)) := Joins.block_setCell (Joins.block_setCell bR _) _
     have hOF := hide (own_setX (p := ⟨w.heap.size + 1 + 1 + 1, 1, none⟩) (u := (.slice a4 ys.length c4)) (own_setX (p := ⟨w.heap.size + 1 + 1 + 1, 0, none⟩) (u := .int .i64 m) (unhide HO4) (own_ne_ty (unhide HO4) bR (by decide))) (own_ne_ty (unhide HO4) bR (by decide)))
     have hPF := hide (own_setX (p := ⟨w.heap.size + 1 + 1 + 1, 1, none⟩) (u := (.slice a4 ys.length c4)) (own_setX (p := ⟨w.heap.size + 1 + 1 + 1, 0, none⟩) (u := .int .i64 m) (unhide HP4) (own_ne_ty (unhide HP4) bR (by decide))) (own_ne_ty (unhide HP4) bR (by decide)))
     have hLF := hide (own_setX (p := ⟨w.heap.size + 1 + 1 + 1, 1, none⟩) (u := (.slice a4 ys.length c4)) (own_setX (p := ⟨w.heap.size + 1 + 1 + 1, 0, none⟩) (u := .int .i64 m) (unhide HL4) (own_ne_ty (unhide HL4) bR (by decide))) (own_ne_ty (unhide HL4) bR (by decide)))
     have hBF := hide (bel_set (p := ⟨w.heap.size + 1 + 1 + 1, 1, none⟩) (bel_set (p := ⟨w.heap.size + 1 + 1 + 1, 0, none⟩) hbw (sA) (.int .i64 m)) (sA) (.slice a4 ys.length c4))
     clear hHeld
     refine hK.out _ _ ?_ (fun hHeld => ?_)
     ·((try dsimp only); exact ⟨mJ, mS, mI⟩)
     clear hK K
     try simp only [Act.put, tA, tZ, tS]
     refine rD 9 (fun K hK => ?_)
     go_simp
     clear hHeld
     refine hK.out _ _ ?_ (fun hHeld => ?_)
     ·((try dsimp only); exact ⟨mJ, mS, mI⟩)
     clear hK K
     try simp only [Act.put, tA, tZ, tS]
     refine rD 10 (fun K hK => ?_)
     go_simp
     clear hHeld
     refine hK.out _ _ ?_ (fun hHeld => ?_)
     ·((try dsimp only); exact ⟨mJ, mS, mI⟩)
     clear hK K
     try simp only [Act.put, tA, tZ, tS]
     refine wpAnyH_done (by kernel_rfl) ?_ _
     clear hHeld mJ mS mI bJ bS bI bR
     generalize ((w4.setCell ⟨w.heap.size + 1 + 1 + 1, 0, none⟩ (.int .i64 m)).setCell ⟨w.heap.size + 1 + 1 + 1, 1, none⟩ (.slice a4 ys.length c4)) = w5 at mR hOF hPF hLF hBF ⊢
     have rr0 := Joins.cell_of_block mR 0
     have rr1 := Joins.cell_of_block mR 1
     simp only [gA, gZ, gS] at rr0 rr1
     clear mR
     go_wp2
     refine bodyPost_ret (v := .tuple #[.agg #[.int .i64 m, (.slice a4 ys.length c4)], v2, v3]) (by simp (maxDischargeDepth := 9) [results, Tryz.results5, go_sem, *]) rfl ?_
     rw [unhide HTF]
     exact ⟨_, _, _, rfl, unhide hOF, unhide hPF, unhide hLF, unhide hBF⟩
    ·have kd : decide ((300 : Int) < (len : Int) + 20) = true := by simp; omega
     have kd2 : decide (300 < len + 20) = true := by simp; omega
     have kw : IntKind.i64.wrap ((len : Int) + 20) = (len : Int) + 20 := IntWalk.i64_in _ ⟨by have := h.2.1; unfold maxLen at this; omega, by have := h.2.1; unfold maxLen at this; have := okOp_at (unhide HOB); omega⟩
     have hno := hide (hnone (by unfold takB; rw [unhide HOB, unhide HIR]; simp; omega))
     have hbs : Below w.heap.size w ((w2.setCell ⟨w.heap.size + 1 + 1 + 1, 0, none⟩ (.int .i64 0)).setCell ⟨w.heap.size + 1 + 1 + 1, 1, none⟩ (.slice none 0 0)) := bel_set (bel_set hbw (sA) _) (sA) _
     have hO2 : Hid (OwnPn ((((w2.setCell ⟨w.heap.size + 1 + 1 + 1, 0, none⟩ (.int .i64 0)).setCell ⟨w.heap.size + 1 + 1 + 1, 1, none⟩ (.slice none 0 0)).alloc (.cells #[] 68)).alloc (.cells #[] 71)) w.heap.size (.slice (some ⟨w2.heap.size, 0, none⟩) 0 0) []) := hide (World.ownsRow.alloc (ownLit (W := ((w2.setCell ⟨w.heap.size + 1 + 1 + 1, 0, none⟩ (.int .i64 0)).setCell ⟨w.heap.size + 1 + 1 + 1, 1, none⟩ (.slice none 0 0))) (B := w.heap.size) _ _ (by have := hbs.size; omega) (by simp)) _)
     have hO3 : Hid (OwnLp ((((w2.setCell ⟨w.heap.size + 1 + 1 + 1, 0, none⟩ (.int .i64 0)).setCell ⟨w.heap.size + 1 + 1 + 1, 1, none⟩ (.slice none 0 0)).alloc (.cells #[] 68)).alloc (.cells #[] 71)) w.heap.size (.slice (some ⟨w2.heap.size + 1, 0, none⟩) 0 0) []) := hide (ownLit (W := (((w2.setCell ⟨w.heap.size + 1 + 1 + 1, 0, none⟩ (.int .i64 0)).setCell ⟨w.heap.size + 1 + 1 + 1, 1, none⟩ (.slice none 0 0)).alloc (.cells #[] 68))) (B := w.heap.size) _ _ (by have := hbs.size; simp at this ⊢; omega) (by simp))
     have hO4 : Hid (Below w.heap.size w ((((w2.setCell ⟨w.heap.size + 1 + 1 + 1, 0, none⟩ (.int .i64 0)).setCell ⟨w.heap.size + 1 + 1 + 1, 1, none⟩ (.slice none 0 0)).alloc (.cells #[] 68)).alloc (.cells #[] 71))) := hide (bel_alloc (bel_alloc hbs _) _)
     clear hnone bJ bS bI bR hbs
     go_wp2
     refine bodyPost_ret (v := .tuple #[.agg #[.int .i64 0, .slice none 0 0], .slice (some ⟨w2.heap.size, 0, none⟩) 0 0, .slice (some ⟨w2.heap.size + 1, 0, none⟩) 0 0]) (by simp (maxDischargeDepth := 9) [results, Tryz.results5, go_sem, *]) rfl ?_
     exact unhide hno _ _ _ (unhide hO2) (unhide hO3) (unhide hO4)
  ·have kq : (x1 == 1) = false := by simp [hq]
   have kn : (x1 != 1) = true := by simp [hq]
   have HIR : Hid (isRecB x1 x2 x3 x4 x5 = false) := hide (by unfold isRecB; rw [kq]; rfl)
   clear hq
   have hno := hide (hnone (by unfold takB; rw [unhide HOB, unhide HIR]; rfl))
   have hbs : Below w.heap.size w ((w1.setCell ⟨w.heap.size + 1 + 1 + 1, 0, none⟩ (.int .i64 0)).setCell ⟨w.heap.size + 1 + 1 + 1, 1, none⟩ (.slice none 0 0)) := bel_set (bel_set hbw (sA) _) (sA) _
   have hO2 : Hid (OwnPn ((((w1.setCell ⟨w.heap.size + 1 + 1 + 1, 0, none⟩ (.int .i64 0)).setCell ⟨w.heap.size + 1 + 1 + 1, 1, none⟩ (.slice none 0 0)).alloc (.cells #[] 68)).alloc (.cells #[] 71)) w.heap.size (.slice (some ⟨w1.heap.size, 0, none⟩) 0 0) []) := hide (World.ownsRow.alloc (ownLit (W := ((w1.setCell ⟨w.heap.size + 1 + 1 + 1, 0, none⟩ (.int .i64 0)).setCell ⟨w.heap.size + 1 + 1 + 1, 1, none⟩ (.slice none 0 0))) (B := w.heap.size) _ _ (by have := hbs.size; omega) (by simp)) _)
   have hO3 : Hid (OwnLp ((((w1.setCell ⟨w.heap.size + 1 + 1 + 1, 0, none⟩ (.int .i64 0)).setCell ⟨w.heap.size + 1 + 1 + 1, 1, none⟩ (.slice none 0 0)).alloc (.cells #[] 68)).alloc (.cells #[] 71)) w.heap.size (.slice (some ⟨w1.heap.size + 1, 0, none⟩) 0 0) []) := hide (ownLit (W := (((w1.setCell ⟨w.heap.size + 1 + 1 + 1, 0, none⟩ (.int .i64 0)).setCell ⟨w.heap.size + 1 + 1 + 1, 1, none⟩ (.slice none 0 0)).alloc (.cells #[] 68))) (B := w.heap.size) _ _ (by have := hbs.size; simp at this ⊢; omega) (by simp))
   have hO4 : Hid (Below w.heap.size w ((((w1.setCell ⟨w.heap.size + 1 + 1 + 1, 0, none⟩ (.int .i64 0)).setCell ⟨w.heap.size + 1 + 1 + 1, 1, none⟩ (.slice none 0 0)).alloc (.cells #[] 68)).alloc (.cells #[] 71))) := hide (bel_alloc (bel_alloc hbs _) _)
   clear hnone bJ bS bI bR hbs
   go_wp2
   refine bodyPost_ret (v := .tuple #[.agg #[.int .i64 0, .slice none 0 0], .slice (some ⟨w1.heap.size, 0, none⟩) 0 0, .slice (some ⟨w1.heap.size + 1, 0, none⟩) 0 0]) (by simp (maxDischargeDepth := 9) [results, Tryz.results5, go_sem, *]) rfl ?_
   exact unhide hno _ _ _ (unhide hO2) (unhide hO3) (unhide hO4)
set_option linter.unusedSimpArgs false
theorem sp_le (ses pc : Bool) (l m ky v : Int) (N : Nat) : ∀ (ws : List WnR) (ys : List OrR) (ps : List PnR) (ls : List WnR), ys.length + ws.length ≤ N → (ws.foldl (spStep ses pc l m ky v) (ys, ps, ls)).1.length ≤ N ∧ (ws.foldl (spStep ses pc l m ky v) (ys, ps, ls)).2.1.length ≤ ps.length + ws.length * N ∧ (ws.foldl (spStep ses pc l m ky v) (ys, ps, ls)).2.2.length ≤ ls.length + ws.length
 | [], ys, ps, ls, h => by
  simp at h
  simp [h]
 | x :: ws, ys, ps, ls, h => by
  rw [List.length_cons] at h
  obtain ⟨⟨ys2, ps2, ok⟩, hs⟩ : ∃ r9, stF ses pc l m ys ky v x.a x.b = r9 := ⟨_, rfl⟩
  have hl := st_len ses pc l m ys ky v x.a x.b
  rw [hs] at hl
  dsimp only at hl
  have hN : (ws.length + 1) * N = ws.length * N + N := Nat.succ_mul _ _
  rw [List.foldl_cons, sp_step ses pc l m ky v ys ps ls x hs]
  cases ok with
  | true =>
   have h9 := sp_le ses pc l m ky v N ws ys2 (ps ++ ps2) ls (by omega)
   rw [List.length_append] at h9
   simp only [if_true] at h9 ⊢
   rw [List.length_cons]
   exact ⟨h9.1, by omega, by omega⟩
  | false =>
   have h9 := sp_le ses pc l m ky v N ws ys2 (ps ++ ps2) (ls ++ [x]) (by omega)
   rw [List.length_append, List.length_append, List.length_singleton] at h9
   simp only [Bool.false_eq_true, if_false] at h9 ⊢
   rw [List.length_cons]
   exact ⟨h9.1, by omega, by omega⟩
theorem tk_lo (s t k z q l e : Int) (b : Bool) (v r m : Int) (xs : List OrR) (x1 x2 x3 x4 x5 : Int) : ((takF s t k z q l e b v r m xs x1 x2 x3 x4 x5).1 = m ∨ (takF s t k z q l e b v r m xs x1 x2 x3 x4 x5).1 = 0) ∧ (takF s t k z q l e b v r m xs x1 x2 x3 x4 x5).2.1.length ≤ 341 ∧ (takF s t k z q l e b v r m xs x1 x2 x3 x4 x5).2.2.1.length ≤ 20801 ∧ (takF s t k z q l e b v r m xs x1 x2 x3 x4 x5).2.2.2.length ≤ 61 := by
 cases h : takB s t k z q l e v r m xs x1 x2 x3 x4 x5 with
 | false =>
  rw [takF_no h]
  exact ⟨.inr rfl, by simp, by simp, by simp⟩
 | true =>
  have hn : xs.length ≤ 280 := by
   unfold takB at h
   simp only [Bool.and_eq_true, decide_eq_true_eq] at h
   exact h.2.2
  have hw := wins_len k z q x2
  have h9 := sp_le (decide (k = 3)) b l m x3 x4 341 (winsOf k z q x2) xs [] [] (by omega)
  have hm : (winsOf k z q x2).length * 341 ≤ 61 * 341 := Nat.mul_le_mul_right _ hw
  unfold takF spTake
  rw [if_pos h]
  simp only [List.length_nil, Nat.zero_add] at h9
  exact ⟨.inl rfl, h9.1, Nat.le_trans h9.2.1 (Nat.le_trans hm (by decide)), by rw [List.length_map]; exact Nat.le_trans h9.2.2 hw⟩
theorem tk_le (s t k z q l e : Int) (b : Bool) (v r m : Int) (xs : List OrR) (x1 x2 x3 x4 x5 : Int) : (takF s t k z q l e b v r m xs x1 x2 x3 x4 x5).2.1.length ≤ 1048576 ∧ (takF s t k z q l e b v r m xs x1 x2 x3 x4 x5).2.2.1.length ≤ 1048576 ∧ (takF s t k z q l e b v r m xs x1 x2 x3 x4 x5).2.2.2.length ≤ 1048576 := by
 obtain ⟨_, h1, h2, h3⟩ := tk_lo s t k z q l e b v r m xs x1 x2 x3 x4 x5
 exact ⟨by omega, by omega, by omega⟩
end Go.Proofs.YtflignpbboiahaaGreat
namespace Go.Proofs.YtflignpbboiahaaGreat
open Go.ChangeShapes Go.WideShapes Go.ChangeAt Go.RowKit
set_option linter.unusedSimpArgs false
theorem okAgg_le {n s l m : Int} (h : okAgg n s l m = true) : 0 ≤ n ∧ n ≤ 1000 := by
 unfold okAgg at h
 split at h
 ·omega
 ·simp only [Bool.and_eq_true] at h
  have := inB_iff.1 h.1.1.1
  omega
theorem okB_agg {l m : Int} {x : OrR} (h : x.okB l m = true) : (0 ≤ x.an ∧ x.an ≤ 1000) ∧ (0 ≤ x.fn ∧ x.fn ≤ 1000) := by
 simp only [OrR.okB, okRow, Bool.and_eq_true, decide_eq_true_eq] at h
 obtain ⟨⟨⟨⟨⟨⟨⟨⟨⟨⟨h1, h2⟩, h3⟩, h4⟩, h5⟩, h6⟩, h7⟩, h8⟩, h9⟩, h10⟩, h11⟩ := h
 exact ⟨okAgg_le h3, okAgg_le h4⟩
theorem both_pos {g h : A4} (hg : 1 ≤ g.1 ∧ g.1 ≤ 100000000) (hh : 0 ≤ h.1 ∧ h.1 ≤ 1000) : 1 ≤ (bothA g h).1 ∧ (bothA g h).1 ≤ g.1 + 1000 := by
 show 1 ≤ bo g.1 h.1 g.1 h.1 (wrap64 (g.1 + h.1)) ∧ bo g.1 h.1 g.1 h.1 (wrap64 (g.1 + h.1)) ≤ g.1 + 1000
 unfold bo
 rw [if_neg (by omega)]
 split
 ·omega
 ·have : wrap64 (g.1 + h.1) = g.1 + h.1 := by unfold wrap64; omega
  rw [this]
  omega
theorem all_pos : ∀ (old : List OrR) (g : A4), (∀ x ∈ old, 0 ≤ x.an ∧ x.an ≤ 1000) → 1 ≤ g.1 → g.1 + 1000 * (old.length : Int) ≤ 100000000 → 1 ≤ (old.foldl (fun g x => bothA g (allA x)) g).1
 | [], g, _, h, _ => h
 | x :: old, g, hx, h, hl => by
  simp only [List.length_cons] at hl
  have h1 := both_pos (g := g) (h := allA x) ⟨h, by omega⟩ (hx x (by simp))
  exact all_pos old (bothA g (allA x)) (fun y hy => hx y (List.mem_cons_of_mem _ hy)) h1.1 (by omega)
theorem allO_pos {v : Int} {old : List OrR} (h : ∀ x ∈ old, 0 ≤ x.an ∧ x.an ≤ 1000) (hl : old.length ≤ 1000) : 1 ≤ (allO v old).1 := by
 have e1 : (addA (0, 0, 0, 0) v).1 = 1 := rfl
 exact all_pos old _ h (by rw [e1]; decide) (by rw [e1]; omega)
theorem tel_new {m : Int} {q : P3} {g : A4} (h : 1 ≤ g.1) : telB m (newX q g) = decide ((newX q g).en ≤ m) := by
 show (decide (q.2.2 ≤ m) && decide (0 < g.1)) = decide (q.2.2 ≤ m)
 have : decide (0 < g.1) = true := decide_eq_true (by omega)
 rw [this, Bool.and_true]
theorem RiseO.inj {xs : List OrR} (h : RiseO xs) {a b : OrR} (ha : a ∈ xs) (hb : b ∈ xs) (e : plO a = plO b) : a = b := by
 induction xs with
 | nil => cases ha
 | cons x t ih =>
  have hc := List.pairwise_cons.1 h
  rcases List.mem_cons.1 ha with rfl | h1 <;> rcases List.mem_cons.1 hb with rfl | h2
  ·rfl
  ·have := hc.1 b h2
   rw [e] at this
   exact absurd this (ltPl_irr _)
  ·have := hc.1 a h1
   rw [e] at this
   exact absurd this (ltPl_irr _)
  ·exact ih hc.2 h1 h2
theorem rest_same {xs : List OrR} (h : RiseO xs) (p : OrR → Bool) : xs.filter (fun x => !(xs.filter p).any (fun y => decide (plO y = plO x))) = xs.filter (fun x => !p x) := by
 refine List.filter_congr (fun x hx => ?_)
 congr 1
 cases hp : p x with
 | true => exact List.any_eq_true.2 ⟨x, List.mem_filter.2 ⟨hx, hp⟩, by simp⟩
 | false =>
  rw [List.any_eq_false]
  intro y hy h9
  have hy2 := List.mem_filter.1 hy
  have := h.inj hy2.1 hx (by simpa using h9)
  subst this
  rw [hp] at hy2
  cases hy2.2
/-- What is gathered behind all. -/
def gaF (pc : Bool) (m : Int) (a : List OrR × List PnR × List WnR) : List OrR × List PnR × List WnR := (a.1.map (gTx m), a.2.1 ++ (a.1.filter (telB m)).map (panX pc), a.2.2)
theorem take_ses {pc : Bool} {l m ky v : Int} {xs : List OrR} (h : RiseO xs) (hok : ∀ x ∈ xs, x.okB l m = true) (hl : xs.length ≤ 1000) (w : WnR) : spStep true pc l m ky v (xs, [], []) w = gaF pc m (imStep true l m ky v (xs, [], []) w) := by
 have hf : ∀ x ∈ xs, x.fn ≤ 1000000 := fun x hx => by have := (okB_agg (hok x hx)).2.2; omega
 unfold spStep imStep metO seF gaF
 simp only [if_true]
 obtain ⟨old, hold⟩ : ∃ old, xs.filter (touO ky w.a w.b) = old := ⟨_, rfl⟩
 rw [hold]
 obtain ⟨sp, hsp⟩ : ∃ sp, spnO w.a w.b old = sp := ⟨_, rfl⟩
 rw [hsp]
 by_cases hs : sp.2 + l ≤ m
 ·have hT := TkI.start (pc := pc) h hok hf (ky, sp.1, sp.2)
  simp only [if_pos hs, List.append_nil, List.nil_append]
  rw [← hT.rows, ← hT.pans]
  rfl
 ·simp only [if_neg hs]
  cases ho : oneO sp old with
  | true =>
   have hT := (TkI.start (pc := pc) h hok hf (ky, sp.1, sp.2)).step v (suc_lt _)
   simp only [if_true, inF, if_neg hs, List.nil_append]
   have h1 := hT.rows
   have h2 := hT.pans
   rw [List.nil_append] at h2
   rw [h1, h2]
  | false =>
   have hm : ∀ x ∈ xs.filter (fun x => !touO ky w.a w.b x), x ∈ xs := fun x hx => (List.mem_filter.1 hx).1
   have hrest : xs.filter (fun x => !old.any (fun y => decide (plO y = plO x))) = xs.filter (fun x => !touO ky w.a w.b x) := by rw [← hold]; exact rest_same h _
   have hpos : 1 ≤ (allO v old).1 := allO_pos (fun x hx => by rw [← hold] at hx; exact (okB_agg (hok x (List.mem_filter.1 hx).1)).1) (by rw [← hold]; exact Nat.le_trans (List.length_filter_le _ _) hl)
   have hT := (TkI.start (pc := pc) (h.sublist List.filter_sublist) (fun x hx => hok x (hm x hx)) (fun x hx => hf x (hm x hx)) (ky, sp.1, sp.2)).put (r := newX (ky, sp.1, sp.2) (allO v old)) rfl (tel_new hpos) (suc_lt _)
   simp only [Bool.false_eq_true, if_false, if_true, List.nil_append]
   have h1 := hT.rows
   have h2 := hT.pans
   rw [List.nil_append] at h2
   rw [hrest, h1, h2]
theorem take_same {ses pc : Bool} {l m ky v : Int} {xs : List OrR} {ws : List WnR} (h : RiseO xs) (hok : ∀ x ∈ xs, x.okB l m = true) (hl : xs.length ≤ 1000) (h1 : ses = true → ws.length ≤ 1) (h2 : ses = false → ws.Pairwise (fun x y => ltPl (ky, x.a, x.b) (ky, y.a, y.b))) : spTake ses pc l m ky v xs ws = gaF pc m (imTake ses l m ky v xs ws) := by
 have hf : ∀ x ∈ xs, x.fn ≤ 1000000 := fun x hx => by have := (okB_agg (hok x hx)).2.2; omega
 unfold spTake imTake
 cases ses with
 | true =>
  match ws, h1 rfl with
  | [], _ =>
   have hT := TkI.start (pc := pc) h hok hf (0, 0, 0)
   show (xs, [], []) = (xs.map (gTx m), [] ++ (xs.filter (telB m)).map (panX pc), [])
   rw [List.nil_append, ← hT.rows, ← hT.pans]
  | [w], _ => exact take_ses h hok hl w
  | _ :: _ :: _, h9 => simp at h9
 | false =>
  match ws, h2 rfl with
  | [], _ =>
   have hT := TkI.start (pc := pc) h hok hf (0, 0, 0)
   show (xs, [], []) = (xs.map (gTx m), [] ++ (xs.filter (telB m)).map (panX pc), [])
   rw [List.nil_append, ← hT.rows, ← hT.pans]
  | w :: ws, hw =>
   have hc := List.pairwise_cons.1 hw
   obtain ⟨q', hT, h3, h4⟩ := take_fix (l := l) (v := v) (w :: ws) (xs, [], []) xs (ky, w.a, w.b) (TkI.start (pc := pc) h hok hf _) (fun w' hw' => by
    rcases List.mem_cons.1 hw' with rfl | hw'
    ·exact .inl rfl
    ·exact .inr (hc.1 w' hw')) hw
   unfold gaF
   rw [h3, List.nil_append, ← hT.rows, ← hT.pans, ← h4]
end Go.Proofs.YtflignpbboiahaaGreat
namespace Go.Proofs.YtflignpbboiahaaGreat
open Go.ChangeShapes Go.WideShapes Go.ChangeAt Go.RowKit Go.Shelf Go.Maps
set_option linter.unusedSimpArgs false
def rowsE (es : List Ent) : List OrR := es.map (fun e => e.2)
def insE (a : Ent) : List Ent → List Ent
 | [] => [a]
 | x :: xs => if ltPl (plO a.2) (plO x.2) then a :: x :: xs else x :: insE a xs
def offE (q : P3) (es : List Ent) : List Ent := es.filter (fun e => !decide (plO e.2 = q))
def knE (v : Int) (g : Nat) (es : List Ent) : List Ent := es.map (fun e => (e.1, if decide (e.1 = g) = true then knowX e.2 v else e.2))
theorem insE_rows (a : Ent) : ∀ es : List Ent, rowsE (insE a es) = insO a.2 (rowsE es)
 | [] => rfl
 | x :: xs => by
  show (insE a (x :: xs)).map (fun e => e.2) = insO a.2 (x.2 :: rowsE xs)
  unfold insE insO
  split
  ·rfl
  ·rw [List.map_cons]
   exact congrArg (x.2 :: ·) (insE_rows a xs)
theorem insE_mem {a : Ent} : ∀ {xs : List Ent} {y : Ent}, y ∈ insE a xs ↔ y = a ∨ y ∈ xs
 | [], y => by simp [insE]
 | x :: xs, y => by
  unfold insE
  split
  ·simp
  ·rw [List.mem_cons, insE_mem, List.mem_cons]
   constructor
   ·rintro (h | h | h) <;> simp [h]
   ·rintro (h | h | h) <;> simp [h]
theorem insE_perm (a : Ent) : ∀ es : List Ent, (insE a es).Perm (a :: es)
 | [] => List.Perm.refl _
 | x :: xs => by
  unfold insE
  split
  ·exact List.Perm.refl _
  ·exact ((insE_perm a xs).cons x).trans (List.Perm.swap a x xs)
theorem offE_mem {q : P3} {es : List Ent} {y : Ent} : y ∈ offE q es ↔ y ∈ es ∧ ¬ plO y.2 = q := by
 unfold offE
 rw [List.mem_filter]
 simp
theorem riseE_iff {es : List Ent} : RiseE es ↔ RiseO (rowsE es) := by
 unfold RiseE rowsE
 exact (List.pairwise_map (f := fun e : Ent => e.2) (R := fun x y => ltPl (plO x) (plO y))).symm
theorem mapE_ins {a : Ent} (q : P3) : ∀ {es : List Ent}, (∀ x ∈ es, ¬ plO x.2 = plO a.2) → mapE (insE a es) q = if q = plO a.2 then some (ptrE a) else mapE es q
 | [], _ => by
  unfold mapE insE
  by_cases h : q = plO a.2
  ·simp [h]
  ·have h' : ¬ plO a.2 = q := fun e => h e.symm
   simp [h, h']
 | x :: xs, hn => by
  have ih := mapE_ins q (fun y hy => hn y (List.mem_cons_of_mem _ hy)) (es := xs) (a := a)
  have hx := hn x (by simp)
  unfold insE
  split
  ·unfold mapE
   rw [List.find?_cons]
   by_cases h : q = plO a.2
   ·simp [h]
   ·have h' : ¬ plO a.2 = q := fun e => h e.symm
    simp [h, h']
  ·unfold mapE at ih ⊢
   rw [List.find?_cons, List.find?_cons]
   by_cases h : plO x.2 = q
   ·have h2 : ¬ q = plO a.2 := fun e => hx (h.trans e)
    simp [h, h2]
   ·simp only [h, decide_false]
    exact ih
theorem mapE_off (q p : P3) (es : List Ent) : mapE (offE q es) p = if p = q then none else mapE es p := by
 unfold mapE offE
 rw [List.find?_filter]
 by_cases h : p = q
 ·subst h
  rw [if_pos rfl, List.find?_eq_none.2 (fun x _ => by simp)]
  rfl
 ·rw [if_neg h]
  congr 1
  congr 1
  funext x
  by_cases h2 : plO x.2 = p
  ·have : ¬ plO x.2 = q := fun e => h (h2.symm.trans e)
   simp [h2, h]
  ·simp [h2]
theorem mapE_kn (v : Int) (g : Nat) (es : List Ent) : mapE (knE v g es) = mapE es := mapE_same (fun x => knowX x v) (fun _ => rfl) (fun e => decide (e.1 = g)) es
/-- A row put in the place of one that is there. -/
theorem put_at {y y' : OrR} (hp : plO y' = plO y) : ∀ {xs : List OrR}, RiseO xs → y ∈ xs → putO y' xs = xs.map (fun x => if plO x = plO y then y' else x)
 | [], _, hy => by cases hy
 | x :: xs, h, hy => by
  have hc := List.pairwise_cons.1 h
  by_cases hx : plO x = plO y
  ·have hno : ∀ z ∈ xs, ¬ plO z = plO y := fun z hz e => by
    have := hc.1 z hz
    rw [hx, e] at this
    exact ltPl_irr _ this
   have e1 : offO (plO y') (x :: xs) = xs := by
    unfold offO
    rw [List.filter_cons, if_neg (by simp [hp, hx])]
    exact List.filter_eq_self.2 (fun z hz => by simp [hp, hno z hz])
   have e2 : xs.map (fun x => if plO x = plO y then y' else x) = xs := by
    have : xs.map (fun x => if plO x = plO y then y' else x) = xs.map id := List.map_congr_left (fun z hz => by rw [if_neg (hno z hz)]; rfl)
    rw [this, List.map_id]
   unfold putO
   rw [e1, List.map_cons, if_pos hx, e2]
   cases xs with
   | nil => rfl
   | cons z t =>
    have := hc.1 z (by simp)
    unfold insO
    rw [if_pos (by rw [hp, ← hx]; exact this)]
  ·have hy' : y ∈ xs := (List.mem_cons.1 hy).resolve_left (fun e => hx (by rw [e]))
   have hl : ¬ ltPl (plO y') (plO x) := fun h9 => by
    rw [hp] at h9
    exact ltPl_irr _ (ltPl_tr h9 (hc.1 y hy'))
   have ih := put_at hp hc.2 hy'
   unfold putO at ih ⊢
   have e1 : offO (plO y') (x :: xs) = x :: offO (plO y') xs := by
    unfold offO
    rw [List.filter_cons, if_pos (by simp [hp, hx])]
   rw [e1, List.map_cons, if_neg hx]
   show (if _ then _ else _) = _
   rw [if_neg hl, ih]
theorem fnd_at {y : OrR} {xs : List OrR} (h : RiseO xs) (hy : y ∈ xs) : fndO (plO y) xs = some y := by
 unfold fndO
 cases hf : xs.find? (fun x => decide (plO x = plO y)) with
 | none =>
  have := List.find?_eq_none.1 hf y hy
  simp at this
 | some x =>
  have h1 : x ∈ xs := List.mem_of_find?_eq_some hf
  have h2 : plO x = plO y := by simpa using List.find?_some hf
  rw [h.inj h1 hy h2]
theorem kn_rows {v : Int} {g : Nat} {y : OrR} {es : List Ent} (h : RiseE es) (hn : (es.map (fun e => e.1)).Nodup) (hy : (g, y) ∈ es) : rowsE (knE v g es) = putO (nexO (plO y) v (rowsE es)) (rowsE es) := by
 have hr := riseE_iff.1 h
 have hyr : y ∈ rowsE es := List.mem_map.2 ⟨(g, y), hy, rfl⟩
 have e1 : nexO (plO y) v (rowsE es) = knowX y v := by unfold nexO; rw [fnd_at hr hyr]; rfl
 rw [e1, put_at (y := y) (y' := knowX y v) rfl hr hyr]
 unfold rowsE knE
 rw [List.map_map, List.map_map]
 refine List.map_congr_left (fun e he => ?_)
 simp only [Function.comp]
 by_cases hg : e.1 = g
 ·have : e = (g, y) := by
   have hinj : ∀ (l : List Ent), (l.map (fun e => e.1)).Nodup → ∀ a b, a ∈ l → b ∈ l → a.1 = b.1 → a = b := by
    intro l hl a b ha hb hab
    induction l with
    | nil => cases ha
    | cons x t ih =>
     rw [List.map_cons, List.nodup_cons] at hl
     rcases List.mem_cons.1 ha with rfl | h1 <;> rcases List.mem_cons.1 hb with rfl | h2
     ·rfl
     ·exact absurd (List.mem_map.2 ⟨b, h2, hab.symm⟩) hl.1
     ·exact absurd (List.mem_map.2 ⟨a, h1, hab⟩) hl.1
     ·exact ih hl.2 h1 h2
   exact hinj es hn e (g, y) he hy hg
  subst this
  simp
 ·have hne : ¬ plO e.2 = plO y := fun e9 => hg (by have := h.inj he hy e9; rw [this])
  simp [hg, hne]
/-- What a map of entries is behind each. -/
theorem OwnsV.drop {w : World} {b n : Nat} {m : P3 → Option Value} (h : OwnsV w b n m) (q : P3) (hq : ok3 q) (ty : TypeId) : ∃ w', (Builtin.delete_ #[58, 98] ty #[.map (some b), v3 q]).run Tryz.prog w = .ok (.tuple #[]) w' ∧ OwnsV w' b n (fun x => if x = q then none else m x) ∧ w.grownBy w' (some b) := OwnsOp.drop h key3 Tryz.underlying58 some3 inj3 q hq ty
theorem RowsI.put {W W' : World} {B mb nn : Nat} {es : List Ent} (h : RowsI W B mb nn es) (g : Nat) (x : OrR) (hx : BxO W g x) (hg : B ≤ g) (hn : ∀ e ∈ es, e.1 ≠ g) (hp : ∀ e ∈ es, ¬ plO e.2 = plO x) (hm : OwnsV W' mb (nn + 1) (fun q => if q = plO x then some (Value.pointer (some ⟨g, 0, none⟩)) else (mapE es q).map Value.pointer)) (hgr : W.grownBy W' (some mb)) : RowsI W' B mb (nn + 1) (insE (g, x) es) := by
 have hkeep : ∀ k y, BxO W k y → BxO W' k y := fun k y hy => (hgr.block k hy.lt (fun e9 => h.map.ne_cells hy (Option.some.inj e9))).trans hy
 have e1 : (fun q => (mapE (insE (g, x) es) q).map Value.pointer) = fun q => if q = plO x then some (Value.pointer (some ⟨g, 0, none⟩)) else (mapE es q).map Value.pointer := by
  funext q
  rw [mapE_ins (a := (g, x)) q hp]
  split <;> rfl
 refine ⟨by rw [e1]; exact hm, fun e he => ?_, fun e he => ?_, ?_⟩
 ·rcases insE_mem.1 he with rfl | he
  ·exact hkeep _ _ hx
  ·exact hkeep _ _ (h.box e he)
 ·rcases insE_mem.1 he with rfl | he
  ·exact hg
  ·exact h.ge e he
 ·refine (((insE_perm (g, x) es).map (fun e => e.1)).nodup_iff).2 ?_
  rw [List.map_cons, List.nodup_cons]
  refine ⟨fun h9 => ?_, h.nd⟩
  obtain ⟨e, he, e9⟩ := List.mem_map.1 h9
  exact hn e he e9
theorem RowsI.off {W W' : World} {B mb nn : Nat} {es : List Ent} (h : RowsI W B mb nn es) (q : P3) (hm : OwnsV W' mb nn (fun p => if p = q then none else (mapE es p).map Value.pointer)) (hgr : W.grownBy W' (some mb)) : RowsI W' B mb nn (offE q es) := by
 have hkeep : ∀ k y, BxO W k y → BxO W' k y := fun k y hy => (hgr.block k hy.lt (fun e9 => h.map.ne_cells hy (Option.some.inj e9))).trans hy
 have e1 : (fun p => (mapE (offE q es) p).map Value.pointer) = fun p => if p = q then none else (mapE es p).map Value.pointer := by
  funext p
  rw [mapE_off]
  split <;> rfl
 refine ⟨by rw [e1]; exact hm, fun e he => hkeep _ _ (h.box e (offE_mem.1 he).1), fun e he => h.ge e (offE_mem.1 he).1, ?_⟩
 exact List.Nodup.sublist (List.Sublist.map _ List.filter_sublist) h.nd
theorem RowsI.know {W W' : World} {B mb nn g : Nat} {y : OrR} {v : Int} {es : List Ent} (h : RowsI W B mb nn es) (hy : (g, y) ∈ es) (hb : BxO W' g (knowX y v)) (hgr : W.grownBy W' (some g)) (hrise : RiseE es) : RowsI W' B mb nn (knE v g es) := by
 refine ⟨?_, fun e he => ?_, fun e he => ?_, ?_⟩
 ·rw [show mapE (knE v g es) = mapE es from mapE_kn v g es]
  exact OwnsOp.grown h.map hgr (fun e9 => h.map.ne_cells (h.box _ hy) (Option.some.inj e9).symm)
 ·obtain ⟨x, hx, rfl⟩ := List.mem_map.1 he
  by_cases hg : x.1 = g
  ·have : x = (g, y) := by
    have hinj : ∀ (l : List Ent), (l.map (fun e => e.1)).Nodup → ∀ a b, a ∈ l → b ∈ l → a.1 = b.1 → a = b := by
     intro l hl a b ha hb hab
     induction l with
     | nil => cases ha
     | cons x t ih =>
      rw [List.map_cons, List.nodup_cons] at hl
      rcases List.mem_cons.1 ha with rfl | h1 <;> rcases List.mem_cons.1 hb with rfl | h2
      ·rfl
      ·exact absurd (List.mem_map.2 ⟨b, h2, hab.symm⟩) hl.1
      ·exact absurd (List.mem_map.2 ⟨a, h1, hab⟩) hl.1
      ·exact ih hl.2 h1 h2
    exact hinj es h.nd x (g, y) hx hy hg
   subst this
   simpa using hb
  ·have h9 := h.box x hx
   simp only [hg, decide_false, Bool.false_eq_true, if_false]
   exact (hgr.block x.1 h9.lt (fun e9 => hg (Option.some.inj e9))).trans h9
 ·obtain ⟨x, hx, rfl⟩ := List.mem_map.1 he
  exact h.ge x hx
 ·have : (knE v g es).map (fun e => e.1) = es.map (fun e => e.1) := by
   unfold knE
   rw [List.map_map]
   rfl
  rw [this]
  exact h.nd
end Go.Proofs.YtflignpbboiahaaGreat
