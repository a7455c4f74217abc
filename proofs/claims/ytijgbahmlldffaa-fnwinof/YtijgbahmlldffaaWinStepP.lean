/- Proved here: the law on windows that slide by their size returns true at every code. -/
import Derived.Test.YtijgbahmlldffaaDrawWof
import Derived.Test.YtijgbahmlldffaaFrWin
import Derived.Test.YtijgbahmlldffaaFrOk
import Derived.Deep.RegionHeld3
import Derived.Deep.DeepCutAuto
namespace Go.Proofs.Ytijgbahmlldffaa
open Go.ChangeShapes Go.WideShapes Go.ChangeAt Go.RowKit
set_option linter.unusedVariables false

theorem implok_is (s t k z q l e : Int) (b : Bool) (v r : Int) (w : World) {o : Bool} (h : Hid (okJob s t k z q l e v r = o)) : Calls Try.prog 10 #[.agg #[.int .i64 s, .int .i64 t, .int .i64 k, .int .i64 z, .int .i64 q, .int .i64 l, .int .i64 e, .bool b, .int .i64 v, .int .i64 r]] w fun e' w' => e' = .returned (.bool o) ∧ Below w.heap.size w w' := by
  rw [← unhide h]; exact impljobok_any s t k z q l e b v r w
theorem specok_is (s t k z q l e : Int) (b : Bool) (v r : Int) (w : World) {o : Bool} (h : Hid (okJob s t k z q l e v r = o)) : Calls Try.prog 11 #[.agg #[.int .i64 s, .int .i64 t, .int .i64 k, .int .i64 z, .int .i64 q, .int .i64 l, .int .i64 e, .bool b, .int .i64 v, .int .i64 r]] w fun e' w' => e' = .returned (.bool o) ∧ Below w.heap.size w w' := by
  rw [← unhide h]; exact specjobok_any s t k z q l e b v r w
theorem touch_is (a b c d : Int) (w : World) {o : Bool} (h : Hid (touchB a b c d = o)) : Calls Try.prog 17 #[.agg #[.int .i64 a, .int .i64 b], .agg #[.int .i64 c, .int .i64 d]] w fun e w' => e = .returned (.bool o) ∧ Below w.heap.size w w' := by
  rw [← unhide h]; exact impltouch_any a b c d w
theorem blk_newJ {W : World} {g : Nat} {o : Obj} (hg : g = W.heap.size) : (W.alloc o).heap[g]? = some o := by
  subst hg
  exact heap_alloc_new _ _
/-- Three boxes with a job in each. -/
def Three (w4 : World) (s t k z q l e : Int) (b : Bool) (v r : Int) (p5 p6 p7 : Value) (W : World) : Prop := ∃ B5 B6 B7, p5 = .pointer (some ⟨B5, 0, none⟩) ∧ p6 = .pointer (some ⟨B6, 0, none⟩) ∧ p7 = .pointer (some ⟨B7, 0, none⟩) ∧ (B5 ≠ B6 ∧ B5 ≠ B7 ∧ B6 ≠ B7) ∧ (w4.heap.size ≤ B5 ∧ w4.heap.size ≤ B6 ∧ w4.heap.size ≤ B7) ∧ W.heap[B5]? = some (.cells #[.int .i64 s, .int .i64 t, .int .i64 k, .int .i64 z, .int .i64 q, .int .i64 l, .int .i64 e, .bool b, .int .i64 v, .int .i64 r] 24 (0, 0)) ∧ W.heap[B6]? = some (.cells #[.int .i64 s, .int .i64 t, .int .i64 k, .int .i64 z, .int .i64 q, .int .i64 l, .int .i64 e, .bool b, .int .i64 v, .int .i64 r] 24 (0, 0)) ∧ W.heap[B7]? = some (.cells #[.int .i64 s, .int .i64 t, .int .i64 k, .int .i64 z, .int .i64 q, .int .i64 l, .int .i64 e, .bool b, .int .i64 v, .int .i64 r] 24 (0, 0)) ∧ Below w4.heap.size w4 W
set_option linter.unusedSimpArgs false in
set_option maxRecDepth 20000 in
set_option maxHeartbeats 8000000 in
theorem lawWinStepP (a : Option Addr) (len cap : Nat) (w : World) (hlc : len ≤ cap) (hm : len ≤ maxLen) (hb : BytesAt w a len) (hl : ∀ g o, a = some ⟨g, o, none⟩ → 0 < len → g < w.heap.size) (hn : a = none → cap = 0) : Calls Try.prog 5 #[.slice a len cap] w fun e w' => e = .returned (.bool true) ∧ Below w.heap.size w w' := by
  unfold maxLen at hm
  by_cases hlen : (len : Int) ≤ 1048576
  · go_enter Try.func5, Try.ntmps5
    go_wp2_with fail
    refine (drawwinof_any a len cap w hlc (by omega) hb hl hn).mono ?_
    rintro e' w1 ⟨s, t, k, z, q, l, e, b, v, r, T, rfl, kl, ku, hb1⟩
    clear hb hl hn
    cases hj : okJob s t k z q l e v r with
    | false =>
      have hb1' : Below w1.heap.size w1 (w1.alloc (.cells #[.int .i64 s, .int .i64 t, .int .i64 k, .int .i64 z, .int .i64 q, .int .i64 l, .int .i64 e, .bool b, .int .i64 v, .int .i64 r] 24)) := bel_one _ _
      have c_ : (w1.alloc (.cells #[.int .i64 s, .int .i64 t, .int .i64 k, .int .i64 z, .int .i64 q, .int .i64 l, .int .i64 e, .bool b, .int .i64 v, .int .i64 r] 24)).cell? ⟨w1.heap.size, 0, none⟩ = some (.int .i64 s) ∧ (w1.alloc (.cells #[.int .i64 s, .int .i64 t, .int .i64 k, .int .i64 z, .int .i64 q, .int .i64 l, .int .i64 e, .bool b, .int .i64 v, .int .i64 r] 24)).cell? ⟨w1.heap.size, 1, none⟩ = some (.int .i64 t) ∧ (w1.alloc (.cells #[.int .i64 s, .int .i64 t, .int .i64 k, .int .i64 z, .int .i64 q, .int .i64 l, .int .i64 e, .bool b, .int .i64 v, .int .i64 r] 24)).cell? ⟨w1.heap.size, 2, none⟩ = some (.int .i64 k) ∧ (w1.alloc (.cells #[.int .i64 s, .int .i64 t, .int .i64 k, .int .i64 z, .int .i64 q, .int .i64 l, .int .i64 e, .bool b, .int .i64 v, .int .i64 r] 24)).cell? ⟨w1.heap.size, 3, none⟩ = some (.int .i64 z) ∧ (w1.alloc (.cells #[.int .i64 s, .int .i64 t, .int .i64 k, .int .i64 z, .int .i64 q, .int .i64 l, .int .i64 e, .bool b, .int .i64 v, .int .i64 r] 24)).cell? ⟨w1.heap.size, 4, none⟩ = some (.int .i64 q) ∧ (w1.alloc (.cells #[.int .i64 s, .int .i64 t, .int .i64 k, .int .i64 z, .int .i64 q, .int .i64 l, .int .i64 e, .bool b, .int .i64 v, .int .i64 r] 24)).cell? ⟨w1.heap.size, 5, none⟩ = some (.int .i64 l) ∧ (w1.alloc (.cells #[.int .i64 s, .int .i64 t, .int .i64 k, .int .i64 z, .int .i64 q, .int .i64 l, .int .i64 e, .bool b, .int .i64 v, .int .i64 r] 24)).cell? ⟨w1.heap.size, 6, none⟩ = some (.int .i64 e) ∧ (w1.alloc (.cells #[.int .i64 s, .int .i64 t, .int .i64 k, .int .i64 z, .int .i64 q, .int .i64 l, .int .i64 e, .bool b, .int .i64 v, .int .i64 r] 24)).cell? ⟨w1.heap.size, 7, none⟩ = some (.bool b) ∧ (w1.alloc (.cells #[.int .i64 s, .int .i64 t, .int .i64 k, .int .i64 z, .int .i64 q, .int .i64 l, .int .i64 e, .bool b, .int .i64 v, .int .i64 r] 24)).cell? ⟨w1.heap.size, 8, none⟩ = some (.int .i64 v) ∧ (w1.alloc (.cells #[.int .i64 s, .int .i64 t, .int .i64 k, .int .i64 z, .int .i64 q, .int .i64 l, .int .i64 e, .bool b, .int .i64 v, .int .i64 r] 24)).cell? ⟨w1.heap.size, 9, none⟩ = some (.int .i64 r) := ⟨by simp [go_sem], by simp [go_sem], by simp [go_sem], by simp [go_sem], by simp [go_sem], by simp [go_sem], by simp [go_sem], by simp [go_sem], by simp [go_sem], by simp [go_sem]⟩
      go_wp2_with fail
      refine wp_region_held_drew (S := (fun W => W.cell? ⟨w1.heap.size, 0, none⟩ = some (.int .i64 s) ∧ W.cell? ⟨w1.heap.size, 1, none⟩ = some (.int .i64 t) ∧ W.cell? ⟨w1.heap.size, 2, none⟩ = some (.int .i64 k) ∧ W.cell? ⟨w1.heap.size, 3, none⟩ = some (.int .i64 z) ∧ W.cell? ⟨w1.heap.size, 4, none⟩ = some (.int .i64 q) ∧ W.cell? ⟨w1.heap.size, 5, none⟩ = some (.int .i64 l) ∧ W.cell? ⟨w1.heap.size, 6, none⟩ = some (.int .i64 e) ∧ W.cell? ⟨w1.heap.size, 7, none⟩ = some (.bool b) ∧ W.cell? ⟨w1.heap.size, 8, none⟩ = some (.int .i64 v) ∧ W.cell? ⟨w1.heap.size, 9, none⟩ = some (.int .i64 r))) (by kernel_rfl) ?_ (fun hHeld => ?_)
      · (try dsimp only); exact ⟨by first | (simp [go_sem, *]; done) | assumption, by first | (simp [go_sem, *]; done) | assumption, by first | (simp [go_sem, *]; done) | assumption, by first | (simp [go_sem, *]; done) | assumption, by first | (simp [go_sem, *]; done) | assumption, by first | (simp [go_sem, *]; done) | assumption, by first | (simp [go_sem, *]; done) | assumption, by first | (simp [go_sem, *]; done) | assumption, by first | (simp [go_sem, *]; done) | assumption, by first | (simp [go_sem, *]; done) | assumption⟩
      refine wpAnyH_take (i := 0) (v := ?_) (by simp only [List.getElem?_toArray, List.getElem?_cons_zero, List.getElem?_cons_succ]; rfl) (by kernel_rfl) (by kernel_rfl) (by kernel_rfl) (by intro _ _ _ h; exact h) (Or.inl ⟨by rfl, ?_⟩) (by assumption) ?_
      rotate_left
      · (intro w9 hSw; (try dsimp only at hSw); go_simp <;> with_reducible rfl)
      try simp only [Act.put, List.setIfInBounds_toArray, List.set_cons_zero, List.set_cons_succ]
      refine wpAnyH_take (i := 2) (v := ?_) (by simp only [List.getElem?_toArray, List.getElem?_cons_zero, List.getElem?_cons_succ]; rfl) (by kernel_rfl) (by kernel_rfl) (by kernel_rfl) (by intro _ _ _ h; exact h) (Or.inl ⟨by rfl, ?_⟩) (by assumption) ?_
      rotate_left
      · (intro w9 hSw; (try dsimp only at hSw); go_simp <;> with_reducible rfl)
      try simp only [Act.put, List.setIfInBounds_toArray, List.set_cons_zero, List.set_cons_succ]
      refine wpAnyH_ready (rs := [1]) (by kernel_rfl) (by simp) ?_
      refine AllReadyH.cons (by simp only [List.getElem?_toArray, List.getElem?_cons_zero, List.getElem?_cons_succ]; rfl) (fun K hK => ?_) AllReadyH.nil
      go_simp
      (go_at_call 10; refine (implok_is s t k z q l e b v r _ (hide hj)).mono ?_; rintro e' w2 ⟨rfl, hb2⟩)
      (try go_wp2_with fail)
      have z2 : w1.heap.size < w2.heap.size := by have h9 := hb2.size; simp at h9; omega
      have b2 : Below (w1.alloc (.cells #[.int .i64 s, .int .i64 t, .int .i64 k, .int .i64 z, .int .i64 q, .int .i64 l, .int .i64 e, .bool b, .int .i64 v, .int .i64 r] 24)).heap.size (w1.alloc (.cells #[.int .i64 s, .int .i64 t, .int .i64 k, .int .i64 z, .int .i64 q, .int .i64 l, .int .i64 e, .bool b, .int .i64 v, .int .i64 r] 24)) w2 := Below.trans ((Below.refl _ (w1.alloc (.cells #[.int .i64 s, .int .i64 t, .int .i64 k, .int .i64 z, .int .i64 q, .int .i64 l, .int .i64 e, .bool b, .int .i64 v, .int .i64 r] 24))).drew) (hb2.mono (by simp))
      obtain ⟨d0, d1, d2, d3, d4, d5, d6, d7, d8, d9⟩ := c_
      have c0 : w2.cell? ⟨w1.heap.size, 0, none⟩ = some (.int .i64 s) := (b2.cell (p := ⟨w1.heap.size, 0, none⟩) (by simp)).trans d0
      have c1 : w2.cell? ⟨w1.heap.size, 1, none⟩ = some (.int .i64 t) := (b2.cell (p := ⟨w1.heap.size, 1, none⟩) (by simp)).trans d1
      have c2 : w2.cell? ⟨w1.heap.size, 2, none⟩ = some (.int .i64 k) := (b2.cell (p := ⟨w1.heap.size, 2, none⟩) (by simp)).trans d2
      have c3 : w2.cell? ⟨w1.heap.size, 3, none⟩ = some (.int .i64 z) := (b2.cell (p := ⟨w1.heap.size, 3, none⟩) (by simp)).trans d3
      have c4 : w2.cell? ⟨w1.heap.size, 4, none⟩ = some (.int .i64 q) := (b2.cell (p := ⟨w1.heap.size, 4, none⟩) (by simp)).trans d4
      have c5 : w2.cell? ⟨w1.heap.size, 5, none⟩ = some (.int .i64 l) := (b2.cell (p := ⟨w1.heap.size, 5, none⟩) (by simp)).trans d5
      have c6 : w2.cell? ⟨w1.heap.size, 6, none⟩ = some (.int .i64 e) := (b2.cell (p := ⟨w1.heap.size, 6, none⟩) (by simp)).trans d6
      have c7 : w2.cell? ⟨w1.heap.size, 7, none⟩ = some (.bool b) := (b2.cell (p := ⟨w1.heap.size, 7, none⟩) (by simp)).trans d7
      have c8 : w2.cell? ⟨w1.heap.size, 8, none⟩ = some (.int .i64 v) := (b2.cell (p := ⟨w1.heap.size, 8, none⟩) (by simp)).trans d8
      have c9 : w2.cell? ⟨w1.heap.size, 9, none⟩ = some (.int .i64 r) := (b2.cell (p := ⟨w1.heap.size, 9, none⟩) (by simp)).trans d9
      clear d0 d1 d2 d3 d4 d5 d6 d7 d8 d9
      refine hK.out _ _ ?_ (fun hHeld2 => ?_)
      · (try dsimp only); exact ⟨c0, c1, c2, c3, c4, c5, c6, c7, c8, c9⟩
      clear hK K hHeld
      have hHeld := hHeld2
      clear hHeld2
      try simp only [Act.put, List.setIfInBounds_toArray, List.set_cons_zero, List.set_cons_succ]
      refine wpAnyH_ready (rs := [3]) (by kernel_rfl) (by simp) ?_
      refine AllReadyH.cons (by simp only [List.getElem?_toArray, List.getElem?_cons_zero, List.getElem?_cons_succ]; rfl) (fun K hK => ?_) AllReadyH.nil
      go_simp
      (go_at_call 11; refine (specok_is s t k z q l e b v r _ (hide hj)).mono ?_; rintro e' w3 ⟨rfl, hb3⟩)
      (try go_wp2_with fail)
      have z3 : w1.heap.size < w3.heap.size := Nat.lt_of_lt_of_le z2 hb3.size
      have d0 : w3.cell? ⟨w1.heap.size, 0, none⟩ = some (.int .i64 s) := (hb3.cell (p := ⟨w1.heap.size, 0, none⟩) z2).trans c0
      have d1 : w3.cell? ⟨w1.heap.size, 1, none⟩ = some (.int .i64 t) := (hb3.cell (p := ⟨w1.heap.size, 1, none⟩) z2).trans c1
      have d2 : w3.cell? ⟨w1.heap.size, 2, none⟩ = some (.int .i64 k) := (hb3.cell (p := ⟨w1.heap.size, 2, none⟩) z2).trans c2
      have d3 : w3.cell? ⟨w1.heap.size, 3, none⟩ = some (.int .i64 z) := (hb3.cell (p := ⟨w1.heap.size, 3, none⟩) z2).trans c3
      have d4 : w3.cell? ⟨w1.heap.size, 4, none⟩ = some (.int .i64 q) := (hb3.cell (p := ⟨w1.heap.size, 4, none⟩) z2).trans c4
      have d5 : w3.cell? ⟨w1.heap.size, 5, none⟩ = some (.int .i64 l) := (hb3.cell (p := ⟨w1.heap.size, 5, none⟩) z2).trans c5
      have d6 : w3.cell? ⟨w1.heap.size, 6, none⟩ = some (.int .i64 e) := (hb3.cell (p := ⟨w1.heap.size, 6, none⟩) z2).trans c6
      have d7 : w3.cell? ⟨w1.heap.size, 7, none⟩ = some (.bool b) := (hb3.cell (p := ⟨w1.heap.size, 7, none⟩) z2).trans c7
      have d8 : w3.cell? ⟨w1.heap.size, 8, none⟩ = some (.int .i64 v) := (hb3.cell (p := ⟨w1.heap.size, 8, none⟩) z2).trans c8
      have d9 : w3.cell? ⟨w1.heap.size, 9, none⟩ = some (.int .i64 r) := (hb3.cell (p := ⟨w1.heap.size, 9, none⟩) z2).trans c9
      clear c0 c1 c2 c3 c4 c5 c6 c7 c8 c9
      refine hK.out _ _ ?_ (fun hHeld2 => ?_)
      · (try dsimp only); exact ⟨d0, d1, d2, d3, d4, d5, d6, d7, d8, d9⟩
      clear hK K hHeld
      have hHeld := hHeld2
      clear hHeld2
      try simp only [Act.put, List.setIfInBounds_toArray, List.set_cons_zero, List.set_cons_succ]
      refine wpAnyH_take (i := 4) (v := ?_) (by simp only [List.getElem?_toArray, List.getElem?_cons_zero, List.getElem?_cons_succ]; rfl) (by kernel_rfl) (by kernel_rfl) (by kernel_rfl) (by intro _ _ _ h; exact h) (Or.inl ⟨by rfl, ?_⟩) (by assumption) ?_
      rotate_left
      · (intro w9 hSw; (try dsimp only at hSw); go_simp <;> with_reducible rfl)
      try simp only [Act.put, List.setIfInBounds_toArray, List.set_cons_zero, List.set_cons_succ]
      refine wpAnyH_done (by kernel_rfl) ?_ _
      clear hHeld
      go_wp2_with fail
      refine (specok_is s t k z q l e b v r _ (hide hj)).mono ?_
      rintro e' w4 ⟨rfl, hb4⟩
      have z4 : w1.heap.size < w4.heap.size := Nat.lt_of_lt_of_le z3 hb4.size
      have x0 : w4.cell? ⟨w1.heap.size, 0, none⟩ = some (.int .i64 s) := (hb4.cell (p := ⟨w1.heap.size, 0, none⟩) z3).trans d0
      have x1 : w4.cell? ⟨w1.heap.size, 1, none⟩ = some (.int .i64 t) := (hb4.cell (p := ⟨w1.heap.size, 1, none⟩) z3).trans d1
      have x2 : w4.cell? ⟨w1.heap.size, 2, none⟩ = some (.int .i64 k) := (hb4.cell (p := ⟨w1.heap.size, 2, none⟩) z3).trans d2
      have x3 : w4.cell? ⟨w1.heap.size, 3, none⟩ = some (.int .i64 z) := (hb4.cell (p := ⟨w1.heap.size, 3, none⟩) z3).trans d3
      have x4 : w4.cell? ⟨w1.heap.size, 4, none⟩ = some (.int .i64 q) := (hb4.cell (p := ⟨w1.heap.size, 4, none⟩) z3).trans d4
      have x5 : w4.cell? ⟨w1.heap.size, 5, none⟩ = some (.int .i64 l) := (hb4.cell (p := ⟨w1.heap.size, 5, none⟩) z3).trans d5
      have x6 : w4.cell? ⟨w1.heap.size, 6, none⟩ = some (.int .i64 e) := (hb4.cell (p := ⟨w1.heap.size, 6, none⟩) z3).trans d6
      have x7 : w4.cell? ⟨w1.heap.size, 7, none⟩ = some (.bool b) := (hb4.cell (p := ⟨w1.heap.size, 7, none⟩) z3).trans d7
      have x8 : w4.cell? ⟨w1.heap.size, 8, none⟩ = some (.int .i64 v) := (hb4.cell (p := ⟨w1.heap.size, 8, none⟩) z3).trans d8
      have x9 : w4.cell? ⟨w1.heap.size, 9, none⟩ = some (.int .i64 r) := (hb4.cell (p := ⟨w1.heap.size, 9, none⟩) z3).trans d9
      clear d0 d1 d2 d3 d4 d5 d6 d7 d8 d9
      have hbF : Below w.heap.size w w4 := bel_trans hb1 (bel_trans hb1' (bel_trans b2 (bel_trans hb3 hb4)))
      clear b2 hb2 hb3 hb4 hb1'
      go_wp2_with fail
      refine (implwinof_is s t k z q l e b v r T _ (hide (winsAll_f1 hj))).mono ?_
      rintro e' w5 ⟨v', rfl, hO, hb5⟩
      obtain ⟨a5, c5, rfl, _, _, _⟩ := holdWn hO (by simp)
      go_wp2_with fail
      refine (frok_any _).mono ?_
      rintro e' w6 ⟨rfl, hb6⟩
      go_wp2
      go_ret
      exact ⟨rfl, bel_trans hbF (bel_trans hb5 hb6)⟩
    | true =>
      by_cases hk : T < 0
      · have hb1' : Below w1.heap.size w1 (w1.alloc (.cells #[.int .i64 s, .int .i64 t, .int .i64 k, .int .i64 z, .int .i64 q, .int .i64 l, .int .i64 e, .bool b, .int .i64 v, .int .i64 r] 24)) := bel_one _ _
        have c_ : (w1.alloc (.cells #[.int .i64 s, .int .i64 t, .int .i64 k, .int .i64 z, .int .i64 q, .int .i64 l, .int .i64 e, .bool b, .int .i64 v, .int .i64 r] 24)).cell? ⟨w1.heap.size, 0, none⟩ = some (.int .i64 s) ∧ (w1.alloc (.cells #[.int .i64 s, .int .i64 t, .int .i64 k, .int .i64 z, .int .i64 q, .int .i64 l, .int .i64 e, .bool b, .int .i64 v, .int .i64 r] 24)).cell? ⟨w1.heap.size, 1, none⟩ = some (.int .i64 t) ∧ (w1.alloc (.cells #[.int .i64 s, .int .i64 t, .int .i64 k, .int .i64 z, .int .i64 q, .int .i64 l, .int .i64 e, .bool b, .int .i64 v, .int .i64 r] 24)).cell? ⟨w1.heap.size, 2, none⟩ = some (.int .i64 k) ∧ (w1.alloc (.cells #[.int .i64 s, .int .i64 t, .int .i64 k, .int .i64 z, .int .i64 q, .int .i64 l, .int .i64 e, .bool b, .int .i64 v, .int .i64 r] 24)).cell? ⟨w1.heap.size, 3, none⟩ = some (.int .i64 z) ∧ (w1.alloc (.cells #[.int .i64 s, .int .i64 t, .int .i64 k, .int .i64 z, .int .i64 q, .int .i64 l, .int .i64 e, .bool b, .int .i64 v, .int .i64 r] 24)).cell? ⟨w1.heap.size, 4, none⟩ = some (.int .i64 q) ∧ (w1.alloc (.cells #[.int .i64 s, .int .i64 t, .int .i64 k, .int .i64 z, .int .i64 q, .int .i64 l, .int .i64 e, .bool b, .int .i64 v, .int .i64 r] 24)).cell? ⟨w1.heap.size, 5, none⟩ = some (.int .i64 l) ∧ (w1.alloc (.cells #[.int .i64 s, .int .i64 t, .int .i64 k, .int .i64 z, .int .i64 q, .int .i64 l, .int .i64 e, .bool b, .int .i64 v, .int .i64 r] 24)).cell? ⟨w1.heap.size, 6, none⟩ = some (.int .i64 e) ∧ (w1.alloc (.cells #[.int .i64 s, .int .i64 t, .int .i64 k, .int .i64 z, .int .i64 q, .int .i64 l, .int .i64 e, .bool b, .int .i64 v, .int .i64 r] 24)).cell? ⟨w1.heap.size, 7, none⟩ = some (.bool b) ∧ (w1.alloc (.cells #[.int .i64 s, .int .i64 t, .int .i64 k, .int .i64 z, .int .i64 q, .int .i64 l, .int .i64 e, .bool b, .int .i64 v, .int .i64 r] 24)).cell? ⟨w1.heap.size, 8, none⟩ = some (.int .i64 v) ∧ (w1.alloc (.cells #[.int .i64 s, .int .i64 t, .int .i64 k, .int .i64 z, .int .i64 q, .int .i64 l, .int .i64 e, .bool b, .int .i64 v, .int .i64 r] 24)).cell? ⟨w1.heap.size, 9, none⟩ = some (.int .i64 r) := ⟨by simp [go_sem], by simp [go_sem], by simp [go_sem], by simp [go_sem], by simp [go_sem], by simp [go_sem], by simp [go_sem], by simp [go_sem], by simp [go_sem], by simp [go_sem]⟩
        go_wp2_with fail
        refine wp_region_held_drew (S := (fun W => W.cell? ⟨w1.heap.size, 0, none⟩ = some (.int .i64 s) ∧ W.cell? ⟨w1.heap.size, 1, none⟩ = some (.int .i64 t) ∧ W.cell? ⟨w1.heap.size, 2, none⟩ = some (.int .i64 k) ∧ W.cell? ⟨w1.heap.size, 3, none⟩ = some (.int .i64 z) ∧ W.cell? ⟨w1.heap.size, 4, none⟩ = some (.int .i64 q) ∧ W.cell? ⟨w1.heap.size, 5, none⟩ = some (.int .i64 l) ∧ W.cell? ⟨w1.heap.size, 6, none⟩ = some (.int .i64 e) ∧ W.cell? ⟨w1.heap.size, 7, none⟩ = some (.bool b) ∧ W.cell? ⟨w1.heap.size, 8, none⟩ = some (.int .i64 v) ∧ W.cell? ⟨w1.heap.size, 9, none⟩ = some (.int .i64 r))) (by kernel_rfl) ?_ (fun hHeld => ?_)
        · (try dsimp only); exact ⟨by first | (simp [go_sem, *]; done) | assumption, by first | (simp [go_sem, *]; done) | assumption, by first | (simp [go_sem, *]; done) | assumption, by first | (simp [go_sem, *]; done) | assumption, by first | (simp [go_sem, *]; done) | assumption, by first | (simp [go_sem, *]; done) | assumption, by first | (simp [go_sem, *]; done) | assumption, by first | (simp [go_sem, *]; done) | assumption, by first | (simp [go_sem, *]; done) | assumption, by first | (simp [go_sem, *]; done) | assumption⟩
        refine wpAnyH_take (i := 0) (v := ?_) (by simp only [List.getElem?_toArray, List.getElem?_cons_zero, List.getElem?_cons_succ]; rfl) (by kernel_rfl) (by kernel_rfl) (by kernel_rfl) (by intro _ _ _ h; exact h) (Or.inl ⟨by rfl, ?_⟩) (by assumption) ?_
        rotate_left
        · (intro w9 hSw; (try dsimp only at hSw); go_simp <;> with_reducible rfl)
        try simp only [Act.put, List.setIfInBounds_toArray, List.set_cons_zero, List.set_cons_succ]
        refine wpAnyH_take (i := 2) (v := ?_) (by simp only [List.getElem?_toArray, List.getElem?_cons_zero, List.getElem?_cons_succ]; rfl) (by kernel_rfl) (by kernel_rfl) (by kernel_rfl) (by intro _ _ _ h; exact h) (Or.inl ⟨by rfl, ?_⟩) (by assumption) ?_
        rotate_left
        · (intro w9 hSw; (try dsimp only at hSw); go_simp <;> with_reducible rfl)
        try simp only [Act.put, List.setIfInBounds_toArray, List.set_cons_zero, List.set_cons_succ]
        refine wpAnyH_ready (rs := [1]) (by kernel_rfl) (by simp) ?_
        refine AllReadyH.cons (by simp only [List.getElem?_toArray, List.getElem?_cons_zero, List.getElem?_cons_succ]; rfl) (fun K hK => ?_) AllReadyH.nil
        go_simp
        (go_at_call 10; refine (implok_is s t k z q l e b v r _ (hide hj)).mono ?_; rintro e' w2 ⟨rfl, hb2⟩)
        (try go_wp2_with fail)
        have z2 : w1.heap.size < w2.heap.size := by have h9 := hb2.size; simp at h9; omega
        have b2 : Below (w1.alloc (.cells #[.int .i64 s, .int .i64 t, .int .i64 k, .int .i64 z, .int .i64 q, .int .i64 l, .int .i64 e, .bool b, .int .i64 v, .int .i64 r] 24)).heap.size (w1.alloc (.cells #[.int .i64 s, .int .i64 t, .int .i64 k, .int .i64 z, .int .i64 q, .int .i64 l, .int .i64 e, .bool b, .int .i64 v, .int .i64 r] 24)) w2 := Below.trans ((Below.refl _ (w1.alloc (.cells #[.int .i64 s, .int .i64 t, .int .i64 k, .int .i64 z, .int .i64 q, .int .i64 l, .int .i64 e, .bool b, .int .i64 v, .int .i64 r] 24))).drew) (hb2.mono (by simp))
        obtain ⟨d0, d1, d2, d3, d4, d5, d6, d7, d8, d9⟩ := c_
        have c0 : w2.cell? ⟨w1.heap.size, 0, none⟩ = some (.int .i64 s) := (b2.cell (p := ⟨w1.heap.size, 0, none⟩) (by simp)).trans d0
        have c1 : w2.cell? ⟨w1.heap.size, 1, none⟩ = some (.int .i64 t) := (b2.cell (p := ⟨w1.heap.size, 1, none⟩) (by simp)).trans d1
        have c2 : w2.cell? ⟨w1.heap.size, 2, none⟩ = some (.int .i64 k) := (b2.cell (p := ⟨w1.heap.size, 2, none⟩) (by simp)).trans d2
        have c3 : w2.cell? ⟨w1.heap.size, 3, none⟩ = some (.int .i64 z) := (b2.cell (p := ⟨w1.heap.size, 3, none⟩) (by simp)).trans d3
        have c4 : w2.cell? ⟨w1.heap.size, 4, none⟩ = some (.int .i64 q) := (b2.cell (p := ⟨w1.heap.size, 4, none⟩) (by simp)).trans d4
        have c5 : w2.cell? ⟨w1.heap.size, 5, none⟩ = some (.int .i64 l) := (b2.cell (p := ⟨w1.heap.size, 5, none⟩) (by simp)).trans d5
        have c6 : w2.cell? ⟨w1.heap.size, 6, none⟩ = some (.int .i64 e) := (b2.cell (p := ⟨w1.heap.size, 6, none⟩) (by simp)).trans d6
        have c7 : w2.cell? ⟨w1.heap.size, 7, none⟩ = some (.bool b) := (b2.cell (p := ⟨w1.heap.size, 7, none⟩) (by simp)).trans d7
        have c8 : w2.cell? ⟨w1.heap.size, 8, none⟩ = some (.int .i64 v) := (b2.cell (p := ⟨w1.heap.size, 8, none⟩) (by simp)).trans d8
        have c9 : w2.cell? ⟨w1.heap.size, 9, none⟩ = some (.int .i64 r) := (b2.cell (p := ⟨w1.heap.size, 9, none⟩) (by simp)).trans d9
        clear d0 d1 d2 d3 d4 d5 d6 d7 d8 d9
        refine hK.out _ _ ?_ (fun hHeld2 => ?_)
        · (try dsimp only); exact ⟨c0, c1, c2, c3, c4, c5, c6, c7, c8, c9⟩
        clear hK K hHeld
        have hHeld := hHeld2
        clear hHeld2
        try simp only [Act.put, List.setIfInBounds_toArray, List.set_cons_zero, List.set_cons_succ]
        refine wpAnyH_ready (rs := [3]) (by kernel_rfl) (by simp) ?_
        refine AllReadyH.cons (by simp only [List.getElem?_toArray, List.getElem?_cons_zero, List.getElem?_cons_succ]; rfl) (fun K hK => ?_) AllReadyH.nil
        go_simp
        (go_at_call 11; refine (specok_is s t k z q l e b v r _ (hide hj)).mono ?_; rintro e' w3 ⟨rfl, hb3⟩)
        (try go_wp2_with fail)
        have z3 : w1.heap.size < w3.heap.size := Nat.lt_of_lt_of_le z2 hb3.size
        have d0 : w3.cell? ⟨w1.heap.size, 0, none⟩ = some (.int .i64 s) := (hb3.cell (p := ⟨w1.heap.size, 0, none⟩) z2).trans c0
        have d1 : w3.cell? ⟨w1.heap.size, 1, none⟩ = some (.int .i64 t) := (hb3.cell (p := ⟨w1.heap.size, 1, none⟩) z2).trans c1
        have d2 : w3.cell? ⟨w1.heap.size, 2, none⟩ = some (.int .i64 k) := (hb3.cell (p := ⟨w1.heap.size, 2, none⟩) z2).trans c2
        have d3 : w3.cell? ⟨w1.heap.size, 3, none⟩ = some (.int .i64 z) := (hb3.cell (p := ⟨w1.heap.size, 3, none⟩) z2).trans c3
        have d4 : w3.cell? ⟨w1.heap.size, 4, none⟩ = some (.int .i64 q) := (hb3.cell (p := ⟨w1.heap.size, 4, none⟩) z2).trans c4
        have d5 : w3.cell? ⟨w1.heap.size, 5, none⟩ = some (.int .i64 l) := (hb3.cell (p := ⟨w1.heap.size, 5, none⟩) z2).trans c5
        have d6 : w3.cell? ⟨w1.heap.size, 6, none⟩ = some (.int .i64 e) := (hb3.cell (p := ⟨w1.heap.size, 6, none⟩) z2).trans c6
        have d7 : w3.cell? ⟨w1.heap.size, 7, none⟩ = some (.bool b) := (hb3.cell (p := ⟨w1.heap.size, 7, none⟩) z2).trans c7
        have d8 : w3.cell? ⟨w1.heap.size, 8, none⟩ = some (.int .i64 v) := (hb3.cell (p := ⟨w1.heap.size, 8, none⟩) z2).trans c8
        have d9 : w3.cell? ⟨w1.heap.size, 9, none⟩ = some (.int .i64 r) := (hb3.cell (p := ⟨w1.heap.size, 9, none⟩) z2).trans c9
        clear c0 c1 c2 c3 c4 c5 c6 c7 c8 c9
        refine hK.out _ _ ?_ (fun hHeld2 => ?_)
        · (try dsimp only); exact ⟨d0, d1, d2, d3, d4, d5, d6, d7, d8, d9⟩
        clear hK K hHeld
        have hHeld := hHeld2
        clear hHeld2
        try simp only [Act.put, List.setIfInBounds_toArray, List.set_cons_zero, List.set_cons_succ]
        refine wpAnyH_take (i := 4) (v := ?_) (by simp only [List.getElem?_toArray, List.getElem?_cons_zero, List.getElem?_cons_succ]; rfl) (by kernel_rfl) (by kernel_rfl) (by kernel_rfl) (by intro _ _ _ h; exact h) (Or.inl ⟨by rfl, ?_⟩) (by assumption) ?_
        rotate_left
        · (intro w9 hSw; (try dsimp only at hSw); go_simp <;> with_reducible rfl)
        try simp only [Act.put, List.setIfInBounds_toArray, List.set_cons_zero, List.set_cons_succ]
        refine wpAnyH_done (by kernel_rfl) ?_ _
        clear hHeld
        go_wp2_with fail
        refine (specok_is s t k z q l e b v r _ (hide hj)).mono ?_
        rintro e' w4 ⟨rfl, hb4⟩
        have z4 : w1.heap.size < w4.heap.size := Nat.lt_of_lt_of_le z3 hb4.size
        have x0 : w4.cell? ⟨w1.heap.size, 0, none⟩ = some (.int .i64 s) := (hb4.cell (p := ⟨w1.heap.size, 0, none⟩) z3).trans d0
        have x1 : w4.cell? ⟨w1.heap.size, 1, none⟩ = some (.int .i64 t) := (hb4.cell (p := ⟨w1.heap.size, 1, none⟩) z3).trans d1
        have x2 : w4.cell? ⟨w1.heap.size, 2, none⟩ = some (.int .i64 k) := (hb4.cell (p := ⟨w1.heap.size, 2, none⟩) z3).trans d2
        have x3 : w4.cell? ⟨w1.heap.size, 3, none⟩ = some (.int .i64 z) := (hb4.cell (p := ⟨w1.heap.size, 3, none⟩) z3).trans d3
        have x4 : w4.cell? ⟨w1.heap.size, 4, none⟩ = some (.int .i64 q) := (hb4.cell (p := ⟨w1.heap.size, 4, none⟩) z3).trans d4
        have x5 : w4.cell? ⟨w1.heap.size, 5, none⟩ = some (.int .i64 l) := (hb4.cell (p := ⟨w1.heap.size, 5, none⟩) z3).trans d5
        have x6 : w4.cell? ⟨w1.heap.size, 6, none⟩ = some (.int .i64 e) := (hb4.cell (p := ⟨w1.heap.size, 6, none⟩) z3).trans d6
        have x7 : w4.cell? ⟨w1.heap.size, 7, none⟩ = some (.bool b) := (hb4.cell (p := ⟨w1.heap.size, 7, none⟩) z3).trans d7
        have x8 : w4.cell? ⟨w1.heap.size, 8, none⟩ = some (.int .i64 v) := (hb4.cell (p := ⟨w1.heap.size, 8, none⟩) z3).trans d8
        have x9 : w4.cell? ⟨w1.heap.size, 9, none⟩ = some (.int .i64 r) := (hb4.cell (p := ⟨w1.heap.size, 9, none⟩) z3).trans d9
        clear d0 d1 d2 d3 d4 d5 d6 d7 d8 d9
        have hbF : Below w.heap.size w w4 := bel_trans hb1 (bel_trans hb1' (bel_trans b2 (bel_trans hb3 hb4)))
        clear b2 hb2 hb3 hb4 hb1'
        go_wp2_with fail
        refine (implwinof_is s t k z q l e b v r T _ (hide (winsAll_f2 (by simp [inB]; omega)))).mono ?_
        rintro e' w5 ⟨v', rfl, hO, hb5⟩
        obtain ⟨a5, c5, rfl, _, _, _⟩ := holdWn hO (by simp)
        go_wp2_with fail
        refine (frok_any _).mono ?_
        rintro e' w6 ⟨rfl, hb6⟩
        go_wp2
        go_ret
        exact ⟨rfl, bel_trans hbF (bel_trans hb5 hb6)⟩
      by_cases hk2 : 60 < T
      · have hb1' : Below w1.heap.size w1 (w1.alloc (.cells #[.int .i64 s, .int .i64 t, .int .i64 k, .int .i64 z, .int .i64 q, .int .i64 l, .int .i64 e, .bool b, .int .i64 v, .int .i64 r] 24)) := bel_one _ _
        have c_ : (w1.alloc (.cells #[.int .i64 s, .int .i64 t, .int .i64 k, .int .i64 z, .int .i64 q, .int .i64 l, .int .i64 e, .bool b, .int .i64 v, .int .i64 r] 24)).cell? ⟨w1.heap.size, 0, none⟩ = some (.int .i64 s) ∧ (w1.alloc (.cells #[.int .i64 s, .int .i64 t, .int .i64 k, .int .i64 z, .int .i64 q, .int .i64 l, .int .i64 e, .bool b, .int .i64 v, .int .i64 r] 24)).cell? ⟨w1.heap.size, 1, none⟩ = some (.int .i64 t) ∧ (w1.alloc (.cells #[.int .i64 s, .int .i64 t, .int .i64 k, .int .i64 z, .int .i64 q, .int .i64 l, .int .i64 e, .bool b, .int .i64 v, .int .i64 r] 24)).cell? ⟨w1.heap.size, 2, none⟩ = some (.int .i64 k) ∧ (w1.alloc (.cells #[.int .i64 s, .int .i64 t, .int .i64 k, .int .i64 z, .int .i64 q, .int .i64 l, .int .i64 e, .bool b, .int .i64 v, .int .i64 r] 24)).cell? ⟨w1.heap.size, 3, none⟩ = some (.int .i64 z) ∧ (w1.alloc (.cells #[.int .i64 s, .int .i64 t, .int .i64 k, .int .i64 z, .int .i64 q, .int .i64 l, .int .i64 e, .bool b, .int .i64 v, .int .i64 r] 24)).cell? ⟨w1.heap.size, 4, none⟩ = some (.int .i64 q) ∧ (w1.alloc (.cells #[.int .i64 s, .int .i64 t, .int .i64 k, .int .i64 z, .int .i64 q, .int .i64 l, .int .i64 e, .bool b, .int .i64 v, .int .i64 r] 24)).cell? ⟨w1.heap.size, 5, none⟩ = some (.int .i64 l) ∧ (w1.alloc (.cells #[.int .i64 s, .int .i64 t, .int .i64 k, .int .i64 z, .int .i64 q, .int .i64 l, .int .i64 e, .bool b, .int .i64 v, .int .i64 r] 24)).cell? ⟨w1.heap.size, 6, none⟩ = some (.int .i64 e) ∧ (w1.alloc (.cells #[.int .i64 s, .int .i64 t, .int .i64 k, .int .i64 z, .int .i64 q, .int .i64 l, .int .i64 e, .bool b, .int .i64 v, .int .i64 r] 24)).cell? ⟨w1.heap.size, 7, none⟩ = some (.bool b) ∧ (w1.alloc (.cells #[.int .i64 s, .int .i64 t, .int .i64 k, .int .i64 z, .int .i64 q, .int .i64 l, .int .i64 e, .bool b, .int .i64 v, .int .i64 r] 24)).cell? ⟨w1.heap.size, 8, none⟩ = some (.int .i64 v) ∧ (w1.alloc (.cells #[.int .i64 s, .int .i64 t, .int .i64 k, .int .i64 z, .int .i64 q, .int .i64 l, .int .i64 e, .bool b, .int .i64 v, .int .i64 r] 24)).cell? ⟨w1.heap.size, 9, none⟩ = some (.int .i64 r) := ⟨by simp [go_sem], by simp [go_sem], by simp [go_sem], by simp [go_sem], by simp [go_sem], by simp [go_sem], by simp [go_sem], by simp [go_sem], by simp [go_sem], by simp [go_sem]⟩
        go_wp2_with fail
        refine wp_region_held_drew (S := (fun W => W.cell? ⟨w1.heap.size, 0, none⟩ = some (.int .i64 s) ∧ W.cell? ⟨w1.heap.size, 1, none⟩ = some (.int .i64 t) ∧ W.cell? ⟨w1.heap.size, 2, none⟩ = some (.int .i64 k) ∧ W.cell? ⟨w1.heap.size, 3, none⟩ = some (.int .i64 z) ∧ W.cell? ⟨w1.heap.size, 4, none⟩ = some (.int .i64 q) ∧ W.cell? ⟨w1.heap.size, 5, none⟩ = some (.int .i64 l) ∧ W.cell? ⟨w1.heap.size, 6, none⟩ = some (.int .i64 e) ∧ W.cell? ⟨w1.heap.size, 7, none⟩ = some (.bool b) ∧ W.cell? ⟨w1.heap.size, 8, none⟩ = some (.int .i64 v) ∧ W.cell? ⟨w1.heap.size, 9, none⟩ = some (.int .i64 r))) (by kernel_rfl) ?_ (fun hHeld => ?_)
        · (try dsimp only); exact ⟨by first | (simp [go_sem, *]; done) | assumption, by first | (simp [go_sem, *]; done) | assumption, by first | (simp [go_sem, *]; done) | assumption, by first | (simp [go_sem, *]; done) | assumption, by first | (simp [go_sem, *]; done) | assumption, by first | (simp [go_sem, *]; done) | assumption, by first | (simp [go_sem, *]; done) | assumption, by first | (simp [go_sem, *]; done) | assumption, by first | (simp [go_sem, *]; done) | assumption, by first | (simp [go_sem, *]; done) | assumption⟩
        refine wpAnyH_take (i := 0) (v := ?_) (by simp only [List.getElem?_toArray, List.getElem?_cons_zero, List.getElem?_cons_succ]; rfl) (by kernel_rfl) (by kernel_rfl) (by kernel_rfl) (by intro _ _ _ h; exact h) (Or.inl ⟨by rfl, ?_⟩) (by assumption) ?_
        rotate_left
        · (intro w9 hSw; (try dsimp only at hSw); go_simp <;> with_reducible rfl)
        try simp only [Act.put, List.setIfInBounds_toArray, List.set_cons_zero, List.set_cons_succ]
        refine wpAnyH_take (i := 2) (v := ?_) (by simp only [List.getElem?_toArray, List.getElem?_cons_zero, List.getElem?_cons_succ]; rfl) (by kernel_rfl) (by kernel_rfl) (by kernel_rfl) (by intro _ _ _ h; exact h) (Or.inl ⟨by rfl, ?_⟩) (by assumption) ?_
        rotate_left
        · (intro w9 hSw; (try dsimp only at hSw); go_simp <;> with_reducible rfl)
        try simp only [Act.put, List.setIfInBounds_toArray, List.set_cons_zero, List.set_cons_succ]
        refine wpAnyH_ready (rs := [1]) (by kernel_rfl) (by simp) ?_
        refine AllReadyH.cons (by simp only [List.getElem?_toArray, List.getElem?_cons_zero, List.getElem?_cons_succ]; rfl) (fun K hK => ?_) AllReadyH.nil
        go_simp
        (go_at_call 10; refine (implok_is s t k z q l e b v r _ (hide hj)).mono ?_; rintro e' w2 ⟨rfl, hb2⟩)
        (try go_wp2_with fail)
        have z2 : w1.heap.size < w2.heap.size := by have h9 := hb2.size; simp at h9; omega
        have b2 : Below (w1.alloc (.cells #[.int .i64 s, .int .i64 t, .int .i64 k, .int .i64 z, .int .i64 q, .int .i64 l, .int .i64 e, .bool b, .int .i64 v, .int .i64 r] 24)).heap.size (w1.alloc (.cells #[.int .i64 s, .int .i64 t, .int .i64 k, .int .i64 z, .int .i64 q, .int .i64 l, .int .i64 e, .bool b, .int .i64 v, .int .i64 r] 24)) w2 := Below.trans ((Below.refl _ (w1.alloc (.cells #[.int .i64 s, .int .i64 t, .int .i64 k, .int .i64 z, .int .i64 q, .int .i64 l, .int .i64 e, .bool b, .int .i64 v, .int .i64 r] 24))).drew) (hb2.mono (by simp))
        obtain ⟨d0, d1, d2, d3, d4, d5, d6, d7, d8, d9⟩ := c_
        have c0 : w2.cell? ⟨w1.heap.size, 0, none⟩ = some (.int .i64 s) := (b2.cell (p := ⟨w1.heap.size, 0, none⟩) (by simp)).trans d0
        have c1 : w2.cell? ⟨w1.heap.size, 1, none⟩ = some (.int .i64 t) := (b2.cell (p := ⟨w1.heap.size, 1, none⟩) (by simp)).trans d1
        have c2 : w2.cell? ⟨w1.heap.size, 2, none⟩ = some (.int .i64 k) := (b2.cell (p := ⟨w1.heap.size, 2, none⟩) (by simp)).trans d2
        have c3 : w2.cell? ⟨w1.heap.size, 3, none⟩ = some (.int .i64 z) := (b2.cell (p := ⟨w1.heap.size, 3, none⟩) (by simp)).trans d3
        have c4 : w2.cell? ⟨w1.heap.size, 4, none⟩ = some (.int .i64 q) := (b2.cell (p := ⟨w1.heap.size, 4, none⟩) (by simp)).trans d4
        have c5 : w2.cell? ⟨w1.heap.size, 5, none⟩ = some (.int .i64 l) := (b2.cell (p := ⟨w1.heap.size, 5, none⟩) (by simp)).trans d5
        have c6 : w2.cell? ⟨w1.heap.size, 6, none⟩ = some (.int .i64 e) := (b2.cell (p := ⟨w1.heap.size, 6, none⟩) (by simp)).trans d6
        have c7 : w2.cell? ⟨w1.heap.size, 7, none⟩ = some (.bool b) := (b2.cell (p := ⟨w1.heap.size, 7, none⟩) (by simp)).trans d7
        have c8 : w2.cell? ⟨w1.heap.size, 8, none⟩ = some (.int .i64 v) := (b2.cell (p := ⟨w1.heap.size, 8, none⟩) (by simp)).trans d8
        have c9 : w2.cell? ⟨w1.heap.size, 9, none⟩ = some (.int .i64 r) := (b2.cell (p := ⟨w1.heap.size, 9, none⟩) (by simp)).trans d9
        clear d0 d1 d2 d3 d4 d5 d6 d7 d8 d9
        refine hK.out _ _ ?_ (fun hHeld2 => ?_)
        · (try dsimp only); exact ⟨c0, c1, c2, c3, c4, c5, c6, c7, c8, c9⟩
        clear hK K hHeld
        have hHeld := hHeld2
        clear hHeld2
        try simp only [Act.put, List.setIfInBounds_toArray, List.set_cons_zero, List.set_cons_succ]
        refine wpAnyH_ready (rs := [3]) (by kernel_rfl) (by simp) ?_
        refine AllReadyH.cons (by simp only [List.getElem?_toArray, List.getElem?_cons_zero, List.getElem?_cons_succ]; rfl) (fun K hK => ?_) AllReadyH.nil
        go_simp
        (go_at_call 11; refine (specok_is s t k z q l e b v r _ (hide hj)).mono ?_; rintro e' w3 ⟨rfl, hb3⟩)
        (try go_wp2_with fail)
        have z3 : w1.heap.size < w3.heap.size := Nat.lt_of_lt_of_le z2 hb3.size
        have d0 : w3.cell? ⟨w1.heap.size, 0, none⟩ = some (.int .i64 s) := (hb3.cell (p := ⟨w1.heap.size, 0, none⟩) z2).trans c0
        have d1 : w3.cell? ⟨w1.heap.size, 1, none⟩ = some (.int .i64 t) := (hb3.cell (p := ⟨w1.heap.size, 1, none⟩) z2).trans c1
        have d2 : w3.cell? ⟨w1.heap.size, 2, none⟩ = some (.int .i64 k) := (hb3.cell (p := ⟨w1.heap.size, 2, none⟩) z2).trans c2
        have d3 : w3.cell? ⟨w1.heap.size, 3, none⟩ = some (.int .i64 z) := (hb3.cell (p := ⟨w1.heap.size, 3, none⟩) z2).trans c3
        have d4 : w3.cell? ⟨w1.heap.size, 4, none⟩ = some (.int .i64 q) := (hb3.cell (p := ⟨w1.heap.size, 4, none⟩) z2).trans c4
        have d5 : w3.cell? ⟨w1.heap.size, 5, none⟩ = some (.int .i64 l) := (hb3.cell (p := ⟨w1.heap.size, 5, none⟩) z2).trans c5
        have d6 : w3.cell? ⟨w1.heap.size, 6, none⟩ = some (.int .i64 e) := (hb3.cell (p := ⟨w1.heap.size, 6, none⟩) z2).trans c6
        have d7 : w3.cell? ⟨w1.heap.size, 7, none⟩ = some (.bool b) := (hb3.cell (p := ⟨w1.heap.size, 7, none⟩) z2).trans c7
        have d8 : w3.cell? ⟨w1.heap.size, 8, none⟩ = some (.int .i64 v) := (hb3.cell (p := ⟨w1.heap.size, 8, none⟩) z2).trans c8
        have d9 : w3.cell? ⟨w1.heap.size, 9, none⟩ = some (.int .i64 r) := (hb3.cell (p := ⟨w1.heap.size, 9, none⟩) z2).trans c9
        clear c0 c1 c2 c3 c4 c5 c6 c7 c8 c9
        refine hK.out _ _ ?_ (fun hHeld2 => ?_)
        · (try dsimp only); exact ⟨d0, d1, d2, d3, d4, d5, d6, d7, d8, d9⟩
        clear hK K hHeld
        have hHeld := hHeld2
        clear hHeld2
        try simp only [Act.put, List.setIfInBounds_toArray, List.set_cons_zero, List.set_cons_succ]
        refine wpAnyH_take (i := 4) (v := ?_) (by simp only [List.getElem?_toArray, List.getElem?_cons_zero, List.getElem?_cons_succ]; rfl) (by kernel_rfl) (by kernel_rfl) (by kernel_rfl) (by intro _ _ _ h; exact h) (Or.inl ⟨by rfl, ?_⟩) (by assumption) ?_
        rotate_left
        · (intro w9 hSw; (try dsimp only at hSw); go_simp <;> with_reducible rfl)
        try simp only [Act.put, List.setIfInBounds_toArray, List.set_cons_zero, List.set_cons_succ]
        refine wpAnyH_done (by kernel_rfl) ?_ _
        clear hHeld
        go_wp2_with fail
        refine (specok_is s t k z q l e b v r _ (hide hj)).mono ?_
        rintro e' w4 ⟨rfl, hb4⟩
        have z4 : w1.heap.size < w4.heap.size := Nat.lt_of_lt_of_le z3 hb4.size
        have x0 : w4.cell? ⟨w1.heap.size, 0, none⟩ = some (.int .i64 s) := (hb4.cell (p := ⟨w1.heap.size, 0, none⟩) z3).trans d0
        have x1 : w4.cell? ⟨w1.heap.size, 1, none⟩ = some (.int .i64 t) := (hb4.cell (p := ⟨w1.heap.size, 1, none⟩) z3).trans d1
        have x2 : w4.cell? ⟨w1.heap.size, 2, none⟩ = some (.int .i64 k) := (hb4.cell (p := ⟨w1.heap.size, 2, none⟩) z3).trans d2
        have x3 : w4.cell? ⟨w1.heap.size, 3, none⟩ = some (.int .i64 z) := (hb4.cell (p := ⟨w1.heap.size, 3, none⟩) z3).trans d3
        have x4 : w4.cell? ⟨w1.heap.size, 4, none⟩ = some (.int .i64 q) := (hb4.cell (p := ⟨w1.heap.size, 4, none⟩) z3).trans d4
        have x5 : w4.cell? ⟨w1.heap.size, 5, none⟩ = some (.int .i64 l) := (hb4.cell (p := ⟨w1.heap.size, 5, none⟩) z3).trans d5
        have x6 : w4.cell? ⟨w1.heap.size, 6, none⟩ = some (.int .i64 e) := (hb4.cell (p := ⟨w1.heap.size, 6, none⟩) z3).trans d6
        have x7 : w4.cell? ⟨w1.heap.size, 7, none⟩ = some (.bool b) := (hb4.cell (p := ⟨w1.heap.size, 7, none⟩) z3).trans d7
        have x8 : w4.cell? ⟨w1.heap.size, 8, none⟩ = some (.int .i64 v) := (hb4.cell (p := ⟨w1.heap.size, 8, none⟩) z3).trans d8
        have x9 : w4.cell? ⟨w1.heap.size, 9, none⟩ = some (.int .i64 r) := (hb4.cell (p := ⟨w1.heap.size, 9, none⟩) z3).trans d9
        clear d0 d1 d2 d3 d4 d5 d6 d7 d8 d9
        have hbF : Below w.heap.size w w4 := bel_trans hb1 (bel_trans hb1' (bel_trans b2 (bel_trans hb3 hb4)))
        clear b2 hb2 hb3 hb4 hb1'
        go_wp2_with fail
        refine (implwinof_is s t k z q l e b v r T _ (hide (winsAll_f2 (by simp [inB]; omega)))).mono ?_
        rintro e' w5 ⟨v', rfl, hO, hb5⟩
        obtain ⟨a5, c5, rfl, _, _, _⟩ := holdWn hO (by simp)
        go_wp2_with fail
        refine (frok_any _).mono ?_
        rintro e' w6 ⟨rfl, hb6⟩
        go_wp2
        go_ret
        exact ⟨rfl, bel_trans hbF (bel_trans hb5 hb6)⟩
      have hb1' : Below w1.heap.size w1 (w1.alloc (.cells #[.int .i64 s, .int .i64 t, .int .i64 k, .int .i64 z, .int .i64 q, .int .i64 l, .int .i64 e, .bool b, .int .i64 v, .int .i64 r] 24)) := bel_one _ _
      have c_ : (w1.alloc (.cells #[.int .i64 s, .int .i64 t, .int .i64 k, .int .i64 z, .int .i64 q, .int .i64 l, .int .i64 e, .bool b, .int .i64 v, .int .i64 r] 24)).cell? ⟨w1.heap.size, 0, none⟩ = some (.int .i64 s) ∧ (w1.alloc (.cells #[.int .i64 s, .int .i64 t, .int .i64 k, .int .i64 z, .int .i64 q, .int .i64 l, .int .i64 e, .bool b, .int .i64 v, .int .i64 r] 24)).cell? ⟨w1.heap.size, 1, none⟩ = some (.int .i64 t) ∧ (w1.alloc (.cells #[.int .i64 s, .int .i64 t, .int .i64 k, .int .i64 z, .int .i64 q, .int .i64 l, .int .i64 e, .bool b, .int .i64 v, .int .i64 r] 24)).cell? ⟨w1.heap.size, 2, none⟩ = some (.int .i64 k) ∧ (w1.alloc (.cells #[.int .i64 s, .int .i64 t, .int .i64 k, .int .i64 z, .int .i64 q, .int .i64 l, .int .i64 e, .bool b, .int .i64 v, .int .i64 r] 24)).cell? ⟨w1.heap.size, 3, none⟩ = some (.int .i64 z) ∧ (w1.alloc (.cells #[.int .i64 s, .int .i64 t, .int .i64 k, .int .i64 z, .int .i64 q, .int .i64 l, .int .i64 e, .bool b, .int .i64 v, .int .i64 r] 24)).cell? ⟨w1.heap.size, 4, none⟩ = some (.int .i64 q) ∧ (w1.alloc (.cells #[.int .i64 s, .int .i64 t, .int .i64 k, .int .i64 z, .int .i64 q, .int .i64 l, .int .i64 e, .bool b, .int .i64 v, .int .i64 r] 24)).cell? ⟨w1.heap.size, 5, none⟩ = some (.int .i64 l) ∧ (w1.alloc (.cells #[.int .i64 s, .int .i64 t, .int .i64 k, .int .i64 z, .int .i64 q, .int .i64 l, .int .i64 e, .bool b, .int .i64 v, .int .i64 r] 24)).cell? ⟨w1.heap.size, 6, none⟩ = some (.int .i64 e) ∧ (w1.alloc (.cells #[.int .i64 s, .int .i64 t, .int .i64 k, .int .i64 z, .int .i64 q, .int .i64 l, .int .i64 e, .bool b, .int .i64 v, .int .i64 r] 24)).cell? ⟨w1.heap.size, 7, none⟩ = some (.bool b) ∧ (w1.alloc (.cells #[.int .i64 s, .int .i64 t, .int .i64 k, .int .i64 z, .int .i64 q, .int .i64 l, .int .i64 e, .bool b, .int .i64 v, .int .i64 r] 24)).cell? ⟨w1.heap.size, 8, none⟩ = some (.int .i64 v) ∧ (w1.alloc (.cells #[.int .i64 s, .int .i64 t, .int .i64 k, .int .i64 z, .int .i64 q, .int .i64 l, .int .i64 e, .bool b, .int .i64 v, .int .i64 r] 24)).cell? ⟨w1.heap.size, 9, none⟩ = some (.int .i64 r) := ⟨by simp [go_sem], by simp [go_sem], by simp [go_sem], by simp [go_sem], by simp [go_sem], by simp [go_sem], by simp [go_sem], by simp [go_sem], by simp [go_sem], by simp [go_sem]⟩
      go_wp2_with fail
      refine wp_region_held_drew (S := (fun W => W.cell? ⟨w1.heap.size, 0, none⟩ = some (.int .i64 s) ∧ W.cell? ⟨w1.heap.size, 1, none⟩ = some (.int .i64 t) ∧ W.cell? ⟨w1.heap.size, 2, none⟩ = some (.int .i64 k) ∧ W.cell? ⟨w1.heap.size, 3, none⟩ = some (.int .i64 z) ∧ W.cell? ⟨w1.heap.size, 4, none⟩ = some (.int .i64 q) ∧ W.cell? ⟨w1.heap.size, 5, none⟩ = some (.int .i64 l) ∧ W.cell? ⟨w1.heap.size, 6, none⟩ = some (.int .i64 e) ∧ W.cell? ⟨w1.heap.size, 7, none⟩ = some (.bool b) ∧ W.cell? ⟨w1.heap.size, 8, none⟩ = some (.int .i64 v) ∧ W.cell? ⟨w1.heap.size, 9, none⟩ = some (.int .i64 r))) (by kernel_rfl) ?_ (fun hHeld => ?_)
      · (try dsimp only); exact ⟨by first | (simp [go_sem, *]; done) | assumption, by first | (simp [go_sem, *]; done) | assumption, by first | (simp [go_sem, *]; done) | assumption, by first | (simp [go_sem, *]; done) | assumption, by first | (simp [go_sem, *]; done) | assumption, by first | (simp [go_sem, *]; done) | assumption, by first | (simp [go_sem, *]; done) | assumption, by first | (simp [go_sem, *]; done) | assumption, by first | (simp [go_sem, *]; done) | assumption, by first | (simp [go_sem, *]; done) | assumption⟩
      refine wpAnyH_take (i := 0) (v := ?_) (by simp only [List.getElem?_toArray, List.getElem?_cons_zero, List.getElem?_cons_succ]; rfl) (by kernel_rfl) (by kernel_rfl) (by kernel_rfl) (by intro _ _ _ h; exact h) (Or.inl ⟨by rfl, ?_⟩) (by assumption) ?_
      rotate_left
      · (intro w9 hSw; (try dsimp only at hSw); go_simp <;> with_reducible rfl)
      try simp only [Act.put, List.setIfInBounds_toArray, List.set_cons_zero, List.set_cons_succ]
      refine wpAnyH_take (i := 2) (v := ?_) (by simp only [List.getElem?_toArray, List.getElem?_cons_zero, List.getElem?_cons_succ]; rfl) (by kernel_rfl) (by kernel_rfl) (by kernel_rfl) (by intro _ _ _ h; exact h) (Or.inl ⟨by rfl, ?_⟩) (by assumption) ?_
      rotate_left
      · (intro w9 hSw; (try dsimp only at hSw); go_simp <;> with_reducible rfl)
      try simp only [Act.put, List.setIfInBounds_toArray, List.set_cons_zero, List.set_cons_succ]
      refine wpAnyH_ready (rs := [1]) (by kernel_rfl) (by simp) ?_
      refine AllReadyH.cons (by simp only [List.getElem?_toArray, List.getElem?_cons_zero, List.getElem?_cons_succ]; rfl) (fun K hK => ?_) AllReadyH.nil
      go_simp
      (go_at_call 10; refine (implok_is s t k z q l e b v r _ (hide hj)).mono ?_; rintro e' w2 ⟨rfl, hb2⟩)
      (try go_wp2_with fail)
      have z2 : w1.heap.size < w2.heap.size := by have h9 := hb2.size; simp at h9; omega
      have b2 : Below (w1.alloc (.cells #[.int .i64 s, .int .i64 t, .int .i64 k, .int .i64 z, .int .i64 q, .int .i64 l, .int .i64 e, .bool b, .int .i64 v, .int .i64 r] 24)).heap.size (w1.alloc (.cells #[.int .i64 s, .int .i64 t, .int .i64 k, .int .i64 z, .int .i64 q, .int .i64 l, .int .i64 e, .bool b, .int .i64 v, .int .i64 r] 24)) w2 := Below.trans ((Below.refl _ (w1.alloc (.cells #[.int .i64 s, .int .i64 t, .int .i64 k, .int .i64 z, .int .i64 q, .int .i64 l, .int .i64 e, .bool b, .int .i64 v, .int .i64 r] 24))).drew) (hb2.mono (by simp))
      obtain ⟨d0, d1, d2, d3, d4, d5, d6, d7, d8, d9⟩ := c_
      have c0 : w2.cell? ⟨w1.heap.size, 0, none⟩ = some (.int .i64 s) := (b2.cell (p := ⟨w1.heap.size, 0, none⟩) (by simp)).trans d0
      have c1 : w2.cell? ⟨w1.heap.size, 1, none⟩ = some (.int .i64 t) := (b2.cell (p := ⟨w1.heap.size, 1, none⟩) (by simp)).trans d1
      have c2 : w2.cell? ⟨w1.heap.size, 2, none⟩ = some (.int .i64 k) := (b2.cell (p := ⟨w1.heap.size, 2, none⟩) (by simp)).trans d2
      have c3 : w2.cell? ⟨w1.heap.size, 3, none⟩ = some (.int .i64 z) := (b2.cell (p := ⟨w1.heap.size, 3, none⟩) (by simp)).trans d3
      have c4 : w2.cell? ⟨w1.heap.size, 4, none⟩ = some (.int .i64 q) := (b2.cell (p := ⟨w1.heap.size, 4, none⟩) (by simp)).trans d4
      have c5 : w2.cell? ⟨w1.heap.size, 5, none⟩ = some (.int .i64 l) := (b2.cell (p := ⟨w1.heap.size, 5, none⟩) (by simp)).trans d5
      have c6 : w2.cell? ⟨w1.heap.size, 6, none⟩ = some (.int .i64 e) := (b2.cell (p := ⟨w1.heap.size, 6, none⟩) (by simp)).trans d6
      have c7 : w2.cell? ⟨w1.heap.size, 7, none⟩ = some (.bool b) := (b2.cell (p := ⟨w1.heap.size, 7, none⟩) (by simp)).trans d7
      have c8 : w2.cell? ⟨w1.heap.size, 8, none⟩ = some (.int .i64 v) := (b2.cell (p := ⟨w1.heap.size, 8, none⟩) (by simp)).trans d8
      have c9 : w2.cell? ⟨w1.heap.size, 9, none⟩ = some (.int .i64 r) := (b2.cell (p := ⟨w1.heap.size, 9, none⟩) (by simp)).trans d9
      clear d0 d1 d2 d3 d4 d5 d6 d7 d8 d9
      refine hK.out _ _ ?_ (fun hHeld2 => ?_)
      · (try dsimp only); exact ⟨c0, c1, c2, c3, c4, c5, c6, c7, c8, c9⟩
      clear hK K hHeld
      have hHeld := hHeld2
      clear hHeld2
      try simp only [Act.put, List.setIfInBounds_toArray, List.set_cons_zero, List.set_cons_succ]
      refine wpAnyH_ready (rs := [3]) (by kernel_rfl) (by simp) ?_
      refine AllReadyH.cons (by simp only [List.getElem?_toArray, List.getElem?_cons_zero, List.getElem?_cons_succ]; rfl) (fun K hK => ?_) AllReadyH.nil
      go_simp
      (go_at_call 11; refine (specok_is s t k z q l e b v r _ (hide hj)).mono ?_; rintro e' w3 ⟨rfl, hb3⟩)
      (try go_wp2_with fail)
      have z3 : w1.heap.size < w3.heap.size := Nat.lt_of_lt_of_le z2 hb3.size
      have d0 : w3.cell? ⟨w1.heap.size, 0, none⟩ = some (.int .i64 s) := (hb3.cell (p := ⟨w1.heap.size, 0, none⟩) z2).trans c0
      have d1 : w3.cell? ⟨w1.heap.size, 1, none⟩ = some (.int .i64 t) := (hb3.cell (p := ⟨w1.heap.size, 1, none⟩) z2).trans c1
      have d2 : w3.cell? ⟨w1.heap.size, 2, none⟩ = some (.int .i64 k) := (hb3.cell (p := ⟨w1.heap.size, 2, none⟩) z2).trans c2
      have d3 : w3.cell? ⟨w1.heap.size, 3, none⟩ = some (.int .i64 z) := (hb3.cell (p := ⟨w1.heap.size, 3, none⟩) z2).trans c3
      have d4 : w3.cell? ⟨w1.heap.size, 4, none⟩ = some (.int .i64 q) := (hb3.cell (p := ⟨w1.heap.size, 4, none⟩) z2).trans c4
      have d5 : w3.cell? ⟨w1.heap.size, 5, none⟩ = some (.int .i64 l) := (hb3.cell (p := ⟨w1.heap.size, 5, none⟩) z2).trans c5
      have d6 : w3.cell? ⟨w1.heap.size, 6, none⟩ = some (.int .i64 e) := (hb3.cell (p := ⟨w1.heap.size, 6, none⟩) z2).trans c6
      have d7 : w3.cell? ⟨w1.heap.size, 7, none⟩ = some (.bool b) := (hb3.cell (p := ⟨w1.heap.size, 7, none⟩) z2).trans c7
      have d8 : w3.cell? ⟨w1.heap.size, 8, none⟩ = some (.int .i64 v) := (hb3.cell (p := ⟨w1.heap.size, 8, none⟩) z2).trans c8
      have d9 : w3.cell? ⟨w1.heap.size, 9, none⟩ = some (.int .i64 r) := (hb3.cell (p := ⟨w1.heap.size, 9, none⟩) z2).trans c9
      clear c0 c1 c2 c3 c4 c5 c6 c7 c8 c9
      refine hK.out _ _ ?_ (fun hHeld2 => ?_)
      · (try dsimp only); exact ⟨d0, d1, d2, d3, d4, d5, d6, d7, d8, d9⟩
      clear hK K hHeld
      have hHeld := hHeld2
      clear hHeld2
      try simp only [Act.put, List.setIfInBounds_toArray, List.set_cons_zero, List.set_cons_succ]
      refine wpAnyH_take (i := 4) (v := ?_) (by simp only [List.getElem?_toArray, List.getElem?_cons_zero, List.getElem?_cons_succ]; rfl) (by kernel_rfl) (by kernel_rfl) (by kernel_rfl) (by intro _ _ _ h; exact h) (Or.inl ⟨by rfl, ?_⟩) (by assumption) ?_
      rotate_left
      · (intro w9 hSw; (try dsimp only at hSw); go_simp <;> with_reducible rfl)
      try simp only [Act.put, List.setIfInBounds_toArray, List.set_cons_zero, List.set_cons_succ]
      refine wpAnyH_done (by kernel_rfl) ?_ _
      clear hHeld
      go_wp2_with fail
      refine (specok_is s t k z q l e b v r _ (hide hj)).mono ?_
      rintro e' w4 ⟨rfl, hb4⟩
      have z4 : w1.heap.size < w4.heap.size := Nat.lt_of_lt_of_le z3 hb4.size
      have x0 : w4.cell? ⟨w1.heap.size, 0, none⟩ = some (.int .i64 s) := (hb4.cell (p := ⟨w1.heap.size, 0, none⟩) z3).trans d0
      have x1 : w4.cell? ⟨w1.heap.size, 1, none⟩ = some (.int .i64 t) := (hb4.cell (p := ⟨w1.heap.size, 1, none⟩) z3).trans d1
      have x2 : w4.cell? ⟨w1.heap.size, 2, none⟩ = some (.int .i64 k) := (hb4.cell (p := ⟨w1.heap.size, 2, none⟩) z3).trans d2
      have x3 : w4.cell? ⟨w1.heap.size, 3, none⟩ = some (.int .i64 z) := (hb4.cell (p := ⟨w1.heap.size, 3, none⟩) z3).trans d3
      have x4 : w4.cell? ⟨w1.heap.size, 4, none⟩ = some (.int .i64 q) := (hb4.cell (p := ⟨w1.heap.size, 4, none⟩) z3).trans d4
      have x5 : w4.cell? ⟨w1.heap.size, 5, none⟩ = some (.int .i64 l) := (hb4.cell (p := ⟨w1.heap.size, 5, none⟩) z3).trans d5
      have x6 : w4.cell? ⟨w1.heap.size, 6, none⟩ = some (.int .i64 e) := (hb4.cell (p := ⟨w1.heap.size, 6, none⟩) z3).trans d6
      have x7 : w4.cell? ⟨w1.heap.size, 7, none⟩ = some (.bool b) := (hb4.cell (p := ⟨w1.heap.size, 7, none⟩) z3).trans d7
      have x8 : w4.cell? ⟨w1.heap.size, 8, none⟩ = some (.int .i64 v) := (hb4.cell (p := ⟨w1.heap.size, 8, none⟩) z3).trans d8
      have x9 : w4.cell? ⟨w1.heap.size, 9, none⟩ = some (.int .i64 r) := (hb4.cell (p := ⟨w1.heap.size, 9, none⟩) z3).trans d9
      clear d0 d1 d2 d3 d4 d5 d6 d7 d8 d9
      have hbF : Below w.heap.size w w4 := bel_trans hb1 (bel_trans hb1' (bel_trans b2 (bel_trans hb3 hb4)))
      clear b2 hb2 hb3 hb4 hb1'
      go_wp2_with fail
      go_cut [5, 6, 7] (fun p5 p6 p7 W => Three w4 s t k z q l e b v r p5 p6 p7 W)
      case first =>
        have ya0 : w1.heap.size ≠ w4.heap.size := by omega
        have yb0 : w4.heap.size ≠ w1.heap.size := by omega
        have yc0 : w1.heap.size < w4.heap.size + 1 := by omega
        have ya1 : w1.heap.size ≠ w4.heap.size  + 1 := by omega
        have yb1 : w4.heap.size  + 1 ≠ w1.heap.size := by omega
        have yc1 : w1.heap.size < w4.heap.size  + 1 + 1 := by omega
        have ya2 : w1.heap.size ≠ w4.heap.size + 1 + 1 := by omega
        have yb2 : w4.heap.size + 1 + 1 ≠ w1.heap.size := by omega
        have yc2 : w1.heap.size < w4.heap.size + 1 + 1 + 1 := by omega
        refine wp_region_held_drew (S := (fun W => W.cell? ⟨w1.heap.size, 0, none⟩ = some (.int .i64 s) ∧ W.cell? ⟨w1.heap.size, 1, none⟩ = some (.int .i64 t) ∧ W.cell? ⟨w1.heap.size, 2, none⟩ = some (.int .i64 k) ∧ W.cell? ⟨w1.heap.size, 3, none⟩ = some (.int .i64 z) ∧ W.cell? ⟨w1.heap.size, 4, none⟩ = some (.int .i64 q) ∧ W.cell? ⟨w1.heap.size, 5, none⟩ = some (.int .i64 l) ∧ W.cell? ⟨w1.heap.size, 6, none⟩ = some (.int .i64 e) ∧ W.cell? ⟨w1.heap.size, 7, none⟩ = some (.bool b) ∧ W.cell? ⟨w1.heap.size, 8, none⟩ = some (.int .i64 v) ∧ W.cell? ⟨w1.heap.size, 9, none⟩ = some (.int .i64 r))) (by kernel_rfl) ?_ (fun hHeld => ?_)
        · (try dsimp only); exact ⟨by first | (simp [go_sem, *]; done) | assumption, by first | (simp [go_sem, *]; done) | assumption, by first | (simp [go_sem, *]; done) | assumption, by first | (simp [go_sem, *]; done) | assumption, by first | (simp [go_sem, *]; done) | assumption, by first | (simp [go_sem, *]; done) | assumption, by first | (simp [go_sem, *]; done) | assumption, by first | (simp [go_sem, *]; done) | assumption, by first | (simp [go_sem, *]; done) | assumption, by first | (simp [go_sem, *]; done) | assumption⟩
        refine wpAnyH_take (i := 0) (v := ?_) (by simp only [List.getElem?_toArray, List.getElem?_cons_zero, List.getElem?_cons_succ]; rfl) (by kernel_rfl) (by kernel_rfl) (by kernel_rfl) (by intro _ _ _ h; exact h) (Or.inl ⟨by rfl, ?_⟩) (by assumption) ?_
        rotate_left
        · (intro w9 hSw; (try dsimp only at hSw); go_simp <;> with_reducible rfl)
        try simp only [Act.put, List.setIfInBounds_toArray, List.set_cons_zero, List.set_cons_succ]
        refine wpAnyH_take (i := 1) (v := ?_) (by simp only [List.getElem?_toArray, List.getElem?_cons_zero, List.getElem?_cons_succ]; rfl) (by kernel_rfl) (by kernel_rfl) (by kernel_rfl) (by intro _ _ _ h; exact h) (Or.inl ⟨by rfl, ?_⟩) (by assumption) ?_
        rotate_left
        · (intro w9 hSw; (try dsimp only at hSw); go_simp <;> with_reducible rfl)
        try simp only [Act.put, List.setIfInBounds_toArray, List.set_cons_zero, List.set_cons_succ]
        refine wpAnyH_take (i := 2) (v := ?_) (by simp only [List.getElem?_toArray, List.getElem?_cons_zero, List.getElem?_cons_succ]; rfl) (by kernel_rfl) (by kernel_rfl) (by kernel_rfl) (by intro _ _ _ h; exact h) (Or.inl ⟨by rfl, ?_⟩) (by assumption) ?_
        rotate_left
        · (intro w9 hSw; (try dsimp only at hSw); go_simp <;> with_reducible rfl)
        try simp only [Act.put, List.setIfInBounds_toArray, List.set_cons_zero, List.set_cons_succ]
        refine wpAnyH_ready (rs := [3, 4, 5]) (by kernel_rfl) (by simp) ?_
        refine AllReadyH.cons (by simp only [List.getElem?_toArray, List.getElem?_cons_zero, List.getElem?_cons_succ]; rfl) (fun K hK => ?_) ?_
        · go_simp
          refine hK.out _ _ ?_ (fun hHeld2 => ?_)
          · (try dsimp only); exact ⟨by first | (simp [go_sem, *]; done) | assumption, by first | (simp [go_sem, *]; done) | assumption, by first | (simp [go_sem, *]; done) | assumption, by first | (simp [go_sem, *]; done) | assumption, by first | (simp [go_sem, *]; done) | assumption, by first | (simp [go_sem, *]; done) | assumption, by first | (simp [go_sem, *]; done) | assumption, by first | (simp [go_sem, *]; done) | assumption, by first | (simp [go_sem, *]; done) | assumption, by first | (simp [go_sem, *]; done) | assumption⟩
          clear hK K hHeld
          have hHeld := hHeld2
          clear hHeld2
          try simp only [Act.put, List.setIfInBounds_toArray, List.set_cons_zero, List.set_cons_succ]
          refine wpAnyH_ready (rs := [4, 5]) (by kernel_rfl) (by simp) ?_
          refine AllReadyH.cons (by simp only [List.getElem?_toArray, List.getElem?_cons_zero, List.getElem?_cons_succ]; rfl) (fun K hK => ?_) ?_
          · go_simp
            refine hK.out _ _ ?_ (fun hHeld2 => ?_)
            · (try dsimp only); exact ⟨by first | (simp [go_sem, *]; done) | assumption, by first | (simp [go_sem, *]; done) | assumption, by first | (simp [go_sem, *]; done) | assumption, by first | (simp [go_sem, *]; done) | assumption, by first | (simp [go_sem, *]; done) | assumption, by first | (simp [go_sem, *]; done) | assumption, by first | (simp [go_sem, *]; done) | assumption, by first | (simp [go_sem, *]; done) | assumption, by first | (simp [go_sem, *]; done) | assumption, by first | (simp [go_sem, *]; done) | assumption⟩
            clear hK K hHeld
            have hHeld := hHeld2
            clear hHeld2
            try simp only [Act.put, List.setIfInBounds_toArray, List.set_cons_zero, List.set_cons_succ]
            refine wpAnyH_ready (rs := [5]) (by kernel_rfl) (by simp) ?_
            refine AllReadyH.cons (by simp only [List.getElem?_toArray, List.getElem?_cons_zero, List.getElem?_cons_succ]; rfl) (fun K hK => ?_) AllReadyH.nil
            go_simp
            refine hK.out _ _ ?_ (fun hHeld2 => ?_)
            · (try dsimp only); exact ⟨by first | (simp [go_sem, *]; done) | assumption, by first | (simp [go_sem, *]; done) | assumption, by first | (simp [go_sem, *]; done) | assumption, by first | (simp [go_sem, *]; done) | assumption, by first | (simp [go_sem, *]; done) | assumption, by first | (simp [go_sem, *]; done) | assumption, by first | (simp [go_sem, *]; done) | assumption, by first | (simp [go_sem, *]; done) | assumption, by first | (simp [go_sem, *]; done) | assumption, by first | (simp [go_sem, *]; done) | assumption⟩
            clear hK K hHeld
            have hHeld := hHeld2
            clear hHeld2
            try simp only [Act.put, List.setIfInBounds_toArray, List.set_cons_zero, List.set_cons_succ]
            refine wpAnyH_ready (rs := [6]) (by kernel_rfl) (by simp) ?_
            refine AllReadyH.cons (by simp only [List.getElem?_toArray, List.getElem?_cons_zero, List.getElem?_cons_succ]; rfl) (fun K hK => ?_) AllReadyH.nil
            go_simp
            refine hK.out _ _ ?_ (fun hHeld2 => ?_)
            · (try dsimp only); exact ⟨by first | (simp [go_sem, *]; done) | assumption, by first | (simp [go_sem, *]; done) | assumption, by first | (simp [go_sem, *]; done) | assumption, by first | (simp [go_sem, *]; done) | assumption, by first | (simp [go_sem, *]; done) | assumption, by first | (simp [go_sem, *]; done) | assumption, by first | (simp [go_sem, *]; done) | assumption, by first | (simp [go_sem, *]; done) | assumption, by first | (simp [go_sem, *]; done) | assumption, by first | (simp [go_sem, *]; done) | assumption⟩
            clear hK K hHeld
            have hHeld := hHeld2
            clear hHeld2
            try simp only [Act.put, List.setIfInBounds_toArray, List.set_cons_zero, List.set_cons_succ]
            refine wpAnyH_ready (rs := [7]) (by kernel_rfl) (by simp) ?_
            refine AllReadyH.cons (by simp only [List.getElem?_toArray, List.getElem?_cons_zero, List.getElem?_cons_succ]; rfl) (fun K hK => ?_) AllReadyH.nil
            go_simp
            refine hK.out _ _ ?_ (fun hHeld2 => ?_)
            · (try dsimp only); exact ⟨by first | (simp [go_sem, *]; done) | assumption, by first | (simp [go_sem, *]; done) | assumption, by first | (simp [go_sem, *]; done) | assumption, by first | (simp [go_sem, *]; done) | assumption, by first | (simp [go_sem, *]; done) | assumption, by first | (simp [go_sem, *]; done) | assumption, by first | (simp [go_sem, *]; done) | assumption, by first | (simp [go_sem, *]; done) | assumption, by first | (simp [go_sem, *]; done) | assumption, by first | (simp [go_sem, *]; done) | assumption⟩
            clear hK K hHeld
            have hHeld := hHeld2
            clear hHeld2
            try simp only [Act.put, List.setIfInBounds_toArray, List.set_cons_zero, List.set_cons_succ]
            refine wpAnyH_ready (rs := [8]) (by kernel_rfl) (by simp) ?_
            refine AllReadyH.cons (by simp only [List.getElem?_toArray, List.getElem?_cons_zero, List.getElem?_cons_succ]; rfl) (fun K hK => ?_) AllReadyH.nil
            go_simp
            refine hK.out _ _ ?_ (fun hHeld2 => ?_)
            · (try dsimp only); exact ⟨by first | (simp [go_sem, *]; done) | assumption, by first | (simp [go_sem, *]; done) | assumption, by first | (simp [go_sem, *]; done) | assumption, by first | (simp [go_sem, *]; done) | assumption, by first | (simp [go_sem, *]; done) | assumption, by first | (simp [go_sem, *]; done) | assumption, by first | (simp [go_sem, *]; done) | assumption, by first | (simp [go_sem, *]; done) | assumption, by first | (simp [go_sem, *]; done) | assumption, by first | (simp [go_sem, *]; done) | assumption⟩
            clear hK K hHeld
            have hHeld := hHeld2
            clear hHeld2
            try simp only [Act.put, List.setIfInBounds_toArray, List.set_cons_zero, List.set_cons_succ]
            refine wpAnyH_done (by kernel_rfl) ?_ _
            go_wp2
            go_meet
            exact ⟨_, _, _, rfl, rfl, rfl, ⟨by omega, by omega, by omega⟩, ⟨by omega, by omega, by omega⟩, (by repeat (first | (with_reducible exact heap_alloc_new _ _) | (refine blk_newJ ?_; simp; done) | (refine (Below.heap_alloc _ _ _ (by first | (simp; done) | (simp; omega))).trans ?_))), (by repeat (first | (with_reducible exact heap_alloc_new _ _) | (refine blk_newJ ?_; simp; done) | (refine (Below.heap_alloc _ _ _ (by first | (simp; done) | (simp; omega))).trans ?_))), (by repeat (first | (with_reducible exact heap_alloc_new _ _) | (refine blk_newJ ?_; simp; done) | (refine (Below.heap_alloc _ _ _ (by first | (simp; done) | (simp; omega))).trans ?_))), (by repeat (first | (with_reducible exact Below.refl _ _) | (with_reducible assumption) | (with_reducible refine bel_set ?_ (by first | (simp; done) | (simp; omega)) _) | (with_reducible refine bel_alloc ?_ _) | (with_reducible refine bel_drew ?_)))⟩
          refine AllReadyH.cons (by simp only [List.getElem?_toArray, List.getElem?_cons_zero, List.getElem?_cons_succ]; rfl) (fun K hK => ?_) AllReadyH.nil
          go_simp
          refine hK.out _ _ ?_ (fun hHeld2 => ?_)
          · (try dsimp only); exact ⟨by first | (simp [go_sem, *]; done) | assumption, by first | (simp [go_sem, *]; done) | assumption, by first | (simp [go_sem, *]; done) | assumption, by first | (simp [go_sem, *]; done) | assumption, by first | (simp [go_sem, *]; done) | assumption, by first | (simp [go_sem, *]; done) | assumption, by first | (simp [go_sem, *]; done) | assumption, by first | (simp [go_sem, *]; done) | assumption, by first | (simp [go_sem, *]; done) | assumption, by first | (simp [go_sem, *]; done) | assumption⟩
          clear hK K hHeld
          have hHeld := hHeld2
          clear hHeld2
          try simp only [Act.put, List.setIfInBounds_toArray, List.set_cons_zero, List.set_cons_succ]
          refine wpAnyH_ready (rs := [4]) (by kernel_rfl) (by simp) ?_
          refine AllReadyH.cons (by simp only [List.getElem?_toArray, List.getElem?_cons_zero, List.getElem?_cons_succ]; rfl) (fun K hK => ?_) AllReadyH.nil
          go_simp
          refine hK.out _ _ ?_ (fun hHeld2 => ?_)
          · (try dsimp only); exact ⟨by first | (simp [go_sem, *]; done) | assumption, by first | (simp [go_sem, *]; done) | assumption, by first | (simp [go_sem, *]; done) | assumption, by first | (simp [go_sem, *]; done) | assumption, by first | (simp [go_sem, *]; done) | assumption, by first | (simp [go_sem, *]; done) | assumption, by first | (simp [go_sem, *]; done) | assumption, by first | (simp [go_sem, *]; done) | assumption, by first | (simp [go_sem, *]; done) | assumption, by first | (simp [go_sem, *]; done) | assumption⟩
          clear hK K hHeld
          have hHeld := hHeld2
          clear hHeld2
          try simp only [Act.put, List.setIfInBounds_toArray, List.set_cons_zero, List.set_cons_succ]
          refine wpAnyH_ready (rs := [6]) (by kernel_rfl) (by simp) ?_
          refine AllReadyH.cons (by simp only [List.getElem?_toArray, List.getElem?_cons_zero, List.getElem?_cons_succ]; rfl) (fun K hK => ?_) AllReadyH.nil
          go_simp
          refine hK.out _ _ ?_ (fun hHeld2 => ?_)
          · (try dsimp only); exact ⟨by first | (simp [go_sem, *]; done) | assumption, by first | (simp [go_sem, *]; done) | assumption, by first | (simp [go_sem, *]; done) | assumption, by first | (simp [go_sem, *]; done) | assumption, by first | (simp [go_sem, *]; done) | assumption, by first | (simp [go_sem, *]; done) | assumption, by first | (simp [go_sem, *]; done) | assumption, by first | (simp [go_sem, *]; done) | assumption, by first | (simp [go_sem, *]; done) | assumption, by first | (simp [go_sem, *]; done) | assumption⟩
          clear hK K hHeld
          have hHeld := hHeld2
          clear hHeld2
          try simp only [Act.put, List.setIfInBounds_toArray, List.set_cons_zero, List.set_cons_succ]
          refine wpAnyH_ready (rs := [7]) (by kernel_rfl) (by simp) ?_
          refine AllReadyH.cons (by simp only [List.getElem?_toArray, List.getElem?_cons_zero, List.getElem?_cons_succ]; rfl) (fun K hK => ?_) AllReadyH.nil
          go_simp
          refine hK.out _ _ ?_ (fun hHeld2 => ?_)
          · (try dsimp only); exact ⟨by first | (simp [go_sem, *]; done) | assumption, by first | (simp [go_sem, *]; done) | assumption, by first | (simp [go_sem, *]; done) | assumption, by first | (simp [go_sem, *]; done) | assumption, by first | (simp [go_sem, *]; done) | assumption, by first | (simp [go_sem, *]; done) | assumption, by first | (simp [go_sem, *]; done) | assumption, by first | (simp [go_sem, *]; done) | assumption, by first | (simp [go_sem, *]; done) | assumption, by first | (simp [go_sem, *]; done) | assumption⟩
          clear hK K hHeld
          have hHeld := hHeld2
          clear hHeld2
          try simp only [Act.put, List.setIfInBounds_toArray, List.set_cons_zero, List.set_cons_succ]
          refine wpAnyH_ready (rs := [8]) (by kernel_rfl) (by simp) ?_
          refine AllReadyH.cons (by simp only [List.getElem?_toArray, List.getElem?_cons_zero, List.getElem?_cons_succ]; rfl) (fun K hK => ?_) AllReadyH.nil
          go_simp
          refine hK.out _ _ ?_ (fun hHeld2 => ?_)
          · (try dsimp only); exact ⟨by first | (simp [go_sem, *]; done) | assumption, by first | (simp [go_sem, *]; done) | assumption, by first | (simp [go_sem, *]; done) | assumption, by first | (simp [go_sem, *]; done) | assumption, by first | (simp [go_sem, *]; done) | assumption, by first | (simp [go_sem, *]; done) | assumption, by first | (simp [go_sem, *]; done) | assumption, by first | (simp [go_sem, *]; done) | assumption, by first | (simp [go_sem, *]; done) | assumption, by first | (simp [go_sem, *]; done) | assumption⟩
          clear hK K hHeld
          have hHeld := hHeld2
          clear hHeld2
          try simp only [Act.put, List.setIfInBounds_toArray, List.set_cons_zero, List.set_cons_succ]
          refine wpAnyH_done (by kernel_rfl) ?_ _
          go_wp2
          go_meet
          exact ⟨_, _, _, rfl, rfl, rfl, ⟨by omega, by omega, by omega⟩, ⟨by omega, by omega, by omega⟩, (by repeat (first | (with_reducible exact heap_alloc_new _ _) | (refine blk_newJ ?_; simp; done) | (refine (Below.heap_alloc _ _ _ (by first | (simp; done) | (simp; omega))).trans ?_))), (by repeat (first | (with_reducible exact heap_alloc_new _ _) | (refine blk_newJ ?_; simp; done) | (refine (Below.heap_alloc _ _ _ (by first | (simp; done) | (simp; omega))).trans ?_))), (by repeat (first | (with_reducible exact heap_alloc_new _ _) | (refine blk_newJ ?_; simp; done) | (refine (Below.heap_alloc _ _ _ (by first | (simp; done) | (simp; omega))).trans ?_))), (by repeat (first | (with_reducible exact Below.refl _ _) | (with_reducible assumption) | (with_reducible refine bel_set ?_ (by first | (simp; done) | (simp; omega)) _) | (with_reducible refine bel_alloc ?_ _) | (with_reducible refine bel_drew ?_)))⟩
        refine AllReadyH.cons (by simp only [List.getElem?_toArray, List.getElem?_cons_zero, List.getElem?_cons_succ]; rfl) (fun K hK => ?_) ?_
        · go_simp
          refine hK.out _ _ ?_ (fun hHeld2 => ?_)
          · (try dsimp only); exact ⟨by first | (simp [go_sem, *]; done) | assumption, by first | (simp [go_sem, *]; done) | assumption, by first | (simp [go_sem, *]; done) | assumption, by first | (simp [go_sem, *]; done) | assumption, by first | (simp [go_sem, *]; done) | assumption, by first | (simp [go_sem, *]; done) | assumption, by first | (simp [go_sem, *]; done) | assumption, by first | (simp [go_sem, *]; done) | assumption, by first | (simp [go_sem, *]; done) | assumption, by first | (simp [go_sem, *]; done) | assumption⟩
          clear hK K hHeld
          have hHeld := hHeld2
          clear hHeld2
          try simp only [Act.put, List.setIfInBounds_toArray, List.set_cons_zero, List.set_cons_succ]
          refine wpAnyH_ready (rs := [3, 5]) (by kernel_rfl) (by simp) ?_
          refine AllReadyH.cons (by simp only [List.getElem?_toArray, List.getElem?_cons_zero, List.getElem?_cons_succ]; rfl) (fun K hK => ?_) ?_
          · go_simp
            refine hK.out _ _ ?_ (fun hHeld2 => ?_)
            · (try dsimp only); exact ⟨by first | (simp [go_sem, *]; done) | assumption, by first | (simp [go_sem, *]; done) | assumption, by first | (simp [go_sem, *]; done) | assumption, by first | (simp [go_sem, *]; done) | assumption, by first | (simp [go_sem, *]; done) | assumption, by first | (simp [go_sem, *]; done) | assumption, by first | (simp [go_sem, *]; done) | assumption, by first | (simp [go_sem, *]; done) | assumption, by first | (simp [go_sem, *]; done) | assumption, by first | (simp [go_sem, *]; done) | assumption⟩
            clear hK K hHeld
            have hHeld := hHeld2
            clear hHeld2
            try simp only [Act.put, List.setIfInBounds_toArray, List.set_cons_zero, List.set_cons_succ]
            refine wpAnyH_ready (rs := [5]) (by kernel_rfl) (by simp) ?_
            refine AllReadyH.cons (by simp only [List.getElem?_toArray, List.getElem?_cons_zero, List.getElem?_cons_succ]; rfl) (fun K hK => ?_) AllReadyH.nil
            go_simp
            refine hK.out _ _ ?_ (fun hHeld2 => ?_)
            · (try dsimp only); exact ⟨by first | (simp [go_sem, *]; done) | assumption, by first | (simp [go_sem, *]; done) | assumption, by first | (simp [go_sem, *]; done) | assumption, by first | (simp [go_sem, *]; done) | assumption, by first | (simp [go_sem, *]; done) | assumption, by first | (simp [go_sem, *]; done) | assumption, by first | (simp [go_sem, *]; done) | assumption, by first | (simp [go_sem, *]; done) | assumption, by first | (simp [go_sem, *]; done) | assumption, by first | (simp [go_sem, *]; done) | assumption⟩
            clear hK K hHeld
            have hHeld := hHeld2
            clear hHeld2
            try simp only [Act.put, List.setIfInBounds_toArray, List.set_cons_zero, List.set_cons_succ]
            refine wpAnyH_ready (rs := [6]) (by kernel_rfl) (by simp) ?_
            refine AllReadyH.cons (by simp only [List.getElem?_toArray, List.getElem?_cons_zero, List.getElem?_cons_succ]; rfl) (fun K hK => ?_) AllReadyH.nil
            go_simp
            refine hK.out _ _ ?_ (fun hHeld2 => ?_)
            · (try dsimp only); exact ⟨by first | (simp [go_sem, *]; done) | assumption, by first | (simp [go_sem, *]; done) | assumption, by first | (simp [go_sem, *]; done) | assumption, by first | (simp [go_sem, *]; done) | assumption, by first | (simp [go_sem, *]; done) | assumption, by first | (simp [go_sem, *]; done) | assumption, by first | (simp [go_sem, *]; done) | assumption, by first | (simp [go_sem, *]; done) | assumption, by first | (simp [go_sem, *]; done) | assumption, by first | (simp [go_sem, *]; done) | assumption⟩
            clear hK K hHeld
            have hHeld := hHeld2
            clear hHeld2
            try simp only [Act.put, List.setIfInBounds_toArray, List.set_cons_zero, List.set_cons_succ]
            refine wpAnyH_ready (rs := [7]) (by kernel_rfl) (by simp) ?_
            refine AllReadyH.cons (by simp only [List.getElem?_toArray, List.getElem?_cons_zero, List.getElem?_cons_succ]; rfl) (fun K hK => ?_) AllReadyH.nil
            go_simp
            refine hK.out _ _ ?_ (fun hHeld2 => ?_)
            · (try dsimp only); exact ⟨by first | (simp [go_sem, *]; done) | assumption, by first | (simp [go_sem, *]; done) | assumption, by first | (simp [go_sem, *]; done) | assumption, by first | (simp [go_sem, *]; done) | assumption, by first | (simp [go_sem, *]; done) | assumption, by first | (simp [go_sem, *]; done) | assumption, by first | (simp [go_sem, *]; done) | assumption, by first | (simp [go_sem, *]; done) | assumption, by first | (simp [go_sem, *]; done) | assumption, by first | (simp [go_sem, *]; done) | assumption⟩
            clear hK K hHeld
            have hHeld := hHeld2
            clear hHeld2
            try simp only [Act.put, List.setIfInBounds_toArray, List.set_cons_zero, List.set_cons_succ]
            refine wpAnyH_ready (rs := [8]) (by kernel_rfl) (by simp) ?_
            refine AllReadyH.cons (by simp only [List.getElem?_toArray, List.getElem?_cons_zero, List.getElem?_cons_succ]; rfl) (fun K hK => ?_) AllReadyH.nil
            go_simp
            refine hK.out _ _ ?_ (fun hHeld2 => ?_)
            · (try dsimp only); exact ⟨by first | (simp [go_sem, *]; done) | assumption, by first | (simp [go_sem, *]; done) | assumption, by first | (simp [go_sem, *]; done) | assumption, by first | (simp [go_sem, *]; done) | assumption, by first | (simp [go_sem, *]; done) | assumption, by first | (simp [go_sem, *]; done) | assumption, by first | (simp [go_sem, *]; done) | assumption, by first | (simp [go_sem, *]; done) | assumption, by first | (simp [go_sem, *]; done) | assumption, by first | (simp [go_sem, *]; done) | assumption⟩
            clear hK K hHeld
            have hHeld := hHeld2
            clear hHeld2
            try simp only [Act.put, List.setIfInBounds_toArray, List.set_cons_zero, List.set_cons_succ]
            refine wpAnyH_done (by kernel_rfl) ?_ _
            go_wp2
            go_meet
            exact ⟨_, _, _, rfl, rfl, rfl, ⟨by omega, by omega, by omega⟩, ⟨by omega, by omega, by omega⟩, (by repeat (first | (with_reducible exact heap_alloc_new _ _) | (refine blk_newJ ?_; simp; done) | (refine (Below.heap_alloc _ _ _ (by first | (simp; done) | (simp; omega))).trans ?_))), (by repeat (first | (with_reducible exact heap_alloc_new _ _) | (refine blk_newJ ?_; simp; done) | (refine (Below.heap_alloc _ _ _ (by first | (simp; done) | (simp; omega))).trans ?_))), (by repeat (first | (with_reducible exact heap_alloc_new _ _) | (refine blk_newJ ?_; simp; done) | (refine (Below.heap_alloc _ _ _ (by first | (simp; done) | (simp; omega))).trans ?_))), (by repeat (first | (with_reducible exact Below.refl _ _) | (with_reducible assumption) | (with_reducible refine bel_set ?_ (by first | (simp; done) | (simp; omega)) _) | (with_reducible refine bel_alloc ?_ _) | (with_reducible refine bel_drew ?_)))⟩
          refine AllReadyH.cons (by simp only [List.getElem?_toArray, List.getElem?_cons_zero, List.getElem?_cons_succ]; rfl) (fun K hK => ?_) AllReadyH.nil
          go_simp
          refine hK.out _ _ ?_ (fun hHeld2 => ?_)
          · (try dsimp only); exact ⟨by first | (simp [go_sem, *]; done) | assumption, by first | (simp [go_sem, *]; done) | assumption, by first | (simp [go_sem, *]; done) | assumption, by first | (simp [go_sem, *]; done) | assumption, by first | (simp [go_sem, *]; done) | assumption, by first | (simp [go_sem, *]; done) | assumption, by first | (simp [go_sem, *]; done) | assumption, by first | (simp [go_sem, *]; done) | assumption, by first | (simp [go_sem, *]; done) | assumption, by first | (simp [go_sem, *]; done) | assumption⟩
          clear hK K hHeld
          have hHeld := hHeld2
          clear hHeld2
          try simp only [Act.put, List.setIfInBounds_toArray, List.set_cons_zero, List.set_cons_succ]
          refine wpAnyH_ready (rs := [3]) (by kernel_rfl) (by simp) ?_
          refine AllReadyH.cons (by simp only [List.getElem?_toArray, List.getElem?_cons_zero, List.getElem?_cons_succ]; rfl) (fun K hK => ?_) AllReadyH.nil
          go_simp
          refine hK.out _ _ ?_ (fun hHeld2 => ?_)
          · (try dsimp only); exact ⟨by first | (simp [go_sem, *]; done) | assumption, by first | (simp [go_sem, *]; done) | assumption, by first | (simp [go_sem, *]; done) | assumption, by first | (simp [go_sem, *]; done) | assumption, by first | (simp [go_sem, *]; done) | assumption, by first | (simp [go_sem, *]; done) | assumption, by first | (simp [go_sem, *]; done) | assumption, by first | (simp [go_sem, *]; done) | assumption, by first | (simp [go_sem, *]; done) | assumption, by first | (simp [go_sem, *]; done) | assumption⟩
          clear hK K hHeld
          have hHeld := hHeld2
          clear hHeld2
          try simp only [Act.put, List.setIfInBounds_toArray, List.set_cons_zero, List.set_cons_succ]
          refine wpAnyH_ready (rs := [6]) (by kernel_rfl) (by simp) ?_
          refine AllReadyH.cons (by simp only [List.getElem?_toArray, List.getElem?_cons_zero, List.getElem?_cons_succ]; rfl) (fun K hK => ?_) AllReadyH.nil
          go_simp
          refine hK.out _ _ ?_ (fun hHeld2 => ?_)
          · (try dsimp only); exact ⟨by first | (simp [go_sem, *]; done) | assumption, by first | (simp [go_sem, *]; done) | assumption, by first | (simp [go_sem, *]; done) | assumption, by first | (simp [go_sem, *]; done) | assumption, by first | (simp [go_sem, *]; done) | assumption, by first | (simp [go_sem, *]; done) | assumption, by first | (simp [go_sem, *]; done) | assumption, by first | (simp [go_sem, *]; done) | assumption, by first | (simp [go_sem, *]; done) | assumption, by first | (simp [go_sem, *]; done) | assumption⟩
          clear hK K hHeld
          have hHeld := hHeld2
          clear hHeld2
          try simp only [Act.put, List.setIfInBounds_toArray, List.set_cons_zero, List.set_cons_succ]
          refine wpAnyH_ready (rs := [7]) (by kernel_rfl) (by simp) ?_
          refine AllReadyH.cons (by simp only [List.getElem?_toArray, List.getElem?_cons_zero, List.getElem?_cons_succ]; rfl) (fun K hK => ?_) AllReadyH.nil
          go_simp
          refine hK.out _ _ ?_ (fun hHeld2 => ?_)
          · (try dsimp only); exact ⟨by first | (simp [go_sem, *]; done) | assumption, by first | (simp [go_sem, *]; done) | assumption, by first | (simp [go_sem, *]; done) | assumption, by first | (simp [go_sem, *]; done) | assumption, by first | (simp [go_sem, *]; done) | assumption, by first | (simp [go_sem, *]; done) | assumption, by first | (simp [go_sem, *]; done) | assumption, by first | (simp [go_sem, *]; done) | assumption, by first | (simp [go_sem, *]; done) | assumption, by first | (simp [go_sem, *]; done) | assumption⟩
          clear hK K hHeld
          have hHeld := hHeld2
          clear hHeld2
          try simp only [Act.put, List.setIfInBounds_toArray, List.set_cons_zero, List.set_cons_succ]
          refine wpAnyH_ready (rs := [8]) (by kernel_rfl) (by simp) ?_
          refine AllReadyH.cons (by simp only [List.getElem?_toArray, List.getElem?_cons_zero, List.getElem?_cons_succ]; rfl) (fun K hK => ?_) AllReadyH.nil
          go_simp
          refine hK.out _ _ ?_ (fun hHeld2 => ?_)
          · (try dsimp only); exact ⟨by first | (simp [go_sem, *]; done) | assumption, by first | (simp [go_sem, *]; done) | assumption, by first | (simp [go_sem, *]; done) | assumption, by first | (simp [go_sem, *]; done) | assumption, by first | (simp [go_sem, *]; done) | assumption, by first | (simp [go_sem, *]; done) | assumption, by first | (simp [go_sem, *]; done) | assumption, by first | (simp [go_sem, *]; done) | assumption, by first | (simp [go_sem, *]; done) | assumption, by first | (simp [go_sem, *]; done) | assumption⟩
          clear hK K hHeld
          have hHeld := hHeld2
          clear hHeld2
          try simp only [Act.put, List.setIfInBounds_toArray, List.set_cons_zero, List.set_cons_succ]
          refine wpAnyH_done (by kernel_rfl) ?_ _
          go_wp2
          go_meet
          exact ⟨_, _, _, rfl, rfl, rfl, ⟨by omega, by omega, by omega⟩, ⟨by omega, by omega, by omega⟩, (by repeat (first | (with_reducible exact heap_alloc_new _ _) | (refine blk_newJ ?_; simp; done) | (refine (Below.heap_alloc _ _ _ (by first | (simp; done) | (simp; omega))).trans ?_))), (by repeat (first | (with_reducible exact heap_alloc_new _ _) | (refine blk_newJ ?_; simp; done) | (refine (Below.heap_alloc _ _ _ (by first | (simp; done) | (simp; omega))).trans ?_))), (by repeat (first | (with_reducible exact heap_alloc_new _ _) | (refine blk_newJ ?_; simp; done) | (refine (Below.heap_alloc _ _ _ (by first | (simp; done) | (simp; omega))).trans ?_))), (by repeat (first | (with_reducible exact Below.refl _ _) | (with_reducible assumption) | (with_reducible refine bel_set ?_ (by first | (simp; done) | (simp; omega)) _) | (with_reducible refine bel_alloc ?_ _) | (with_reducible refine bel_drew ?_)))⟩
        refine AllReadyH.cons (by simp only [List.getElem?_toArray, List.getElem?_cons_zero, List.getElem?_cons_succ]; rfl) (fun K hK => ?_) AllReadyH.nil
        go_simp
        refine hK.out _ _ ?_ (fun hHeld2 => ?_)
        · (try dsimp only); exact ⟨by first | (simp [go_sem, *]; done) | assumption, by first | (simp [go_sem, *]; done) | assumption, by first | (simp [go_sem, *]; done) | assumption, by first | (simp [go_sem, *]; done) | assumption, by first | (simp [go_sem, *]; done) | assumption, by first | (simp [go_sem, *]; done) | assumption, by first | (simp [go_sem, *]; done) | assumption, by first | (simp [go_sem, *]; done) | assumption, by first | (simp [go_sem, *]; done) | assumption, by first | (simp [go_sem, *]; done) | assumption⟩
        clear hK K hHeld
        have hHeld := hHeld2
        clear hHeld2
        try simp only [Act.put, List.setIfInBounds_toArray, List.set_cons_zero, List.set_cons_succ]
        refine wpAnyH_ready (rs := [3, 4]) (by kernel_rfl) (by simp) ?_
        refine AllReadyH.cons (by simp only [List.getElem?_toArray, List.getElem?_cons_zero, List.getElem?_cons_succ]; rfl) (fun K hK => ?_) ?_
        · go_simp
          refine hK.out _ _ ?_ (fun hHeld2 => ?_)
          · (try dsimp only); exact ⟨by first | (simp [go_sem, *]; done) | assumption, by first | (simp [go_sem, *]; done) | assumption, by first | (simp [go_sem, *]; done) | assumption, by first | (simp [go_sem, *]; done) | assumption, by first | (simp [go_sem, *]; done) | assumption, by first | (simp [go_sem, *]; done) | assumption, by first | (simp [go_sem, *]; done) | assumption, by first | (simp [go_sem, *]; done) | assumption, by first | (simp [go_sem, *]; done) | assumption, by first | (simp [go_sem, *]; done) | assumption⟩
          clear hK K hHeld
          have hHeld := hHeld2
          clear hHeld2
          try simp only [Act.put, List.setIfInBounds_toArray, List.set_cons_zero, List.set_cons_succ]
          refine wpAnyH_ready (rs := [4]) (by kernel_rfl) (by simp) ?_
          refine AllReadyH.cons (by simp only [List.getElem?_toArray, List.getElem?_cons_zero, List.getElem?_cons_succ]; rfl) (fun K hK => ?_) AllReadyH.nil
          go_simp
          refine hK.out _ _ ?_ (fun hHeld2 => ?_)
          · (try dsimp only); exact ⟨by first | (simp [go_sem, *]; done) | assumption, by first | (simp [go_sem, *]; done) | assumption, by first | (simp [go_sem, *]; done) | assumption, by first | (simp [go_sem, *]; done) | assumption, by first | (simp [go_sem, *]; done) | assumption, by first | (simp [go_sem, *]; done) | assumption, by first | (simp [go_sem, *]; done) | assumption, by first | (simp [go_sem, *]; done) | assumption, by first | (simp [go_sem, *]; done) | assumption, by first | (simp [go_sem, *]; done) | assumption⟩
          clear hK K hHeld
          have hHeld := hHeld2
          clear hHeld2
          try simp only [Act.put, List.setIfInBounds_toArray, List.set_cons_zero, List.set_cons_succ]
          refine wpAnyH_ready (rs := [6]) (by kernel_rfl) (by simp) ?_
          refine AllReadyH.cons (by simp only [List.getElem?_toArray, List.getElem?_cons_zero, List.getElem?_cons_succ]; rfl) (fun K hK => ?_) AllReadyH.nil
          go_simp
          refine hK.out _ _ ?_ (fun hHeld2 => ?_)
          · (try dsimp only); exact ⟨by first | (simp [go_sem, *]; done) | assumption, by first | (simp [go_sem, *]; done) | assumption, by first | (simp [go_sem, *]; done) | assumption, by first | (simp [go_sem, *]; done) | assumption, by first | (simp [go_sem, *]; done) | assumption, by first | (simp [go_sem, *]; done) | assumption, by first | (simp [go_sem, *]; done) | assumption, by first | (simp [go_sem, *]; done) | assumption, by first | (simp [go_sem, *]; done) | assumption, by first | (simp [go_sem, *]; done) | assumption⟩
          clear hK K hHeld
          have hHeld := hHeld2
          clear hHeld2
          try simp only [Act.put, List.setIfInBounds_toArray, List.set_cons_zero, List.set_cons_succ]
          refine wpAnyH_ready (rs := [7]) (by kernel_rfl) (by simp) ?_
          refine AllReadyH.cons (by simp only [List.getElem?_toArray, List.getElem?_cons_zero, List.getElem?_cons_succ]; rfl) (fun K hK => ?_) AllReadyH.nil
          go_simp
          refine hK.out _ _ ?_ (fun hHeld2 => ?_)
          · (try dsimp only); exact ⟨by first | (simp [go_sem, *]; done) | assumption, by first | (simp [go_sem, *]; done) | assumption, by first | (simp [go_sem, *]; done) | assumption, by first | (simp [go_sem, *]; done) | assumption, by first | (simp [go_sem, *]; done) | assumption, by first | (simp [go_sem, *]; done) | assumption, by first | (simp [go_sem, *]; done) | assumption, by first | (simp [go_sem, *]; done) | assumption, by first | (simp [go_sem, *]; done) | assumption, by first | (simp [go_sem, *]; done) | assumption⟩
          clear hK K hHeld
          have hHeld := hHeld2
          clear hHeld2
          try simp only [Act.put, List.setIfInBounds_toArray, List.set_cons_zero, List.set_cons_succ]
          refine wpAnyH_ready (rs := [8]) (by kernel_rfl) (by simp) ?_
          refine AllReadyH.cons (by simp only [List.getElem?_toArray, List.getElem?_cons_zero, List.getElem?_cons_succ]; rfl) (fun K hK => ?_) AllReadyH.nil
          go_simp
          refine hK.out _ _ ?_ (fun hHeld2 => ?_)
          · (try dsimp only); exact ⟨by first | (simp [go_sem, *]; done) | assumption, by first | (simp [go_sem, *]; done) | assumption, by first | (simp [go_sem, *]; done) | assumption, by first | (simp [go_sem, *]; done) | assumption, by first | (simp [go_sem, *]; done) | assumption, by first | (simp [go_sem, *]; done) | assumption, by first | (simp [go_sem, *]; done) | assumption, by first | (simp [go_sem, *]; done) | assumption, by first | (simp [go_sem, *]; done) | assumption, by first | (simp [go_sem, *]; done) | assumption⟩
          clear hK K hHeld
          have hHeld := hHeld2
          clear hHeld2
          try simp only [Act.put, List.setIfInBounds_toArray, List.set_cons_zero, List.set_cons_succ]
          refine wpAnyH_done (by kernel_rfl) ?_ _
          go_wp2
          go_meet
          exact ⟨_, _, _, rfl, rfl, rfl, ⟨by omega, by omega, by omega⟩, ⟨by omega, by omega, by omega⟩, (by repeat (first | (with_reducible exact heap_alloc_new _ _) | (refine blk_newJ ?_; simp; done) | (refine (Below.heap_alloc _ _ _ (by first | (simp; done) | (simp; omega))).trans ?_))), (by repeat (first | (with_reducible exact heap_alloc_new _ _) | (refine blk_newJ ?_; simp; done) | (refine (Below.heap_alloc _ _ _ (by first | (simp; done) | (simp; omega))).trans ?_))), (by repeat (first | (with_reducible exact heap_alloc_new _ _) | (refine blk_newJ ?_; simp; done) | (refine (Below.heap_alloc _ _ _ (by first | (simp; done) | (simp; omega))).trans ?_))), (by repeat (first | (with_reducible exact Below.refl _ _) | (with_reducible assumption) | (with_reducible refine bel_set ?_ (by first | (simp; done) | (simp; omega)) _) | (with_reducible refine bel_alloc ?_ _) | (with_reducible refine bel_drew ?_)))⟩
        refine AllReadyH.cons (by simp only [List.getElem?_toArray, List.getElem?_cons_zero, List.getElem?_cons_succ]; rfl) (fun K hK => ?_) AllReadyH.nil
        go_simp
        refine hK.out _ _ ?_ (fun hHeld2 => ?_)
        · (try dsimp only); exact ⟨by first | (simp [go_sem, *]; done) | assumption, by first | (simp [go_sem, *]; done) | assumption, by first | (simp [go_sem, *]; done) | assumption, by first | (simp [go_sem, *]; done) | assumption, by first | (simp [go_sem, *]; done) | assumption, by first | (simp [go_sem, *]; done) | assumption, by first | (simp [go_sem, *]; done) | assumption, by first | (simp [go_sem, *]; done) | assumption, by first | (simp [go_sem, *]; done) | assumption, by first | (simp [go_sem, *]; done) | assumption⟩
        clear hK K hHeld
        have hHeld := hHeld2
        clear hHeld2
        try simp only [Act.put, List.setIfInBounds_toArray, List.set_cons_zero, List.set_cons_succ]
        refine wpAnyH_ready (rs := [3]) (by kernel_rfl) (by simp) ?_
        refine AllReadyH.cons (by simp only [List.getElem?_toArray, List.getElem?_cons_zero, List.getElem?_cons_succ]; rfl) (fun K hK => ?_) AllReadyH.nil
        go_simp
        refine hK.out _ _ ?_ (fun hHeld2 => ?_)
        · (try dsimp only); exact ⟨by first | (simp [go_sem, *]; done) | assumption, by first | (simp [go_sem, *]; done) | assumption, by first | (simp [go_sem, *]; done) | assumption, by first | (simp [go_sem, *]; done) | assumption, by first | (simp [go_sem, *]; done) | assumption, by first | (simp [go_sem, *]; done) | assumption, by first | (simp [go_sem, *]; done) | assumption, by first | (simp [go_sem, *]; done) | assumption, by first | (simp [go_sem, *]; done) | assumption, by first | (simp [go_sem, *]; done) | assumption⟩
        clear hK K hHeld
        have hHeld := hHeld2
        clear hHeld2
        try simp only [Act.put, List.setIfInBounds_toArray, List.set_cons_zero, List.set_cons_succ]
        refine wpAnyH_ready (rs := [6]) (by kernel_rfl) (by simp) ?_
        refine AllReadyH.cons (by simp only [List.getElem?_toArray, List.getElem?_cons_zero, List.getElem?_cons_succ]; rfl) (fun K hK => ?_) AllReadyH.nil
        go_simp
        refine hK.out _ _ ?_ (fun hHeld2 => ?_)
        · (try dsimp only); exact ⟨by first | (simp [go_sem, *]; done) | assumption, by first | (simp [go_sem, *]; done) | assumption, by first | (simp [go_sem, *]; done) | assumption, by first | (simp [go_sem, *]; done) | assumption, by first | (simp [go_sem, *]; done) | assumption, by first | (simp [go_sem, *]; done) | assumption, by first | (simp [go_sem, *]; done) | assumption, by first | (simp [go_sem, *]; done) | assumption, by first | (simp [go_sem, *]; done) | assumption, by first | (simp [go_sem, *]; done) | assumption⟩
        clear hK K hHeld
        have hHeld := hHeld2
        clear hHeld2
        try simp only [Act.put, List.setIfInBounds_toArray, List.set_cons_zero, List.set_cons_succ]
        refine wpAnyH_ready (rs := [7]) (by kernel_rfl) (by simp) ?_
        refine AllReadyH.cons (by simp only [List.getElem?_toArray, List.getElem?_cons_zero, List.getElem?_cons_succ]; rfl) (fun K hK => ?_) AllReadyH.nil
        go_simp
        refine hK.out _ _ ?_ (fun hHeld2 => ?_)
        · (try dsimp only); exact ⟨by first | (simp [go_sem, *]; done) | assumption, by first | (simp [go_sem, *]; done) | assumption, by first | (simp [go_sem, *]; done) | assumption, by first | (simp [go_sem, *]; done) | assumption, by first | (simp [go_sem, *]; done) | assumption, by first | (simp [go_sem, *]; done) | assumption, by first | (simp [go_sem, *]; done) | assumption, by first | (simp [go_sem, *]; done) | assumption, by first | (simp [go_sem, *]; done) | assumption, by first | (simp [go_sem, *]; done) | assumption⟩
        clear hK K hHeld
        have hHeld := hHeld2
        clear hHeld2
        try simp only [Act.put, List.setIfInBounds_toArray, List.set_cons_zero, List.set_cons_succ]
        refine wpAnyH_ready (rs := [8]) (by kernel_rfl) (by simp) ?_
        refine AllReadyH.cons (by simp only [List.getElem?_toArray, List.getElem?_cons_zero, List.getElem?_cons_succ]; rfl) (fun K hK => ?_) AllReadyH.nil
        go_simp
        refine hK.out _ _ ?_ (fun hHeld2 => ?_)
        · (try dsimp only); exact ⟨by first | (simp [go_sem, *]; done) | assumption, by first | (simp [go_sem, *]; done) | assumption, by first | (simp [go_sem, *]; done) | assumption, by first | (simp [go_sem, *]; done) | assumption, by first | (simp [go_sem, *]; done) | assumption, by first | (simp [go_sem, *]; done) | assumption, by first | (simp [go_sem, *]; done) | assumption, by first | (simp [go_sem, *]; done) | assumption, by first | (simp [go_sem, *]; done) | assumption, by first | (simp [go_sem, *]; done) | assumption⟩
        clear hK K hHeld
        have hHeld := hHeld2
        clear hHeld2
        try simp only [Act.put, List.setIfInBounds_toArray, List.set_cons_zero, List.set_cons_succ]
        refine wpAnyH_done (by kernel_rfl) ?_ _
        go_wp2
        go_meet
        exact ⟨_, _, _, rfl, rfl, rfl, ⟨by omega, by omega, by omega⟩, ⟨by omega, by omega, by omega⟩, (by repeat (first | (with_reducible exact heap_alloc_new _ _) | (refine blk_newJ ?_; simp; done) | (refine (Below.heap_alloc _ _ _ (by first | (simp; done) | (simp; omega))).trans ?_))), (by repeat (first | (with_reducible exact heap_alloc_new _ _) | (refine blk_newJ ?_; simp; done) | (refine (Below.heap_alloc _ _ _ (by first | (simp; done) | (simp; omega))).trans ?_))), (by repeat (first | (with_reducible exact heap_alloc_new _ _) | (refine blk_newJ ?_; simp; done) | (refine (Below.heap_alloc _ _ _ (by first | (simp; done) | (simp; omega))).trans ?_))), (by repeat (first | (with_reducible exact Below.refl _ _) | (with_reducible assumption) | (with_reducible refine bel_set ?_ (by first | (simp; done) | (simp; omega)) _) | (with_reducible refine bel_alloc ?_ _) | (with_reducible refine bel_drew ?_)))⟩
      case rest =>
        rename World => wa
        obtain ⟨B5, B6, B7, rfl, rfl, rfl, ⟨n1, n2, n3⟩, ⟨m1, m2, m3⟩, k5, k6, k7, hba⟩ := hcut
        have hz := okJob_z hj
        have hTT : 0 ≤ T ∧ T ≤ 60 := ⟨by omega, by omega⟩
        have o1 := okJob_is hj (k' := 1) (p' := 0) (by decide) (by rfl)
        have o2 := okJob_is hj (k' := 2) (p' := z) (by decide) (by simp [stepB, inB]; omega)
        have o3 := okJob_is hj (k' := 3) (p' := 0) (by decide) (by rfl)
        have q5 := heap_lt k5
        have q6 := heap_lt k6
        have q7 := heap_lt k7
        have qa : w1.heap.size < wa.heap.size := Nat.lt_of_lt_of_le z4 hba.size
        have e5 : w1.heap.size ≠ B5 := by omega
        have e6 : w1.heap.size ≠ B6 := by omega
        have e7 : w1.heap.size ≠ B7 := by omega
        have n1' := n1.symm
        have n2' := n2.symm
        have n3' := n3.symm
        have s3 : wa.cell? ⟨w1.heap.size, 3, none⟩ = some (.int .i64 z) := (hba.cell (p := ⟨w1.heap.size, 3, none⟩) z4).trans x3
        obtain ⟨au0, bu0⟩ := cells_blk (n := 0) k5 0
        obtain ⟨au1, bu1⟩ := cells_blk (n := 0) k5 1
        obtain ⟨au2, bu2⟩ := cells_blk (n := 0) k5 2
        obtain ⟨au3, bu3⟩ := cells_blk (n := 0) k5 3
        obtain ⟨au4, bu4⟩ := cells_blk (n := 0) k5 4
        obtain ⟨au5, bu5⟩ := cells_blk (n := 0) k5 5
        obtain ⟨au6, bu6⟩ := cells_blk (n := 0) k5 6
        obtain ⟨au7, bu7⟩ := cells_blk (n := 0) k5 7
        obtain ⟨au8, bu8⟩ := cells_blk (n := 0) k5 8
        obtain ⟨au9, bu9⟩ := cells_blk (n := 0) k5 9
        simp only [List.getElem?_toArray, List.getElem?_cons_zero, List.getElem?_cons_succ] at au0 au1 au2 au3 au4 au5 au6 au7 au8 au9
        obtain ⟨av0, bv0⟩ := cells_blk (n := 0) k6 0
        obtain ⟨av1, bv1⟩ := cells_blk (n := 0) k6 1
        obtain ⟨av2, bv2⟩ := cells_blk (n := 0) k6 2
        obtain ⟨av3, bv3⟩ := cells_blk (n := 0) k6 3
        obtain ⟨av4, bv4⟩ := cells_blk (n := 0) k6 4
        obtain ⟨av5, bv5⟩ := cells_blk (n := 0) k6 5
        obtain ⟨av6, bv6⟩ := cells_blk (n := 0) k6 6
        obtain ⟨av7, bv7⟩ := cells_blk (n := 0) k6 7
        obtain ⟨av8, bv8⟩ := cells_blk (n := 0) k6 8
        obtain ⟨av9, bv9⟩ := cells_blk (n := 0) k6 9
        simp only [List.getElem?_toArray, List.getElem?_cons_zero, List.getElem?_cons_succ] at av0 av1 av2 av3 av4 av5 av6 av7 av8 av9
        obtain ⟨ay0, by0⟩ := cells_blk (n := 0) k7 0
        obtain ⟨ay1, by1⟩ := cells_blk (n := 0) k7 1
        obtain ⟨ay2, by2⟩ := cells_blk (n := 0) k7 2
        obtain ⟨ay3, by3⟩ := cells_blk (n := 0) k7 3
        obtain ⟨ay4, by4⟩ := cells_blk (n := 0) k7 4
        obtain ⟨ay5, by5⟩ := cells_blk (n := 0) k7 5
        obtain ⟨ay6, by6⟩ := cells_blk (n := 0) k7 6
        obtain ⟨ay7, by7⟩ := cells_blk (n := 0) k7 7
        obtain ⟨ay8, by8⟩ := cells_blk (n := 0) k7 8
        obtain ⟨ay9, by9⟩ := cells_blk (n := 0) k7 9
        simp only [List.getElem?_toArray, List.getElem?_cons_zero, List.getElem?_cons_succ] at ay0 ay1 ay2 ay3 ay4 ay5 ay6 ay7 ay8 ay9
        have bF : Below w.heap.size w wa := bel_trans hbF hba
        have lb : w.heap.size ≤ w4.heap.size := hbF.size
        have H1 := hide (wins_1 o1 hTT)
        have H2 := hide (wins_2 o2 hTT)
        have H3 := hide (wins_3 o3 hTT)
        have K5 := hide k5
        have K6 := hide k6
        have K7 := hide k7
        clear x0 x1 x2 x3 x4 x5 x6 x7 x8 x9 o1 o2 o3 k5 k6 k7
        go_wp2_with fail
        have g6 : ((((((wa.setCell ⟨B5, 2, none⟩ (.int .i64 1)).setCell ⟨B5, 4, none⟩ (.int .i64 0)).setCell ⟨B6, 2, none⟩ (.int .i64 2)).setCell ⟨B6, 4, none⟩ (.int .i64 z)).setCell ⟨B7, 2, none⟩ (.int .i64 3)).setCell ⟨B7, 4, none⟩ (.int .i64 0)).heap[B6]? = some (.cells #[.int .i64 s, .int .i64 t, .int .i64 2, .int .i64 z, .int .i64 z, .int .i64 l, .int .i64 e, .bool b, .int .i64 v, .int .i64 r] 24 (0, 0)) := ((Below.heap_setCell _ _ _ _ n3).trans ((Below.heap_setCell _ _ _ _ n3).trans (Joins.block_setCell (Joins.block_setCell ((Below.heap_setCell _ _ _ _ n1').trans ((Below.heap_setCell _ _ _ _ n1').trans (unhide K6))) _) _)))
        have g7 : ((((((wa.setCell ⟨B5, 2, none⟩ (.int .i64 1)).setCell ⟨B5, 4, none⟩ (.int .i64 0)).setCell ⟨B6, 2, none⟩ (.int .i64 2)).setCell ⟨B6, 4, none⟩ (.int .i64 z)).setCell ⟨B7, 2, none⟩ (.int .i64 3)).setCell ⟨B7, 4, none⟩ (.int .i64 0)).heap[B7]? = some (.cells #[.int .i64 s, .int .i64 t, .int .i64 3, .int .i64 z, .int .i64 0, .int .i64 l, .int .i64 e, .bool b, .int .i64 v, .int .i64 r] 24 (0, 0)) := (Joins.block_setCell (Joins.block_setCell ((Below.heap_setCell _ _ _ _ n3').trans ((Below.heap_setCell _ _ _ _ n3').trans ((Below.heap_setCell _ _ _ _ n2').trans ((Below.heap_setCell _ _ _ _ n2').trans (unhide K7))))) _) _)
        have bG : Below w.heap.size w ((((((wa.setCell ⟨B5, 2, none⟩ (.int .i64 1)).setCell ⟨B5, 4, none⟩ (.int .i64 0)).setCell ⟨B6, 2, none⟩ (.int .i64 2)).setCell ⟨B6, 4, none⟩ (.int .i64 z)).setCell ⟨B7, 2, none⟩ (.int .i64 3)).setCell ⟨B7, 4, none⟩ (.int .i64 0)) := (by repeat (first | (with_reducible exact Below.refl _ _) | (with_reducible assumption) | (with_reducible refine bel_set ?_ (by first | (simp; done) | (simp; omega)) _) | (with_reducible refine bel_alloc ?_ _) | (with_reducible refine bel_drew ?_)))
        clear au0 bu0 au1 bu1 au2 bu2 au3 bu3 au4 bu4 au5 bu5 au6 bu6 au7 bu7 au8 bu8 au9 bu9 av0 bv0 av1 bv1 av2 bv2 av3 bv3 av4 bv4 av5 bv5 av6 bv6 av7 bv7 av8 bv8 av9 bv9 ay0 by0 ay1 by1 ay2 by2 ay3 by3 ay4 by4 ay5 by5 ay6 by6 ay7 by7 ay8 by8 ay9 by9 s3 bF
        generalize ((((((wa.setCell ⟨B5, 2, none⟩ (.int .i64 1)).setCell ⟨B5, 4, none⟩ (.int .i64 0)).setCell ⟨B6, 2, none⟩ (.int .i64 2)).setCell ⟨B6, 4, none⟩ (.int .i64 z)).setCell ⟨B7, 2, none⟩ (.int .i64 3)).setCell ⟨B7, 4, none⟩ (.int .i64 0)) = wb at g6 g7 bG ⊢
        refine (implwinof_is s t 1 z 0 l e b v r T _ H1).mono ?_
        rintro e' wc ⟨v', rfl, hO1, hbc⟩
        obtain ⟨g1, c1, rfl, ca, cb, lg1, hw1⟩ := own_one hO1
        have p6 := (hbc.block B6 (heap_lt g6)).trans g6
        have p7 := (hbc.block B7 (heap_lt g7)).trans g7
        obtain ⟨x0, f0⟩ := cells_blk (n := 0) p6 0
        obtain ⟨x1, f1⟩ := cells_blk (n := 0) p6 1
        obtain ⟨x2, f2⟩ := cells_blk (n := 0) p6 2
        obtain ⟨x3, f3⟩ := cells_blk (n := 0) p6 3
        obtain ⟨x4, f4⟩ := cells_blk (n := 0) p6 4
        obtain ⟨x5, f5⟩ := cells_blk (n := 0) p6 5
        obtain ⟨x6, f6⟩ := cells_blk (n := 0) p6 6
        obtain ⟨x7, f7⟩ := cells_blk (n := 0) p6 7
        obtain ⟨x8, f8⟩ := cells_blk (n := 0) p6 8
        obtain ⟨x9, f9⟩ := cells_blk (n := 0) p6 9
        simp only [List.getElem?_toArray, List.getElem?_cons_zero, List.getElem?_cons_succ] at x0 x1 x2 x3 x4 x5 x6 x7 x8 x9
        have P6 := hide p6
        have P7 := hide p7
        clear g6 g7 p6 p7 hO1
        have HW1 := hide hw1
        clear hw1
        go_wp2_with fail
        refine (implwinof_is s t 2 z z l e b v r T _ H2).mono ?_
        rintro e' wd ⟨v', rfl, hO2, hbd⟩
        clear x0 f0 x1 f1 x2 f2 x3 f3 x4 f4 x5 f5 x6 f6 x7 f7 x8 f8 x9 f9
        obtain ⟨g2, c2, rfl, da, db, lg2, hw2⟩ := own_one hO2
        have r7 := (hbd.block B7 (heap_lt (unhide P7))).trans (unhide P7)
        obtain ⟨x0, f0⟩ := cells_blk (n := 0) r7 0
        obtain ⟨x1, f1⟩ := cells_blk (n := 0) r7 1
        obtain ⟨x2, f2⟩ := cells_blk (n := 0) r7 2
        obtain ⟨x3, f3⟩ := cells_blk (n := 0) r7 3
        obtain ⟨x4, f4⟩ := cells_blk (n := 0) r7 4
        obtain ⟨x5, f5⟩ := cells_blk (n := 0) r7 5
        obtain ⟨x6, f6⟩ := cells_blk (n := 0) r7 6
        obtain ⟨x7, f7⟩ := cells_blk (n := 0) r7 7
        obtain ⟨x8, f8⟩ := cells_blk (n := 0) r7 8
        obtain ⟨x9, f9⟩ := cells_blk (n := 0) r7 9
        simp only [List.getElem?_toArray, List.getElem?_cons_zero, List.getElem?_cons_succ] at x0 x1 x2 x3 x4 x5 x6 x7 x8 x9
        have R7 := hide r7
        have ea := (hbd.cell (p := ⟨g1, 0, none⟩) lg1).trans ca
        have eb := (hbd.cell (p := ⟨g1, 1, none⟩) lg1).trans cb
        have HW2 := hide hw2
        clear r7 hO2 ca cb da db hw2
        go_wp2_with fail
        refine (implwinof_is s t 3 z 0 l e b v r T _ H3).mono ?_
        rintro e' we ⟨v', rfl, hO3, hbe⟩
        clear x0 f0 x1 f1 x2 f2 x3 f3 x4 f4 x5 f5 x6 f6 x7 f7 x8 f8 x9 f9
        obtain ⟨g3, c3, rfl, ha, hb9, lg3, hw3⟩ := own_one hO3
        have lg1' : g1 < wd.heap.size := Nat.lt_of_lt_of_le lg1 hbd.size
        have lg1'' : g1 < we.heap.size := Nat.lt_of_lt_of_le lg1' hbe.size
        have ia := (hbe.cell (p := ⟨g1, 0, none⟩) lg1').trans ea
        have ib := (hbe.cell (p := ⟨g1, 1, none⟩) lg1').trans eb
        have HA := hide (((unhide HW1).below hbd).below hbe)
        have HB := hide ((unhide HW2).below hbe)
        have bH : Below w.heap.size w we := bel_trans bG (bel_trans hbc (bel_trans hbd hbe))
        clear ea eb hO3 hw3 P6 P7 R7 K5 K6 K7 HW1 HW2 bG hbc hbd hbe
        have hT9 : touchB (T - T % z) (T - T % z + z) T (T + z) = true := by
          have h1 := Int.emod_nonneg T (show z ≠ 0 by omega)
          have h2 := Int.emod_lt_of_pos T (show 0 < z by omega)
          simp [touchB]; omega
        go_wp2_with fail
        refine wp_region_held_drew (S := (fun W => W.cell? ⟨g1, 0, none⟩ = some (.int .i64 (T - T % z)) ∧ W.cell? ⟨g1, 1, none⟩ = some (.int .i64 (T - T % z + z)) ∧ W.cell? ⟨g3, 0, none⟩ = some (.int .i64 T) ∧ W.cell? ⟨g3, 1, none⟩ = some (.int .i64 (T + z)))) (by kernel_rfl) ?_ (fun hHeld => ?_)
        · (try dsimp only); first | exact ⟨wga, wgb, wgc, wgd⟩ | exact ⟨wfa, wfb, wfc, wfd⟩ | exact ⟨by simp [go_sem, *], by simp [go_sem, *], by simp [go_sem, *], by simp [go_sem, *]⟩
        refine wpAnyH_take (i := 0) (v := ?_) (by simp only [List.getElem?_toArray, List.getElem?_cons_zero, List.getElem?_cons_succ]; rfl) (by kernel_rfl) (by kernel_rfl) (by kernel_rfl) (by intro _ _ _ h; exact h) (Or.inl ⟨by rfl, ?_⟩) (by assumption) ?_
        rotate_left
        · (intro w9 hSw; (try dsimp only at hSw); go_simp <;> with_reducible rfl)
        try simp only [Act.put, List.setIfInBounds_toArray, List.set_cons_zero, List.set_cons_succ]
        refine wpAnyH_take (i := 1) (v := ?_) (by simp only [List.getElem?_toArray, List.getElem?_cons_zero, List.getElem?_cons_succ]; rfl) (by kernel_rfl) (by kernel_rfl) (by kernel_rfl) (by intro _ _ _ h; exact h) (Or.inl ⟨by rfl, ?_⟩) (by assumption) ?_
        rotate_left
        · (intro w9 hSw; (try dsimp only at hSw); go_simp <;> with_reducible rfl)
        try simp only [Act.put, List.setIfInBounds_toArray, List.set_cons_zero, List.set_cons_succ]
        refine wpAnyH_take (i := 2) (v := ?_) (by simp only [List.getElem?_toArray, List.getElem?_cons_zero, List.getElem?_cons_succ]; rfl) (by kernel_rfl) (by kernel_rfl) (by kernel_rfl) (by intro _ _ _ h; exact h) (Or.inl ⟨by rfl, ?_⟩) (by assumption) ?_
        rotate_left
        · (intro w9 hSw; (try dsimp only at hSw); go_simp <;> with_reducible rfl)
        try simp only [Act.put, List.setIfInBounds_toArray, List.set_cons_zero, List.set_cons_succ]
        refine wpAnyH_take (i := 3) (v := ?_) (by simp only [List.getElem?_toArray, List.getElem?_cons_zero, List.getElem?_cons_succ]; rfl) (by kernel_rfl) (by kernel_rfl) (by kernel_rfl) (by intro _ _ _ h; exact h) (Or.inl ⟨by rfl, ?_⟩) (by assumption) ?_
        rotate_left
        · (intro w9 hSw; (try dsimp only at hSw); go_simp <;> with_reducible rfl)
        try simp only [Act.put, List.setIfInBounds_toArray, List.set_cons_zero, List.set_cons_succ]
        refine wpAnyH_take (i := 4) (v := ?_) (by simp only [List.getElem?_toArray, List.getElem?_cons_zero, List.getElem?_cons_succ]; rfl) (by kernel_rfl) (by kernel_rfl) (by kernel_rfl) (by intro _ _ _ h; exact h) (Or.inl ⟨by rfl, ?_⟩) (by assumption) ?_
        rotate_left
        · (intro w9 hSw; (try dsimp only at hSw); go_simp <;> with_reducible rfl)
        try simp only [Act.put, List.setIfInBounds_toArray, List.set_cons_zero, List.set_cons_succ]
        refine wpAnyH_take (i := 5) (v := ?_) (by simp only [List.getElem?_toArray, List.getElem?_cons_zero, List.getElem?_cons_succ]; rfl) (by kernel_rfl) (by kernel_rfl) (by kernel_rfl) (by intro _ _ _ h; exact h) (Or.inl ⟨by rfl, ?_⟩) (by assumption) ?_
        rotate_left
        · (intro w9 hSw; (try dsimp only at hSw); go_simp <;> with_reducible rfl)
        try simp only [Act.put, List.setIfInBounds_toArray, List.set_cons_zero, List.set_cons_succ]
        refine wpAnyH_ready (rs := [6]) (by kernel_rfl) (by simp) ?_
        refine AllReadyH.cons (by simp only [List.getElem?_toArray, List.getElem?_cons_zero, List.getElem?_cons_succ]; rfl) (fun K hK => ?_) AllReadyH.nil
        go_simp
        (go_at_call 8; refine (frwins_any (some ⟨g1, 0, none⟩) (some ⟨g2, 0, none⟩) 1 c1 c2 _ we.drew ((unhide HA).below (bel_drew (Below.refl _ _))) ((unhide HB).below (bel_drew (Below.refl _ _)))).mono ?_; rintro e' wf ⟨rfl, hbf⟩; have wfa : wf.cell? ⟨g1, 0, none⟩ = some (.int .i64 (T - T % z)) := (hbf.cell (p := ⟨g1, 0, none⟩) lg1'').trans ia; have wfb : wf.cell? ⟨g1, 1, none⟩ = some (.int .i64 (T - T % z + z)) := (hbf.cell (p := ⟨g1, 1, none⟩) lg1'').trans ib; have wfc : wf.cell? ⟨g3, 0, none⟩ = some (.int .i64 T) := (hbf.cell (p := ⟨g3, 0, none⟩) lg3).trans ha; have wfd : wf.cell? ⟨g3, 1, none⟩ = some (.int .i64 (T + z)) := (hbf.cell (p := ⟨g3, 1, none⟩) lg3).trans hb9; have wfl1 : g1 < wf.heap.size := Nat.lt_of_lt_of_le lg1'' hbf.size; have wfl3 : g3 < wf.heap.size := Nat.lt_of_lt_of_le lg3 hbf.size)
        (try go_wp2_with fail)
        refine hK.out _ _ ?_ (fun hHeld2 => ?_)
        · (try dsimp only); first | exact ⟨wga, wgb, wgc, wgd⟩ | exact ⟨wfa, wfb, wfc, wfd⟩ | exact ⟨by simp [go_sem, *], by simp [go_sem, *], by simp [go_sem, *], by simp [go_sem, *]⟩
        clear hK K hHeld
        have hHeld := hHeld2
        clear hHeld2
        try simp only [Act.put, List.setIfInBounds_toArray, List.set_cons_zero, List.set_cons_succ]
        refine wpAnyH_take (i := 7) (v := ?_) (by simp only [List.getElem?_toArray, List.getElem?_cons_zero, List.getElem?_cons_succ]; rfl) (by kernel_rfl) (by kernel_rfl) (by kernel_rfl) (by intro _ _ _ h; exact h) (Or.inl ⟨by rfl, ?_⟩) (by assumption) ?_
        rotate_left
        · (intro w9 hSw; (try dsimp only at hSw); go_simp <;> with_reducible rfl)
        try simp only [Act.put, List.setIfInBounds_toArray, List.set_cons_zero, List.set_cons_succ]
        refine wpAnyH_take (i := 8) (v := ?_) (by simp only [List.getElem?_toArray, List.getElem?_cons_zero, List.getElem?_cons_succ]; rfl) (by kernel_rfl) (by kernel_rfl) (by kernel_rfl) (by intro _ _ _ h; exact h) (Or.inl ⟨by rfl, ?_⟩) (by assumption) ?_
        rotate_left
        · (intro w9 hSw; (try dsimp only at hSw); go_simp <;> with_reducible rfl)
        try simp only [Act.put, List.setIfInBounds_toArray, List.set_cons_zero, List.set_cons_succ]
        refine wpAnyH_take (i := 9) (v := ?_) (by simp only [List.getElem?_toArray, List.getElem?_cons_zero, List.getElem?_cons_succ]; rfl) (by kernel_rfl) (by kernel_rfl) (by kernel_rfl) (by intro _ _ _ h; exact h) (Or.inl ⟨by rfl, ?_⟩) (by assumption) ?_
        rotate_left
        · (intro w9 hSw; (try dsimp only at hSw); go_simp <;> with_reducible rfl)
        try simp only [Act.put, List.setIfInBounds_toArray, List.set_cons_zero, List.set_cons_succ]
        refine wpAnyH_take (i := 10) (v := ?_) (by simp only [List.getElem?_toArray, List.getElem?_cons_zero, List.getElem?_cons_succ]; rfl) (by kernel_rfl) (by kernel_rfl) (by kernel_rfl) (by intro _ _ _ h; exact h) (Or.inl ⟨by rfl, ?_⟩) (by assumption) ?_
        rotate_left
        · (intro w9 hSw; (try dsimp only at hSw); go_simp <;> with_reducible rfl)
        try simp only [Act.put, List.setIfInBounds_toArray, List.set_cons_zero, List.set_cons_succ]
        refine wpAnyH_take (i := 11) (v := ?_) (by simp only [List.getElem?_toArray, List.getElem?_cons_zero, List.getElem?_cons_succ]; rfl) (by kernel_rfl) (by kernel_rfl) (by kernel_rfl) (by intro _ _ _ h; exact h) (Or.inl ⟨by rfl, ?_⟩) (by assumption) ?_
        rotate_left
        · (intro w9 hSw; (try dsimp only at hSw); go_simp <;> with_reducible rfl)
        try simp only [Act.put, List.setIfInBounds_toArray, List.set_cons_zero, List.set_cons_succ]
        refine wpAnyH_take (i := 12) (v := ?_) (by simp only [List.getElem?_toArray, List.getElem?_cons_zero, List.getElem?_cons_succ]; rfl) (by kernel_rfl) (by kernel_rfl) (by kernel_rfl) (by intro _ _ _ h; exact h) (Or.inl ⟨by rfl, ?_⟩) (by assumption) ?_
        rotate_left
        · (intro w9 hSw; (try dsimp only at hSw); go_simp <;> with_reducible rfl)
        try simp only [Act.put, List.setIfInBounds_toArray, List.set_cons_zero, List.set_cons_succ]
        refine wpAnyH_take (i := 13) (v := ?_) (by simp only [List.getElem?_toArray, List.getElem?_cons_zero, List.getElem?_cons_succ]; rfl) (by kernel_rfl) (by kernel_rfl) (by kernel_rfl) (by intro _ _ _ h; exact h) (Or.inl ⟨by rfl, ?_⟩) (by assumption) ?_
        rotate_left
        · (intro w9 hSw; (try dsimp only at hSw); go_simp <;> with_reducible rfl)
        try simp only [Act.put, List.setIfInBounds_toArray, List.set_cons_zero, List.set_cons_succ]
        refine wpAnyH_take (i := 14) (v := ?_) (by simp only [List.getElem?_toArray, List.getElem?_cons_zero, List.getElem?_cons_succ]; rfl) (by kernel_rfl) (by kernel_rfl) (by kernel_rfl) (by intro _ _ _ h; exact h) (Or.inl ⟨by rfl, ?_⟩) (by assumption) ?_
        rotate_left
        · (intro w9 hSw; (try dsimp only at hSw); go_simp <;> with_reducible rfl)
        try simp only [Act.put, List.setIfInBounds_toArray, List.set_cons_zero, List.set_cons_succ]
        refine wpAnyH_take (i := 15) (v := ?_) (by simp only [List.getElem?_toArray, List.getElem?_cons_zero, List.getElem?_cons_succ]; rfl) (by kernel_rfl) (by kernel_rfl) (by kernel_rfl) (by intro _ _ _ h; exact h) (Or.inl ⟨by rfl, ?_⟩) (by assumption) ?_
        rotate_left
        · (intro w9 hSw; (try dsimp only at hSw); go_simp <;> with_reducible rfl)
        try simp only [Act.put, List.setIfInBounds_toArray, List.set_cons_zero, List.set_cons_succ]
        refine wpAnyH_take (i := 16) (v := ?_) (by simp only [List.getElem?_toArray, List.getElem?_cons_zero, List.getElem?_cons_succ]; rfl) (by kernel_rfl) (by kernel_rfl) (by kernel_rfl) (by intro _ _ _ h; exact h) (Or.inl ⟨by rfl, ?_⟩) (by assumption) ?_
        rotate_left
        · (intro w9 hSw; (try dsimp only at hSw); go_simp <;> with_reducible rfl)
        try simp only [Act.put, List.setIfInBounds_toArray, List.set_cons_zero, List.set_cons_succ]
        refine wpAnyH_take (i := 17) (v := ?_) (by simp only [List.getElem?_toArray, List.getElem?_cons_zero, List.getElem?_cons_succ]; rfl) (by kernel_rfl) (by kernel_rfl) (by kernel_rfl) (by intro _ _ _ h; exact h) (Or.inl ⟨by rfl, ?_⟩) (by assumption) ?_
        rotate_left
        · (intro w9 hSw; (try dsimp only at hSw); go_simp <;> with_reducible rfl)
        try simp only [Act.put, List.setIfInBounds_toArray, List.set_cons_zero, List.set_cons_succ]
        refine wpAnyH_take (i := 18) (v := ?_) (by simp only [List.getElem?_toArray, List.getElem?_cons_zero, List.getElem?_cons_succ]; rfl) (by kernel_rfl) (by kernel_rfl) (by kernel_rfl) (by intro _ _ _ h; exact h) (Or.inl ⟨by rfl, ?_⟩) (by assumption) ?_
        rotate_left
        · (intro w9 hSw; (try dsimp only at hSw); go_simp <;> with_reducible rfl)
        try simp only [Act.put, List.setIfInBounds_toArray, List.set_cons_zero, List.set_cons_succ]
        refine wpAnyH_take (i := 19) (v := ?_) (by simp only [List.getElem?_toArray, List.getElem?_cons_zero, List.getElem?_cons_succ]; rfl) (by kernel_rfl) (by kernel_rfl) (by kernel_rfl) (by intro _ _ _ h; exact h) (Or.inl ⟨by rfl, ?_⟩) (by assumption) ?_
        rotate_left
        · (intro w9 hSw; (try dsimp only at hSw); go_simp <;> with_reducible rfl)
        try simp only [Act.put, List.setIfInBounds_toArray, List.set_cons_zero, List.set_cons_succ]
        refine wpAnyH_ready (rs := [20]) (by kernel_rfl) (by simp) ?_
        refine AllReadyH.cons (by simp only [List.getElem?_toArray, List.getElem?_cons_zero, List.getElem?_cons_succ]; rfl) (fun K hK => ?_) AllReadyH.nil
        go_simp
        (go_at_call 17; refine (touch_is (T - T % z) (T - T % z + z) T (T + z) _ (hide hT9)).mono ?_; rintro e' wg ⟨rfl, hbg⟩; have wga : wg.cell? ⟨g1, 0, none⟩ = some (.int .i64 (T - T % z)) := (hbg.cell (p := ⟨g1, 0, none⟩) wfl1).trans wfa; have wgb : wg.cell? ⟨g1, 1, none⟩ = some (.int .i64 (T - T % z + z)) := (hbg.cell (p := ⟨g1, 1, none⟩) wfl1).trans wfb; have wgc : wg.cell? ⟨g3, 0, none⟩ = some (.int .i64 T) := (hbg.cell (p := ⟨g3, 0, none⟩) wfl3).trans wfc; have wgd : wg.cell? ⟨g3, 1, none⟩ = some (.int .i64 (T + z)) := (hbg.cell (p := ⟨g3, 1, none⟩) wfl3).trans wfd; have wgl1 : g1 < wg.heap.size := Nat.lt_of_lt_of_le wfl1 hbg.size; have wgl3 : g3 < wg.heap.size := Nat.lt_of_lt_of_le wfl3 hbg.size)
        (try go_wp2_with fail)
        refine hK.out _ _ ?_ (fun hHeld2 => ?_)
        · (try dsimp only); first | exact ⟨wga, wgb, wgc, wgd⟩ | exact ⟨wfa, wfb, wfc, wfd⟩ | exact ⟨by simp [go_sem, *], by simp [go_sem, *], by simp [go_sem, *], by simp [go_sem, *]⟩
        clear hK K hHeld
        have hHeld := hHeld2
        clear hHeld2
        try simp only [Act.put, List.setIfInBounds_toArray, List.set_cons_zero, List.set_cons_succ]
        refine wpAnyH_take (i := 21) (v := ?_) (by simp only [List.getElem?_toArray, List.getElem?_cons_zero, List.getElem?_cons_succ]; rfl) (by kernel_rfl) (by kernel_rfl) (by kernel_rfl) (by intro _ _ _ h; exact h) (Or.inl ⟨by rfl, ?_⟩) (by assumption) ?_
        rotate_left
        · (intro w9 hSw; (try dsimp only at hSw); go_simp <;> with_reducible rfl)
        try simp only [Act.put, List.setIfInBounds_toArray, List.set_cons_zero, List.set_cons_succ]
        refine wpAnyH_take (i := 22) (v := ?_) (by simp only [List.getElem?_toArray, List.getElem?_cons_zero, List.getElem?_cons_succ]; rfl) (by kernel_rfl) (by kernel_rfl) (by kernel_rfl) (by intro _ _ _ h; exact h) (Or.inl ⟨by rfl, ?_⟩) (by assumption) ?_
        rotate_left
        · (intro w9 hSw; (try dsimp only at hSw); go_simp <;> with_reducible rfl)
        try simp only [Act.put, List.setIfInBounds_toArray, List.set_cons_zero, List.set_cons_succ]
        refine wpAnyH_take (i := 23) (v := ?_) (by simp only [List.getElem?_toArray, List.getElem?_cons_zero, List.getElem?_cons_succ]; rfl) (by kernel_rfl) (by kernel_rfl) (by kernel_rfl) (by intro _ _ _ h; exact h) (Or.inl ⟨by rfl, ?_⟩) (by assumption) ?_
        rotate_left
        · (intro w9 hSw; (try dsimp only at hSw); go_simp <;> with_reducible rfl)
        try simp only [Act.put, List.setIfInBounds_toArray, List.set_cons_zero, List.set_cons_succ]
        refine wpAnyH_take (i := 24) (v := ?_) (by simp only [List.getElem?_toArray, List.getElem?_cons_zero, List.getElem?_cons_succ]; rfl) (by kernel_rfl) (by kernel_rfl) (by kernel_rfl) (by intro _ _ _ h; exact h) (Or.inl ⟨by rfl, ?_⟩) (by assumption) ?_
        rotate_left
        · (intro w9 hSw; (try dsimp only at hSw); go_simp <;> with_reducible rfl)
        try simp only [Act.put, List.setIfInBounds_toArray, List.set_cons_zero, List.set_cons_succ]
        refine wpAnyH_take (i := 25) (v := ?_) (by simp only [List.getElem?_toArray, List.getElem?_cons_zero, List.getElem?_cons_succ]; rfl) (by kernel_rfl) (by kernel_rfl) (by kernel_rfl) (by intro _ _ _ h; exact h) (Or.inl ⟨by rfl, ?_⟩) (by assumption) ?_
        rotate_left
        · (intro w9 hSw; (try dsimp only at hSw); go_simp <;> with_reducible rfl)
        try simp only [Act.put, List.setIfInBounds_toArray, List.set_cons_zero, List.set_cons_succ]
        refine wpAnyH_take (i := 26) (v := ?_) (by simp only [List.getElem?_toArray, List.getElem?_cons_zero, List.getElem?_cons_succ]; rfl) (by kernel_rfl) (by kernel_rfl) (by kernel_rfl) (by intro _ _ _ h; exact h) (Or.inl ⟨by rfl, ?_⟩) (by assumption) ?_
        rotate_left
        · (intro w9 hSw; (try dsimp only at hSw); go_simp <;> with_reducible rfl)
        try simp only [Act.put, List.setIfInBounds_toArray, List.set_cons_zero, List.set_cons_succ]
        refine wpAnyH_take (i := 27) (v := ?_) (by simp only [List.getElem?_toArray, List.getElem?_cons_zero, List.getElem?_cons_succ]; rfl) (by kernel_rfl) (by kernel_rfl) (by kernel_rfl) (by intro _ _ _ h; exact h) (Or.inl ⟨by rfl, ?_⟩) (by assumption) ?_
        rotate_left
        · (intro w9 hSw; (try dsimp only at hSw); go_simp <;> with_reducible rfl)
        try simp only [Act.put, List.setIfInBounds_toArray, List.set_cons_zero, List.set_cons_succ]
        refine wpAnyH_take (i := 28) (v := ?_) (by simp only [List.getElem?_toArray, List.getElem?_cons_zero, List.getElem?_cons_succ]; rfl) (by kernel_rfl) (by kernel_rfl) (by kernel_rfl) (by intro _ _ _ h; exact h) (Or.inl ⟨by rfl, ?_⟩) (by assumption) ?_
        rotate_left
        · (intro w9 hSw; (try dsimp only at hSw); go_simp <;> with_reducible rfl)
        try simp only [Act.put, List.setIfInBounds_toArray, List.set_cons_zero, List.set_cons_succ]
        refine wpAnyH_take (i := 29) (v := ?_) (by simp only [List.getElem?_toArray, List.getElem?_cons_zero, List.getElem?_cons_succ]; rfl) (by kernel_rfl) (by kernel_rfl) (by kernel_rfl) (by intro _ _ _ h; exact h) (Or.inl ⟨by rfl, ?_⟩) (by assumption) ?_
        rotate_left
        · (intro w9 hSw; (try dsimp only at hSw); go_simp <;> with_reducible rfl)
        try simp only [Act.put, List.setIfInBounds_toArray, List.set_cons_zero, List.set_cons_succ]
        refine wpAnyH_take (i := 30) (v := ?_) (by simp only [List.getElem?_toArray, List.getElem?_cons_zero, List.getElem?_cons_succ]; rfl) (by kernel_rfl) (by kernel_rfl) (by kernel_rfl) (by intro _ _ _ h; exact h) (Or.inl ⟨by rfl, ?_⟩) (by assumption) ?_
        rotate_left
        · (intro w9 hSw; (try dsimp only at hSw); go_simp <;> with_reducible rfl)
        try simp only [Act.put, List.setIfInBounds_toArray, List.set_cons_zero, List.set_cons_succ]
        refine wpAnyH_done (by kernel_rfl) ?_ _
        go_wp2
        go_ret
        exact ⟨by simp, bel_trans bH (bel_trans (bel_drew (Below.refl _ _)) (bel_trans hbf hbg))⟩
  · go_enter Try.func5, Try.ntmps5
    go_wp2
    go_ret
    exact ⟨rfl, Below.refl _ _⟩
end Go.Proofs.Ytijgbahmlldffaa
