/- Proved here: what the functions on two windows answer, in the program and in the specification, at every argument. -/
import Derived.Test.YtflignpbboiahaaWin
import Derived.Deep.RegionHeld3
import Derived.Deep.DeepCutAuto
namespace Go.Proofs.Ytflignpbboiahaa
open Go.ChangeShapes Go.WideShapes Go.ChangeAt Go.RowKit
set_option linter.unusedVariables false

/-- Whether two windows touch. -/
def touchB (a b c d : Int) : Bool := decide (a < d) && decide (c < b)

theorem hd_2_2 {b0 b1 o0x0 o0x1 o1x0 o1x1 : Nat} {v0x0 v0x1 v1x0 v1x1 : Value} {W W' : World} (h : ((W.cell? ⟨b0, o0x0, none⟩ = some (v0x0) ∧ W.cell? ⟨b0, o0x1, none⟩ = some (v0x1) ∧ W.cell? ⟨b1, o1x0, none⟩ = some (v1x0) ∧ W.cell? ⟨b1, o1x1, none⟩ = some (v1x1)) ∧ b0 < W.heap.size ∧ b1 < W.heap.size)) (hb : Below W.heap.size W W') : ((W'.cell? ⟨b0, o0x0, none⟩ = some (v0x0) ∧ W'.cell? ⟨b0, o0x1, none⟩ = some (v0x1) ∧ W'.cell? ⟨b1, o1x0, none⟩ = some (v1x0) ∧ W'.cell? ⟨b1, o1x1, none⟩ = some (v1x1)) ∧ b0 < W'.heap.size ∧ b1 < W'.heap.size) := by
  obtain ⟨⟨h0, h1, h2, h3⟩, s0, s1⟩ := h
  refine ⟨⟨?_, ?_, ?_, ?_⟩, Nat.lt_of_lt_of_le s0 hb.size, Nat.lt_of_lt_of_le s1 hb.size⟩
  · rw [hb.cell s0]; exact h0
  · rw [hb.cell s0]; exact h1
  · rw [hb.cell s1]; exact h2
  · rw [hb.cell s1]; exact h3

theorem hd_2_2_set {b0 b1 o0x0 o0x1 o1x0 o1x1 : Nat} {v0x0 v0x1 v1x0 v1x1 : Value} {W : World} {p : Addr} (h : ((W.cell? ⟨b0, o0x0, none⟩ = some (v0x0) ∧ W.cell? ⟨b0, o0x1, none⟩ = some (v0x1) ∧ W.cell? ⟨b1, o1x0, none⟩ = some (v1x0) ∧ W.cell? ⟨b1, o1x1, none⟩ = some (v1x1)) ∧ b0 < W.heap.size ∧ b1 < W.heap.size)) (p0 : p.block ≠ b0) (p1 : p.block ≠ b1) (u : Value) : (((W.setCell p u).cell? ⟨b0, o0x0, none⟩ = some (v0x0) ∧ (W.setCell p u).cell? ⟨b0, o0x1, none⟩ = some (v0x1) ∧ (W.setCell p u).cell? ⟨b1, o1x0, none⟩ = some (v1x0) ∧ (W.setCell p u).cell? ⟨b1, o1x1, none⟩ = some (v1x1)) ∧ b0 < (W.setCell p u).heap.size ∧ b1 < (W.setCell p u).heap.size) := by
  obtain ⟨⟨h0, h1, h2, h3⟩, s0, s1⟩ := h
  have hb : W.heap.size ≤ (W.setCell p u).heap.size := by simp [World.setCell]
  refine ⟨⟨?_, ?_, ?_, ?_⟩, Nat.lt_of_lt_of_le s0 hb, Nat.lt_of_lt_of_le s1 hb⟩
  · rw [cell_set_ne p0]; exact h0
  · rw [cell_set_ne p0]; exact h1
  · rw [cell_set_ne p1]; exact h2
  · rw [cell_set_ne p1]; exact h3

theorem hd_2_2_re {b0 b1 o0x0 o0x1 o1x0 o1x1 : Nat} {v0x0 v0x1 v1x0 v1x1 : Value} {W : World} {o o' : Obj} (h : (((W.alloc o).cell? ⟨b0, o0x0, none⟩ = some (v0x0) ∧ (W.alloc o).cell? ⟨b0, o0x1, none⟩ = some (v0x1) ∧ (W.alloc o).cell? ⟨b1, o1x0, none⟩ = some (v1x0) ∧ (W.alloc o).cell? ⟨b1, o1x1, none⟩ = some (v1x1)) ∧ b0 < (W.alloc o).heap.size ∧ b1 < (W.alloc o).heap.size)) (p0 : b0 < W.heap.size) (p1 : b1 < W.heap.size) : (((W.alloc o').cell? ⟨b0, o0x0, none⟩ = some (v0x0) ∧ (W.alloc o').cell? ⟨b0, o0x1, none⟩ = some (v0x1) ∧ (W.alloc o').cell? ⟨b1, o1x0, none⟩ = some (v1x0) ∧ (W.alloc o').cell? ⟨b1, o1x1, none⟩ = some (v1x1)) ∧ b0 < (W.alloc o').heap.size ∧ b1 < (W.alloc o').heap.size) := by
  obtain ⟨⟨h0, h1, h2, h3⟩, s0, s1⟩ := h
  have hb : Below W.heap.size (W.alloc o) (W.alloc o') := bel_re W o o'
  refine ⟨⟨?_, ?_, ?_, ?_⟩, Nat.lt_of_lt_of_le s0 hb.size, Nat.lt_of_lt_of_le s1 hb.size⟩
  · rw [hb.cell p0]; exact h0
  · rw [hb.cell p0]; exact h1
  · rw [hb.cell p1]; exact h2
  · rw [hb.cell p1]; exact h3

theorem hd_2_2_2 {b0 b1 b2 o0x0 o0x1 o1x0 o1x1 o2x0 o2x1 : Nat} {v0x0 v0x1 v1x0 v1x1 v2x0 v2x1 : Value} {W W' : World} (h : ((W.cell? ⟨b0, o0x0, none⟩ = some (v0x0) ∧ W.cell? ⟨b0, o0x1, none⟩ = some (v0x1) ∧ W.cell? ⟨b1, o1x0, none⟩ = some (v1x0) ∧ W.cell? ⟨b1, o1x1, none⟩ = some (v1x1) ∧ W.cell? ⟨b2, o2x0, none⟩ = some (v2x0) ∧ W.cell? ⟨b2, o2x1, none⟩ = some (v2x1)) ∧ b0 < W.heap.size ∧ b1 < W.heap.size ∧ b2 < W.heap.size)) (hb : Below W.heap.size W W') : ((W'.cell? ⟨b0, o0x0, none⟩ = some (v0x0) ∧ W'.cell? ⟨b0, o0x1, none⟩ = some (v0x1) ∧ W'.cell? ⟨b1, o1x0, none⟩ = some (v1x0) ∧ W'.cell? ⟨b1, o1x1, none⟩ = some (v1x1) ∧ W'.cell? ⟨b2, o2x0, none⟩ = some (v2x0) ∧ W'.cell? ⟨b2, o2x1, none⟩ = some (v2x1)) ∧ b0 < W'.heap.size ∧ b1 < W'.heap.size ∧ b2 < W'.heap.size) := by
  obtain ⟨⟨h0, h1, h2, h3, h4, h5⟩, s0, s1, s2⟩ := h
  refine ⟨⟨?_, ?_, ?_, ?_, ?_, ?_⟩, Nat.lt_of_lt_of_le s0 hb.size, Nat.lt_of_lt_of_le s1 hb.size, Nat.lt_of_lt_of_le s2 hb.size⟩
  · rw [hb.cell s0]; exact h0
  · rw [hb.cell s0]; exact h1
  · rw [hb.cell s1]; exact h2
  · rw [hb.cell s1]; exact h3
  · rw [hb.cell s2]; exact h4
  · rw [hb.cell s2]; exact h5

theorem hd_2_2_2_set {b0 b1 b2 o0x0 o0x1 o1x0 o1x1 o2x0 o2x1 : Nat} {v0x0 v0x1 v1x0 v1x1 v2x0 v2x1 : Value} {W : World} {p : Addr} (h : ((W.cell? ⟨b0, o0x0, none⟩ = some (v0x0) ∧ W.cell? ⟨b0, o0x1, none⟩ = some (v0x1) ∧ W.cell? ⟨b1, o1x0, none⟩ = some (v1x0) ∧ W.cell? ⟨b1, o1x1, none⟩ = some (v1x1) ∧ W.cell? ⟨b2, o2x0, none⟩ = some (v2x0) ∧ W.cell? ⟨b2, o2x1, none⟩ = some (v2x1)) ∧ b0 < W.heap.size ∧ b1 < W.heap.size ∧ b2 < W.heap.size)) (p0 : p.block ≠ b0) (p1 : p.block ≠ b1) (p2 : p.block ≠ b2) (u : Value) : (((W.setCell p u).cell? ⟨b0, o0x0, none⟩ = some (v0x0) ∧ (W.setCell p u).cell? ⟨b0, o0x1, none⟩ = some (v0x1) ∧ (W.setCell p u).cell? ⟨b1, o1x0, none⟩ = some (v1x0) ∧ (W.setCell p u).cell? ⟨b1, o1x1, none⟩ = some (v1x1) ∧ (W.setCell p u).cell? ⟨b2, o2x0, none⟩ = some (v2x0) ∧ (W.setCell p u).cell? ⟨b2, o2x1, none⟩ = some (v2x1)) ∧ b0 < (W.setCell p u).heap.size ∧ b1 < (W.setCell p u).heap.size ∧ b2 < (W.setCell p u).heap.size) := by
  obtain ⟨⟨h0, h1, h2, h3, h4, h5⟩, s0, s1, s2⟩ := h
  have hb : W.heap.size ≤ (W.setCell p u).heap.size := by simp [World.setCell]
  refine ⟨⟨?_, ?_, ?_, ?_, ?_, ?_⟩, Nat.lt_of_lt_of_le s0 hb, Nat.lt_of_lt_of_le s1 hb, Nat.lt_of_lt_of_le s2 hb⟩
  · rw [cell_set_ne p0]; exact h0
  · rw [cell_set_ne p0]; exact h1
  · rw [cell_set_ne p1]; exact h2
  · rw [cell_set_ne p1]; exact h3
  · rw [cell_set_ne p2]; exact h4
  · rw [cell_set_ne p2]; exact h5

theorem hd_2_2_2_re {b0 b1 b2 o0x0 o0x1 o1x0 o1x1 o2x0 o2x1 : Nat} {v0x0 v0x1 v1x0 v1x1 v2x0 v2x1 : Value} {W : World} {o o' : Obj} (h : (((W.alloc o).cell? ⟨b0, o0x0, none⟩ = some (v0x0) ∧ (W.alloc o).cell? ⟨b0, o0x1, none⟩ = some (v0x1) ∧ (W.alloc o).cell? ⟨b1, o1x0, none⟩ = some (v1x0) ∧ (W.alloc o).cell? ⟨b1, o1x1, none⟩ = some (v1x1) ∧ (W.alloc o).cell? ⟨b2, o2x0, none⟩ = some (v2x0) ∧ (W.alloc o).cell? ⟨b2, o2x1, none⟩ = some (v2x1)) ∧ b0 < (W.alloc o).heap.size ∧ b1 < (W.alloc o).heap.size ∧ b2 < (W.alloc o).heap.size)) (p0 : b0 < W.heap.size) (p1 : b1 < W.heap.size) (p2 : b2 < W.heap.size) : (((W.alloc o').cell? ⟨b0, o0x0, none⟩ = some (v0x0) ∧ (W.alloc o').cell? ⟨b0, o0x1, none⟩ = some (v0x1) ∧ (W.alloc o').cell? ⟨b1, o1x0, none⟩ = some (v1x0) ∧ (W.alloc o').cell? ⟨b1, o1x1, none⟩ = some (v1x1) ∧ (W.alloc o').cell? ⟨b2, o2x0, none⟩ = some (v2x0) ∧ (W.alloc o').cell? ⟨b2, o2x1, none⟩ = some (v2x1)) ∧ b0 < (W.alloc o').heap.size ∧ b1 < (W.alloc o').heap.size ∧ b2 < (W.alloc o').heap.size) := by
  obtain ⟨⟨h0, h1, h2, h3, h4, h5⟩, s0, s1, s2⟩ := h
  have hb : Below W.heap.size (W.alloc o) (W.alloc o') := bel_re W o o'
  refine ⟨⟨?_, ?_, ?_, ?_, ?_, ?_⟩, Nat.lt_of_lt_of_le s0 hb.size, Nat.lt_of_lt_of_le s1 hb.size, Nat.lt_of_lt_of_le s2 hb.size⟩
  · rw [hb.cell p0]; exact h0
  · rw [hb.cell p0]; exact h1
  · rw [hb.cell p1]; exact h2
  · rw [hb.cell p1]; exact h3
  · rw [hb.cell p2]; exact h4
  · rw [hb.cell p2]; exact h5

theorem touches_any (a b c d : Int) (w : World) : Calls Try.prog 54 #[.agg #[.int .i64 a, .int .i64 b], .agg #[.int .i64 c, .int .i64 d]] w fun e w' => e = .returned (.bool (touchB a b c d)) ∧ Below w.heap.size w w' := by
  by_cases h1 : a < d
  · by_cases h2 : c < b
    · have h3 : Hid (touchB a b c d = true) := hide (by simp only [touchB]; simp [h1, h2])
      go_enter Try.func54, Try.ntmps54
      go_wp2
      go_ret
      exact ⟨ret_b (unhide h3).symm, bel_alloc (bel_one _ _) _⟩
    · have h3 : Hid (touchB a b c d = false) := hide (by simp only [touchB]; simp [h1, h2])
      go_enter Try.func54, Try.ntmps54
      go_wp2
      go_ret
      exact ⟨ret_b (unhide h3).symm, bel_alloc (bel_one _ _) _⟩
  · have h3 : Hid (touchB a b c d = false) := hide (by simp only [touchB]; simp [h1])
    go_enter Try.func54, Try.ntmps54
    go_wp2
    go_ret
    exact ⟨ret_b (unhide h3).symm, bel_alloc (bel_one _ _) _⟩

theorem spectouch_any (a b c d : Int) (w : World) : Calls Try.prog 33 #[.agg #[.int .i64 a, .int .i64 b], .agg #[.int .i64 c, .int .i64 d]] w fun e w' => e = .returned (.bool (touchB a b c d)) ∧ Below w.heap.size w w' := by
  by_cases h1 : a < d
  · by_cases h2 : c < b
    · have h3 : Hid (touchB a b c d = true) := hide (by simp only [touchB]; simp [h1, h2])
      go_enter Try.func33, Try.ntmps33
      go_wp2
      go_ret
      exact ⟨ret_b (unhide h3).symm, bel_alloc (bel_one _ _) _⟩
    · have h3 : Hid (touchB a b c d = false) := hide (by simp only [touchB]; simp [h1, h2])
      go_enter Try.func33, Try.ntmps33
      go_wp2
      go_ret
      exact ⟨ret_b (unhide h3).symm, bel_alloc (bel_one _ _) _⟩
  · have h3 : Hid (touchB a b c d = false) := hide (by simp only [touchB]; simp [h1])
    go_enter Try.func33, Try.ntmps33
    go_wp2
    go_ret
    exact ⟨ret_b (unhide h3).symm, bel_alloc (bel_one _ _) _⟩

theorem eqWin_any (a b : Int) (w : World) : Calls Try.prog 44 #[.agg #[.int .i64 a, .int .i64 b], .agg #[.int .i64 a, .int .i64 b]] w fun e w' => e = .returned (.bool true) ∧ Below w.heap.size w w' := by
  go_enter Try.func44, Try.ntmps44
  go_wp2
  go_ret
  exact ⟨rfl, (by repeat (first | exact Below.refl _ _ | exact bel_one _ _ | assumption | refine bel_alloc ?_ _ | refine bel_set ?_ (by first | (simp; done) | (simp; omega)) _ | refine bel_drew ?_ | refine bel_drewN ?_ _ | refine bel_trans ?_ (by assumption)))⟩

theorem ret_agg2 {a b c d : Int} (h : a = c) (k : b = d) : Ending.returned (.agg #[.int .i64 a, .int .i64 b]) = .returned (.agg #[.int .i64 c, .int .i64 d]) := by rw [h, k]
end Go.Proofs.Ytflignpbboiahaa
