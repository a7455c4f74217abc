/- Proved here: a pane's text, in the specification and in the program. -/
import Derived.Test.YtkadmigecojpoaaDoorPanTxt
namespace Go.Proofs.YtkadmigecojpoaaDoor
open Go.ChangeShapes Go.WideShapes Go.ChangeAt Go.RowKit
set_option linter.unusedVariables false

theorem hd_9_4 {b0 b1 o0x0 o0x1 o0x2 o0x3 o0x4 o0x5 o0x6 o0x7 o0x8 o1x0 o1x1 o1x2 o1x3 : Nat} {v0x0 v0x1 v0x2 v0x3 v0x4 v0x5 v0x6 v0x7 v0x8 v1x0 v1x1 v1x2 v1x3 : Value} {W W' : World} (h : ((W.cell? ⟨b0, o0x0, none⟩ = some (v0x0) ∧ W.cell? ⟨b0, o0x1, none⟩ = some (v0x1) ∧ W.cell? ⟨b0, o0x2, none⟩ = some (v0x2) ∧ W.cell? ⟨b0, o0x3, none⟩ = some (v0x3) ∧ W.cell? ⟨b0, o0x4, none⟩ = some (v0x4) ∧ W.cell? ⟨b0, o0x5, none⟩ = some (v0x5) ∧ W.cell? ⟨b0, o0x6, none⟩ = some (v0x6) ∧ W.cell? ⟨b0, o0x7, none⟩ = some (v0x7) ∧ W.cell? ⟨b0, o0x8, none⟩ = some (v0x8) ∧ W.cell? ⟨b1, o1x0, none⟩ = some (v1x0) ∧ W.cell? ⟨b1, o1x1, none⟩ = some (v1x1) ∧ W.cell? ⟨b1, o1x2, none⟩ = some (v1x2) ∧ W.cell? ⟨b1, o1x3, none⟩ = some (v1x3)) ∧ b0 < W.heap.size ∧ b1 < W.heap.size)) (hb : Below W.heap.size W W') : ((W'.cell? ⟨b0, o0x0, none⟩ = some (v0x0) ∧ W'.cell? ⟨b0, o0x1, none⟩ = some (v0x1) ∧ W'.cell? ⟨b0, o0x2, none⟩ = some (v0x2) ∧ W'.cell? ⟨b0, o0x3, none⟩ = some (v0x3) ∧ W'.cell? ⟨b0, o0x4, none⟩ = some (v0x4) ∧ W'.cell? ⟨b0, o0x5, none⟩ = some (v0x5) ∧ W'.cell? ⟨b0, o0x6, none⟩ = some (v0x6) ∧ W'.cell? ⟨b0, o0x7, none⟩ = some (v0x7) ∧ W'.cell? ⟨b0, o0x8, none⟩ = some (v0x8) ∧ W'.cell? ⟨b1, o1x0, none⟩ = some (v1x0) ∧ W'.cell? ⟨b1, o1x1, none⟩ = some (v1x1) ∧ W'.cell? ⟨b1, o1x2, none⟩ = some (v1x2) ∧ W'.cell? ⟨b1, o1x3, none⟩ = some (v1x3)) ∧ b0 < W'.heap.size ∧ b1 < W'.heap.size) := by
  obtain ⟨⟨h0, h1, h2, h3, h4, h5, h6, h7, h8, h9, h10, h11, h12⟩, s0, s1⟩ := h
  refine ⟨⟨?_, ?_, ?_, ?_, ?_, ?_, ?_, ?_, ?_, ?_, ?_, ?_, ?_⟩, Nat.lt_of_lt_of_le s0 hb.size, Nat.lt_of_lt_of_le s1 hb.size⟩
  · rw [hb.cell s0]; exact h0
  · rw [hb.cell s0]; exact h1
  · rw [hb.cell s0]; exact h2
  · rw [hb.cell s0]; exact h3
  · rw [hb.cell s0]; exact h4
  · rw [hb.cell s0]; exact h5
  · rw [hb.cell s0]; exact h6
  · rw [hb.cell s0]; exact h7
  · rw [hb.cell s0]; exact h8
  · rw [hb.cell s1]; exact h9
  · rw [hb.cell s1]; exact h10
  · rw [hb.cell s1]; exact h11
  · rw [hb.cell s1]; exact h12

theorem hd_9_4_set {b0 b1 o0x0 o0x1 o0x2 o0x3 o0x4 o0x5 o0x6 o0x7 o0x8 o1x0 o1x1 o1x2 o1x3 : Nat} {v0x0 v0x1 v0x2 v0x3 v0x4 v0x5 v0x6 v0x7 v0x8 v1x0 v1x1 v1x2 v1x3 : Value} {W : World} {p : Addr} (h : ((W.cell? ⟨b0, o0x0, none⟩ = some (v0x0) ∧ W.cell? ⟨b0, o0x1, none⟩ = some (v0x1) ∧ W.cell? ⟨b0, o0x2, none⟩ = some (v0x2) ∧ W.cell? ⟨b0, o0x3, none⟩ = some (v0x3) ∧ W.cell? ⟨b0, o0x4, none⟩ = some (v0x4) ∧ W.cell? ⟨b0, o0x5, none⟩ = some (v0x5) ∧ W.cell? ⟨b0, o0x6, none⟩ = some (v0x6) ∧ W.cell? ⟨b0, o0x7, none⟩ = some (v0x7) ∧ W.cell? ⟨b0, o0x8, none⟩ = some (v0x8) ∧ W.cell? ⟨b1, o1x0, none⟩ = some (v1x0) ∧ W.cell? ⟨b1, o1x1, none⟩ = some (v1x1) ∧ W.cell? ⟨b1, o1x2, none⟩ = some (v1x2) ∧ W.cell? ⟨b1, o1x3, none⟩ = some (v1x3)) ∧ b0 < W.heap.size ∧ b1 < W.heap.size)) (p0 : p.block ≠ b0) (p1 : p.block ≠ b1) (u : Value) : (((W.setCell p u).cell? ⟨b0, o0x0, none⟩ = some (v0x0) ∧ (W.setCell p u).cell? ⟨b0, o0x1, none⟩ = some (v0x1) ∧ (W.setCell p u).cell? ⟨b0, o0x2, none⟩ = some (v0x2) ∧ (W.setCell p u).cell? ⟨b0, o0x3, none⟩ = some (v0x3) ∧ (W.setCell p u).cell? ⟨b0, o0x4, none⟩ = some (v0x4) ∧ (W.setCell p u).cell? ⟨b0, o0x5, none⟩ = some (v0x5) ∧ (W.setCell p u).cell? ⟨b0, o0x6, none⟩ = some (v0x6) ∧ (W.setCell p u).cell? ⟨b0, o0x7, none⟩ = some (v0x7) ∧ (W.setCell p u).cell? ⟨b0, o0x8, none⟩ = some (v0x8) ∧ (W.setCell p u).cell? ⟨b1, o1x0, none⟩ = some (v1x0) ∧ (W.setCell p u).cell? ⟨b1, o1x1, none⟩ = some (v1x1) ∧ (W.setCell p u).cell? ⟨b1, o1x2, none⟩ = some (v1x2) ∧ (W.setCell p u).cell? ⟨b1, o1x3, none⟩ = some (v1x3)) ∧ b0 < (W.setCell p u).heap.size ∧ b1 < (W.setCell p u).heap.size) := by
  obtain ⟨⟨h0, h1, h2, h3, h4, h5, h6, h7, h8, h9, h10, h11, h12⟩, s0, s1⟩ := h
  have hb : W.heap.size ≤ (W.setCell p u).heap.size := by simp [World.setCell]
  refine ⟨⟨?_, ?_, ?_, ?_, ?_, ?_, ?_, ?_, ?_, ?_, ?_, ?_, ?_⟩, Nat.lt_of_lt_of_le s0 hb, Nat.lt_of_lt_of_le s1 hb⟩
  · rw [cell_set_ne p0]; exact h0
  · rw [cell_set_ne p0]; exact h1
  · rw [cell_set_ne p0]; exact h2
  · rw [cell_set_ne p0]; exact h3
  · rw [cell_set_ne p0]; exact h4
  · rw [cell_set_ne p0]; exact h5
  · rw [cell_set_ne p0]; exact h6
  · rw [cell_set_ne p0]; exact h7
  · rw [cell_set_ne p0]; exact h8
  · rw [cell_set_ne p1]; exact h9
  · rw [cell_set_ne p1]; exact h10
  · rw [cell_set_ne p1]; exact h11
  · rw [cell_set_ne p1]; exact h12

theorem hd_9_4_re {b0 b1 o0x0 o0x1 o0x2 o0x3 o0x4 o0x5 o0x6 o0x7 o0x8 o1x0 o1x1 o1x2 o1x3 : Nat} {v0x0 v0x1 v0x2 v0x3 v0x4 v0x5 v0x6 v0x7 v0x8 v1x0 v1x1 v1x2 v1x3 : Value} {W : World} {o o' : Obj} (h : (((W.alloc o).cell? ⟨b0, o0x0, none⟩ = some (v0x0) ∧ (W.alloc o).cell? ⟨b0, o0x1, none⟩ = some (v0x1) ∧ (W.alloc o).cell? ⟨b0, o0x2, none⟩ = some (v0x2) ∧ (W.alloc o).cell? ⟨b0, o0x3, none⟩ = some (v0x3) ∧ (W.alloc o).cell? ⟨b0, o0x4, none⟩ = some (v0x4) ∧ (W.alloc o).cell? ⟨b0, o0x5, none⟩ = some (v0x5) ∧ (W.alloc o).cell? ⟨b0, o0x6, none⟩ = some (v0x6) ∧ (W.alloc o).cell? ⟨b0, o0x7, none⟩ = some (v0x7) ∧ (W.alloc o).cell? ⟨b0, o0x8, none⟩ = some (v0x8) ∧ (W.alloc o).cell? ⟨b1, o1x0, none⟩ = some (v1x0) ∧ (W.alloc o).cell? ⟨b1, o1x1, none⟩ = some (v1x1) ∧ (W.alloc o).cell? ⟨b1, o1x2, none⟩ = some (v1x2) ∧ (W.alloc o).cell? ⟨b1, o1x3, none⟩ = some (v1x3)) ∧ b0 < (W.alloc o).heap.size ∧ b1 < (W.alloc o).heap.size)) (p0 : b0 < W.heap.size) (p1 : b1 < W.heap.size) : (((W.alloc o').cell? ⟨b0, o0x0, none⟩ = some (v0x0) ∧ (W.alloc o').cell? ⟨b0, o0x1, none⟩ = some (v0x1) ∧ (W.alloc o').cell? ⟨b0, o0x2, none⟩ = some (v0x2) ∧ (W.alloc o').cell? ⟨b0, o0x3, none⟩ = some (v0x3) ∧ (W.alloc o').cell? ⟨b0, o0x4, none⟩ = some (v0x4) ∧ (W.alloc o').cell? ⟨b0, o0x5, none⟩ = some (v0x5) ∧ (W.alloc o').cell? ⟨b0, o0x6, none⟩ = some (v0x6) ∧ (W.alloc o').cell? ⟨b0, o0x7, none⟩ = some (v0x7) ∧ (W.alloc o').cell? ⟨b0, o0x8, none⟩ = some (v0x8) ∧ (W.alloc o').cell? ⟨b1, o1x0, none⟩ = some (v1x0) ∧ (W.alloc o').cell? ⟨b1, o1x1, none⟩ = some (v1x1) ∧ (W.alloc o').cell? ⟨b1, o1x2, none⟩ = some (v1x2) ∧ (W.alloc o').cell? ⟨b1, o1x3, none⟩ = some (v1x3)) ∧ b0 < (W.alloc o').heap.size ∧ b1 < (W.alloc o').heap.size) := by
  obtain ⟨⟨h0, h1, h2, h3, h4, h5, h6, h7, h8, h9, h10, h11, h12⟩, s0, s1⟩ := h
  have hb : Below W.heap.size (W.alloc o) (W.alloc o') := bel_re W o o'
  refine ⟨⟨?_, ?_, ?_, ?_, ?_, ?_, ?_, ?_, ?_, ?_, ?_, ?_, ?_⟩, Nat.lt_of_lt_of_le s0 hb.size, Nat.lt_of_lt_of_le s1 hb.size⟩
  · rw [hb.cell p0]; exact h0
  · rw [hb.cell p0]; exact h1
  · rw [hb.cell p0]; exact h2
  · rw [hb.cell p0]; exact h3
  · rw [hb.cell p0]; exact h4
  · rw [hb.cell p0]; exact h5
  · rw [hb.cell p0]; exact h6
  · rw [hb.cell p0]; exact h7
  · rw [hb.cell p0]; exact h8
  · rw [hb.cell p1]; exact h9
  · rw [hb.cell p1]; exact h10
  · rw [hb.cell p1]; exact h11
  · rw [hb.cell p1]; exact h12

theorem hd_9 {b0 o0x0 o0x1 o0x2 o0x3 o0x4 o0x5 o0x6 o0x7 o0x8 : Nat} {v0x0 v0x1 v0x2 v0x3 v0x4 v0x5 v0x6 v0x7 v0x8 : Value} {W W' : World} (h : ((W.cell? ⟨b0, o0x0, none⟩ = some (v0x0) ∧ W.cell? ⟨b0, o0x1, none⟩ = some (v0x1) ∧ W.cell? ⟨b0, o0x2, none⟩ = some (v0x2) ∧ W.cell? ⟨b0, o0x3, none⟩ = some (v0x3) ∧ W.cell? ⟨b0, o0x4, none⟩ = some (v0x4) ∧ W.cell? ⟨b0, o0x5, none⟩ = some (v0x5) ∧ W.cell? ⟨b0, o0x6, none⟩ = some (v0x6) ∧ W.cell? ⟨b0, o0x7, none⟩ = some (v0x7) ∧ W.cell? ⟨b0, o0x8, none⟩ = some (v0x8)) ∧ b0 < W.heap.size)) (hb : Below W.heap.size W W') : ((W'.cell? ⟨b0, o0x0, none⟩ = some (v0x0) ∧ W'.cell? ⟨b0, o0x1, none⟩ = some (v0x1) ∧ W'.cell? ⟨b0, o0x2, none⟩ = some (v0x2) ∧ W'.cell? ⟨b0, o0x3, none⟩ = some (v0x3) ∧ W'.cell? ⟨b0, o0x4, none⟩ = some (v0x4) ∧ W'.cell? ⟨b0, o0x5, none⟩ = some (v0x5) ∧ W'.cell? ⟨b0, o0x6, none⟩ = some (v0x6) ∧ W'.cell? ⟨b0, o0x7, none⟩ = some (v0x7) ∧ W'.cell? ⟨b0, o0x8, none⟩ = some (v0x8)) ∧ b0 < W'.heap.size) := by
  obtain ⟨⟨h0, h1, h2, h3, h4, h5, h6, h7, h8⟩, s0⟩ := h
  refine ⟨⟨?_, ?_, ?_, ?_, ?_, ?_, ?_, ?_, ?_⟩, Nat.lt_of_lt_of_le s0 hb.size⟩
  · rw [hb.cell s0]; exact h0
  · rw [hb.cell s0]; exact h1
  · rw [hb.cell s0]; exact h2
  · rw [hb.cell s0]; exact h3
  · rw [hb.cell s0]; exact h4
  · rw [hb.cell s0]; exact h5
  · rw [hb.cell s0]; exact h6
  · rw [hb.cell s0]; exact h7
  · rw [hb.cell s0]; exact h8

theorem hd_9_set {b0 o0x0 o0x1 o0x2 o0x3 o0x4 o0x5 o0x6 o0x7 o0x8 : Nat} {v0x0 v0x1 v0x2 v0x3 v0x4 v0x5 v0x6 v0x7 v0x8 : Value} {W : World} {p : Addr} (h : ((W.cell? ⟨b0, o0x0, none⟩ = some (v0x0) ∧ W.cell? ⟨b0, o0x1, none⟩ = some (v0x1) ∧ W.cell? ⟨b0, o0x2, none⟩ = some (v0x2) ∧ W.cell? ⟨b0, o0x3, none⟩ = some (v0x3) ∧ W.cell? ⟨b0, o0x4, none⟩ = some (v0x4) ∧ W.cell? ⟨b0, o0x5, none⟩ = some (v0x5) ∧ W.cell? ⟨b0, o0x6, none⟩ = some (v0x6) ∧ W.cell? ⟨b0, o0x7, none⟩ = some (v0x7) ∧ W.cell? ⟨b0, o0x8, none⟩ = some (v0x8)) ∧ b0 < W.heap.size)) (p0 : p.block ≠ b0) (u : Value) : (((W.setCell p u).cell? ⟨b0, o0x0, none⟩ = some (v0x0) ∧ (W.setCell p u).cell? ⟨b0, o0x1, none⟩ = some (v0x1) ∧ (W.setCell p u).cell? ⟨b0, o0x2, none⟩ = some (v0x2) ∧ (W.setCell p u).cell? ⟨b0, o0x3, none⟩ = some (v0x3) ∧ (W.setCell p u).cell? ⟨b0, o0x4, none⟩ = some (v0x4) ∧ (W.setCell p u).cell? ⟨b0, o0x5, none⟩ = some (v0x5) ∧ (W.setCell p u).cell? ⟨b0, o0x6, none⟩ = some (v0x6) ∧ (W.setCell p u).cell? ⟨b0, o0x7, none⟩ = some (v0x7) ∧ (W.setCell p u).cell? ⟨b0, o0x8, none⟩ = some (v0x8)) ∧ b0 < (W.setCell p u).heap.size) := by
  obtain ⟨⟨h0, h1, h2, h3, h4, h5, h6, h7, h8⟩, s0⟩ := h
  have hb : W.heap.size ≤ (W.setCell p u).heap.size := by simp [World.setCell]
  refine ⟨⟨?_, ?_, ?_, ?_, ?_, ?_, ?_, ?_, ?_⟩, Nat.lt_of_lt_of_le s0 hb⟩
  · rw [cell_set_ne p0]; exact h0
  · rw [cell_set_ne p0]; exact h1
  · rw [cell_set_ne p0]; exact h2
  · rw [cell_set_ne p0]; exact h3
  · rw [cell_set_ne p0]; exact h4
  · rw [cell_set_ne p0]; exact h5
  · rw [cell_set_ne p0]; exact h6
  · rw [cell_set_ne p0]; exact h7
  · rw [cell_set_ne p0]; exact h8

theorem hd_9_re {b0 o0x0 o0x1 o0x2 o0x3 o0x4 o0x5 o0x6 o0x7 o0x8 : Nat} {v0x0 v0x1 v0x2 v0x3 v0x4 v0x5 v0x6 v0x7 v0x8 : Value} {W : World} {o o' : Obj} (h : (((W.alloc o).cell? ⟨b0, o0x0, none⟩ = some (v0x0) ∧ (W.alloc o).cell? ⟨b0, o0x1, none⟩ = some (v0x1) ∧ (W.alloc o).cell? ⟨b0, o0x2, none⟩ = some (v0x2) ∧ (W.alloc o).cell? ⟨b0, o0x3, none⟩ = some (v0x3) ∧ (W.alloc o).cell? ⟨b0, o0x4, none⟩ = some (v0x4) ∧ (W.alloc o).cell? ⟨b0, o0x5, none⟩ = some (v0x5) ∧ (W.alloc o).cell? ⟨b0, o0x6, none⟩ = some (v0x6) ∧ (W.alloc o).cell? ⟨b0, o0x7, none⟩ = some (v0x7) ∧ (W.alloc o).cell? ⟨b0, o0x8, none⟩ = some (v0x8)) ∧ b0 < (W.alloc o).heap.size)) (p0 : b0 < W.heap.size) : (((W.alloc o').cell? ⟨b0, o0x0, none⟩ = some (v0x0) ∧ (W.alloc o').cell? ⟨b0, o0x1, none⟩ = some (v0x1) ∧ (W.alloc o').cell? ⟨b0, o0x2, none⟩ = some (v0x2) ∧ (W.alloc o').cell? ⟨b0, o0x3, none⟩ = some (v0x3) ∧ (W.alloc o').cell? ⟨b0, o0x4, none⟩ = some (v0x4) ∧ (W.alloc o').cell? ⟨b0, o0x5, none⟩ = some (v0x5) ∧ (W.alloc o').cell? ⟨b0, o0x6, none⟩ = some (v0x6) ∧ (W.alloc o').cell? ⟨b0, o0x7, none⟩ = some (v0x7) ∧ (W.alloc o').cell? ⟨b0, o0x8, none⟩ = some (v0x8)) ∧ b0 < (W.alloc o').heap.size) := by
  obtain ⟨⟨h0, h1, h2, h3, h4, h5, h6, h7, h8⟩, s0⟩ := h
  have hb : Below W.heap.size (W.alloc o) (W.alloc o') := bel_re W o o'
  refine ⟨⟨?_, ?_, ?_, ?_, ?_, ?_, ?_, ?_, ?_⟩, Nat.lt_of_lt_of_le s0 hb.size⟩
  · rw [hb.cell p0]; exact h0
  · rw [hb.cell p0]; exact h1
  · rw [hb.cell p0]; exact h2
  · rw [hb.cell p0]; exact h3
  · rw [hb.cell p0]; exact h4
  · rw [hb.cell p0]; exact h5
  · rw [hb.cell p0]; exact h6
  · rw [hb.cell p0]; exact h7
  · rw [hb.cell p0]; exact h8

theorem specwintxt_any (a b : Int) (w : World) (h : okWin a b = true) : Calls Tryd.prog 11 #[.agg #[.int .i64 a, .int .i64 b]] w fun e w' => e = .returned (.string (winTxt a b)) ∧ Below w.heap.size w w' := by
  have := specwintext_any a b w
  rw [winText_ok h] at this
  exact this
theorem txt_1 (H V : ByteArray) (v : Int) (hV : decI v = V) : H ++ ⟨#[32]⟩ ++ ⟨#[116, 105, 109, 101, 108, 121]⟩ ++ ⟨#[32]⟩ ++ V = H ++ panTail 1 v := by
  have e : (⟨#[32, 116, 105, 109, 101, 108, 121, 32]⟩ : ByteArray) = ⟨#[32]⟩ ++ ⟨#[116, 105, 109, 101, 108, 121]⟩ ++ ⟨#[32]⟩ := rfl
  show _ = H ++ (⟨#[32, 116, 105, 109, 101, 108, 121, 32]⟩ ++ decI v)
  rw [hV, e]
  simp only [bapp]
theorem txt_2 (H V : ByteArray) (v : Int) (hV : decI v = V) : H ++ ⟨#[32]⟩ ++ ⟨#[108, 97, 116, 101]⟩ ++ ⟨#[32]⟩ ++ V = H ++ panTail 2 v := by
  have e : (⟨#[32, 108, 97, 116, 101, 32]⟩ : ByteArray) = ⟨#[32]⟩ ++ ⟨#[108, 97, 116, 101]⟩ ++ ⟨#[32]⟩ := rfl
  show _ = H ++ (⟨#[32, 108, 97, 116, 101, 32]⟩ ++ decI v)
  rw [hV, e]
  simp only [bapp]
theorem txt_3 (H : ByteArray) (v : Int) : H ++ ⟨#[32]⟩ ++ ⟨#[103, 111, 110, 101]⟩ = H ++ panTail 3 v := by
  have e : (⟨#[32, 103, 111, 110, 101]⟩ : ByteArray) = ⟨#[32]⟩ ++ ⟨#[103, 111, 110, 101]⟩ := rfl
  show _ = H ++ ⟨#[32, 103, 111, 110, 101]⟩
  rw [e]
  simp only [bapp]

set_option maxRecDepth 20000 in
set_option maxHeartbeats 4000000 in
theorem specpantext_any (ky st en no kd n s l m k : Int) (w : World) : Calls Tryd.prog 23 #[.agg #[.int .i64 ky, .int .i64 st, .int .i64 en, .int .i64 no, .int .i64 kd, .int .i64 n, .int .i64 s, .int .i64 l, .int .i64 m], .int .i64 k] w fun e w' => e = .returned (.string (panText ky st en no kd n s l m k)) ∧ Below w.heap.size w w' := by
  cases c0 : okPan ky st en no kd n s l m
  · have HQ := hide (panText_no (k := k) c0)
    go_enter Tryd.func23, Tryd.ntmps23
    go_wp2_with (first
      | (go_at_call 25; refine (specpanok_any _ _ _ _ _ _ _ _ _ _).mono ?_; rintro e wq ⟨rfl, hb⟩; obtain ⟨hc, hf, hs⟩ := bcell hb; (try have hz0 : w.heap.size < wq.heap.size := (by have h9 := hb.size; (try simp at h9); omega)))
      | (go_at_call 44; refine (l1In_any _ _ _ _).mono ?_; rintro e wx ⟨rfl, hw⟩; obtain rfl := hw.symm; clear hw))
    go_ret
    exact ⟨ret_s (unhide HQ).symm, (by repeat (first | (with_reducible exact Below.refl _ _) | (with_reducible assumption) | (with_reducible refine bel_set ?_ (by first | (simp; done) | (simp; omega)) _) | (with_reducible refine bel_alloc ?_ _) | (with_reducible refine bel_drew ?_) | (with_reducible refine bel_drewN ?_ _) | (with_reducible refine bel_trans ?_ (by with_reducible assumption))))⟩
  cases c1 : inB k 1 4
  · have HQ := hide (panText_nk (ky := ky) (st := st) (en := en) (no := no) (kd := kd) (n := n) (s := s) (l := l) (m := m) c1)
    go_enter Tryd.func23, Tryd.ntmps23
    go_wp2_with (first
      | (go_at_call 25; refine (specpanok_any _ _ _ _ _ _ _ _ _ _).mono ?_; rintro e wq ⟨rfl, hb⟩; obtain ⟨hc, hf, hs⟩ := bcell hb; (try have hz0 : w.heap.size < wq.heap.size := (by have h9 := hb.size; (try simp at h9); omega)))
      | (go_at_call 44; refine (l1In_any _ _ _ _).mono ?_; rintro e wx ⟨rfl, hw⟩; obtain rfl := hw.symm; clear hw))
    go_ret
    exact ⟨ret_s (unhide HQ).symm, (by repeat (first | (with_reducible exact Below.refl _ _) | (with_reducible assumption) | (with_reducible refine bel_set ?_ (by first | (simp; done) | (simp; omega)) _) | (with_reducible refine bel_alloc ?_ _) | (with_reducible refine bel_drew ?_) | (with_reducible refine bel_drewN ?_ _) | (with_reducible refine bel_trans ?_ (by with_reducible assumption))))⟩
  have HQ := hide (panText_ok c0 c1)
  obtain ⟨hk, hw, hno, hag, hwin, hkd⟩ := okPan_bd c0
  have ht := tell_bd (k := k) hag
  have sA := decI_size ky (by omega) (by omega)
  have sW := winTxt_size st en (by omega) (by omega)
  have sB := decI_size no (by omega) (by omega)
  have sV := decI_size (tellI n s l m k) ht.1 ht.2
  have n0 : ¬ 9223372036854775807 < 4 + (decI ky).size := by omega
  have n1 : ¬ 9223372036854775807 < 4 + (decI ky).size + 8 := by omega
  have n2 : ¬ 9223372036854775807 < 4 + (decI ky).size + 8 + (winTxt st en).size := by omega
  have n3 : ¬ 9223372036854775807 < 4 + (decI ky).size + 8 + (winTxt st en).size + 6 := by omega
  have n4 : ¬ 9223372036854775807 < 4 + (decI ky).size + 8 + (winTxt st en).size + 6 + (decI no).size := by omega
  have n5 : ¬ 9223372036854775807 < 4 + (decI ky).size + 8 + (winTxt st en).size + 6 + (decI no).size + 1 := by omega
  rcases hkd with hkd | hkd | hkd
  · subst hkd
    have m0 : ¬ 9223372036854775807 < 4 + (decI ky).size + 8 + (winTxt st en).size + 6 + (decI no).size + 1 + 6 := by omega
    have m1 : ¬ 9223372036854775807 < 4 + (decI ky).size + 8 + (winTxt st en).size + 6 + (decI no).size + 7 := by omega
    have m2 : ¬ 9223372036854775807 < 4 + (decI ky).size + 8 + (winTxt st en).size + 6 + (decI no).size + 1 + 6 + 1 := by omega
    have m3 : ¬ 9223372036854775807 < 4 + (decI ky).size + 8 + (winTxt st en).size + 6 + (decI no).size + 7 + 1 := by omega
    have m4 : ¬ 9223372036854775807 < 4 + (decI ky).size + 8 + (winTxt st en).size + 6 + (decI no).size + 8 := by omega
    have m5 : ¬ 9223372036854775807 < 4 + (decI ky).size + 8 + (winTxt st en).size + 6 + (decI no).size + 1 + 6 + 1 + (decI (tellI n s l m k)).size := by omega
    have m6 : ¬ 9223372036854775807 < 4 + (decI ky).size + 8 + (winTxt st en).size + 6 + (decI no).size + 8 + (decI (tellI n s l m k)).size := by omega
    have m7 : ¬ 9223372036854775807 < 4 + (decI ky).size + 8 + (winTxt st en).size + 6 + (decI no).size + 7 + 1 + (decI (tellI n s l m k)).size := by omega
    have c4' : okPan ky st en no 1 n s l m = true := c0
    go_enter Tryd.func23, Tryd.ntmps23
    go_wp2_with (first
      | (go_at_call 25; refine (specpanok_any _ _ _ _ _ _ _ _ _ _).mono ?_; rintro e wq ⟨rfl, hb⟩; obtain ⟨hc, hf, hs⟩ := bcell hb; (try have hz0 : w.heap.size < wq.heap.size := (by have h9 := hb.size; (try simp at h9); omega)))
      | (go_at_call 44; refine (l1In_any _ _ _ _).mono ?_; rintro e wx ⟨rfl, hw⟩; obtain rfl := hw.symm; clear hw))
    go_region_held3 (fun W => ((W.cell? ⟨w.heap.size, 0, none⟩ = some (.int .i64 ky) ∧ W.cell? ⟨w.heap.size, 1, none⟩ = some (.int .i64 st) ∧ W.cell? ⟨w.heap.size, 2, none⟩ = some (.int .i64 en) ∧ W.cell? ⟨w.heap.size, 3, none⟩ = some (.int .i64 no) ∧ W.cell? ⟨w.heap.size, 4, none⟩ = some (.int .i64 1) ∧ W.cell? ⟨w.heap.size, 5, none⟩ = some (.int .i64 n) ∧ W.cell? ⟨w.heap.size, 6, none⟩ = some (.int .i64 s) ∧ W.cell? ⟨w.heap.size, 7, none⟩ = some (.int .i64 l) ∧ W.cell? ⟨w.heap.size, 8, none⟩ = some (.int .i64 m) ∧ W.cell? ⟨wq.heap.size, 0, none⟩ = some (.string ⟨#[]⟩) ∧ W.cell? ⟨wq.heap.size, 1, none⟩ = some (.string ⟨#[116, 105, 109, 101, 108, 121]⟩) ∧ W.cell? ⟨wq.heap.size, 2, none⟩ = some (.string ⟨#[108, 97, 116, 101]⟩) ∧ W.cell? ⟨wq.heap.size, 3, none⟩ = some (.string ⟨#[103, 111, 110, 101]⟩)) ∧ w.heap.size < W.heap.size ∧ wq.heap.size < W.heap.size)) ((first | ((repeat (first | (with_reducible assumption) | (with_reducible refine hd_9_4 ?_ (by with_reducible assumption)) | (with_reducible refine hd_9_4 ?_ (bel_drew (Below.refl _ _))) | (with_reducible exact hd_9_4_re (by with_reducible assumption) (by first | omega | (simp; done) | (simp; omega)) (by first | omega | (simp; done) | (simp; omega))) | (with_reducible refine hd_9_4 ?_ (bel_one _ _)) | (with_reducible refine hd_9_4_set ?_ (by first | omega | (simp; done) | (simp; omega)) (by first | omega | (simp; done) | (simp; omega)) _))); done) | (refine ⟨⟨?_, ?_, ?_, ?_, ?_, ?_, ?_, ?_, ?_, ?_, ?_, ?_, ?_⟩, ?_, ?_⟩ <;> first | (go_keep; done) | (simp; done) | (simp; omega) | omega)))
      (first
      | (go_at_call 36; refine (digI_any _ _ (by omega) (by omega)).mono ?_; rintro e w' ⟨rfl, hb'⟩)
      | (go_at_call 11; refine (specwintxt_any _ _ _ hwin).mono ?_; rintro e w' ⟨rfl, hb'⟩))
    go_wp2_with (first
      | (go_at_call 46; refine (spectell_any _ _ _ _ _ _).mono ?_; rintro e wt ⟨rfl, hbt⟩)
      | (go_at_call 36; refine (digI_any _ _ ht.1 ht.2).mono ?_; rintro e wv ⟨rfl, hbv⟩))
    go_ret
    exact ⟨ret_s ((txt_1 _ _ _ rfl).trans (unhide HQ).symm), (by repeat (first | (with_reducible exact Below.refl _ _) | (with_reducible assumption) | (with_reducible refine bel_set ?_ (by first | (simp; done) | (simp; omega)) _) | (with_reducible refine bel_alloc ?_ _) | (with_reducible refine bel_drew ?_) | (with_reducible refine bel_drewN ?_ _) | (with_reducible refine bel_trans ?_ (by with_reducible assumption))))⟩
  · subst hkd
    have m0 : ¬ 9223372036854775807 < 4 + (decI ky).size + 8 + (winTxt st en).size + 6 + (decI no).size + 1 + 4 := by omega
    have m1 : ¬ 9223372036854775807 < 4 + (decI ky).size + 8 + (winTxt st en).size + 6 + (decI no).size + 5 := by omega
    have m2 : ¬ 9223372036854775807 < 4 + (decI ky).size + 8 + (winTxt st en).size + 6 + (decI no).size + 1 + 4 + 1 := by omega
    have m3 : ¬ 9223372036854775807 < 4 + (decI ky).size + 8 + (winTxt st en).size + 6 + (decI no).size + 5 + 1 := by omega
    have m4 : ¬ 9223372036854775807 < 4 + (decI ky).size + 8 + (winTxt st en).size + 6 + (decI no).size + 6 := by omega
    have m5 : ¬ 9223372036854775807 < 4 + (decI ky).size + 8 + (winTxt st en).size + 6 + (decI no).size + 1 + 4 + 1 + (decI (tellI n s l m k)).size := by omega
    have m6 : ¬ 9223372036854775807 < 4 + (decI ky).size + 8 + (winTxt st en).size + 6 + (decI no).size + 6 + (decI (tellI n s l m k)).size := by omega
    have m7 : ¬ 9223372036854775807 < 4 + (decI ky).size + 8 + (winTxt st en).size + 6 + (decI no).size + 5 + 1 + (decI (tellI n s l m k)).size := by omega
    have c4' : okPan ky st en no 2 n s l m = true := c0
    go_enter Tryd.func23, Tryd.ntmps23
    go_wp2_with (first
      | (go_at_call 25; refine (specpanok_any _ _ _ _ _ _ _ _ _ _).mono ?_; rintro e wq ⟨rfl, hb⟩; obtain ⟨hc, hf, hs⟩ := bcell hb; (try have hz0 : w.heap.size < wq.heap.size := (by have h9 := hb.size; (try simp at h9); omega)))
      | (go_at_call 44; refine (l1In_any _ _ _ _).mono ?_; rintro e wx ⟨rfl, hw⟩; obtain rfl := hw.symm; clear hw))
    go_region_held3 (fun W => ((W.cell? ⟨w.heap.size, 0, none⟩ = some (.int .i64 ky) ∧ W.cell? ⟨w.heap.size, 1, none⟩ = some (.int .i64 st) ∧ W.cell? ⟨w.heap.size, 2, none⟩ = some (.int .i64 en) ∧ W.cell? ⟨w.heap.size, 3, none⟩ = some (.int .i64 no) ∧ W.cell? ⟨w.heap.size, 4, none⟩ = some (.int .i64 2) ∧ W.cell? ⟨w.heap.size, 5, none⟩ = some (.int .i64 n) ∧ W.cell? ⟨w.heap.size, 6, none⟩ = some (.int .i64 s) ∧ W.cell? ⟨w.heap.size, 7, none⟩ = some (.int .i64 l) ∧ W.cell? ⟨w.heap.size, 8, none⟩ = some (.int .i64 m) ∧ W.cell? ⟨wq.heap.size, 0, none⟩ = some (.string ⟨#[]⟩) ∧ W.cell? ⟨wq.heap.size, 1, none⟩ = some (.string ⟨#[116, 105, 109, 101, 108, 121]⟩) ∧ W.cell? ⟨wq.heap.size, 2, none⟩ = some (.string ⟨#[108, 97, 116, 101]⟩) ∧ W.cell? ⟨wq.heap.size, 3, none⟩ = some (.string ⟨#[103, 111, 110, 101]⟩)) ∧ w.heap.size < W.heap.size ∧ wq.heap.size < W.heap.size)) ((first | ((repeat (first | (with_reducible assumption) | (with_reducible refine hd_9_4 ?_ (by with_reducible assumption)) | (with_reducible refine hd_9_4 ?_ (bel_drew (Below.refl _ _))) | (with_reducible exact hd_9_4_re (by with_reducible assumption) (by first | omega | (simp; done) | (simp; omega)) (by first | omega | (simp; done) | (simp; omega))) | (with_reducible refine hd_9_4 ?_ (bel_one _ _)) | (with_reducible refine hd_9_4_set ?_ (by first | omega | (simp; done) | (simp; omega)) (by first | omega | (simp; done) | (simp; omega)) _))); done) | (refine ⟨⟨?_, ?_, ?_, ?_, ?_, ?_, ?_, ?_, ?_, ?_, ?_, ?_, ?_⟩, ?_, ?_⟩ <;> first | (go_keep; done) | (simp; done) | (simp; omega) | omega)))
      (first
      | (go_at_call 36; refine (digI_any _ _ (by omega) (by omega)).mono ?_; rintro e w' ⟨rfl, hb'⟩)
      | (go_at_call 11; refine (specwintxt_any _ _ _ hwin).mono ?_; rintro e w' ⟨rfl, hb'⟩))
    go_wp2_with (first
      | (go_at_call 46; refine (spectell_any _ _ _ _ _ _).mono ?_; rintro e wt ⟨rfl, hbt⟩)
      | (go_at_call 36; refine (digI_any _ _ ht.1 ht.2).mono ?_; rintro e wv ⟨rfl, hbv⟩))
    go_ret
    exact ⟨ret_s ((txt_2 _ _ _ rfl).trans (unhide HQ).symm), (by repeat (first | (with_reducible exact Below.refl _ _) | (with_reducible assumption) | (with_reducible refine bel_set ?_ (by first | (simp; done) | (simp; omega)) _) | (with_reducible refine bel_alloc ?_ _) | (with_reducible refine bel_drew ?_) | (with_reducible refine bel_drewN ?_ _) | (with_reducible refine bel_trans ?_ (by with_reducible assumption))))⟩
  · subst hkd
    have m0 : ¬ 9223372036854775807 < 4 + (decI ky).size + 8 + (winTxt st en).size + 6 + (decI no).size + 1 + 4 := by omega
    have m1 : ¬ 9223372036854775807 < 4 + (decI ky).size + 8 + (winTxt st en).size + 6 + (decI no).size + 5 := by omega
    have m2 : ¬ 9223372036854775807 < 4 + (decI ky).size + 8 + (winTxt st en).size + 6 + (decI no).size + 1 + 4 + 1 := by omega
    have m3 : ¬ 9223372036854775807 < 4 + (decI ky).size + 8 + (winTxt st en).size + 6 + (decI no).size + 5 + 1 := by omega
    have m4 : ¬ 9223372036854775807 < 4 + (decI ky).size + 8 + (winTxt st en).size + 6 + (decI no).size + 6 := by omega
    have m5 : ¬ 9223372036854775807 < 4 + (decI ky).size + 8 + (winTxt st en).size + 6 + (decI no).size + 1 + 4 + 1 + (decI (tellI n s l m k)).size := by omega
    have m6 : ¬ 9223372036854775807 < 4 + (decI ky).size + 8 + (winTxt st en).size + 6 + (decI no).size + 6 + (decI (tellI n s l m k)).size := by omega
    have m7 : ¬ 9223372036854775807 < 4 + (decI ky).size + 8 + (winTxt st en).size + 6 + (decI no).size + 5 + 1 + (decI (tellI n s l m k)).size := by omega
    have c4' : okPan ky st en no 3 n s l m = true := c0
    go_enter Tryd.func23, Tryd.ntmps23
    go_wp2_with (first
      | (go_at_call 25; refine (specpanok_any _ _ _ _ _ _ _ _ _ _).mono ?_; rintro e wq ⟨rfl, hb⟩; obtain ⟨hc, hf, hs⟩ := bcell hb; (try have hz0 : w.heap.size < wq.heap.size := (by have h9 := hb.size; (try simp at h9); omega)))
      | (go_at_call 44; refine (l1In_any _ _ _ _).mono ?_; rintro e wx ⟨rfl, hw⟩; obtain rfl := hw.symm; clear hw))
    go_region_held3 (fun W => ((W.cell? ⟨w.heap.size, 0, none⟩ = some (.int .i64 ky) ∧ W.cell? ⟨w.heap.size, 1, none⟩ = some (.int .i64 st) ∧ W.cell? ⟨w.heap.size, 2, none⟩ = some (.int .i64 en) ∧ W.cell? ⟨w.heap.size, 3, none⟩ = some (.int .i64 no) ∧ W.cell? ⟨w.heap.size, 4, none⟩ = some (.int .i64 3) ∧ W.cell? ⟨w.heap.size, 5, none⟩ = some (.int .i64 n) ∧ W.cell? ⟨w.heap.size, 6, none⟩ = some (.int .i64 s) ∧ W.cell? ⟨w.heap.size, 7, none⟩ = some (.int .i64 l) ∧ W.cell? ⟨w.heap.size, 8, none⟩ = some (.int .i64 m) ∧ W.cell? ⟨wq.heap.size, 0, none⟩ = some (.string ⟨#[]⟩) ∧ W.cell? ⟨wq.heap.size, 1, none⟩ = some (.string ⟨#[116, 105, 109, 101, 108, 121]⟩) ∧ W.cell? ⟨wq.heap.size, 2, none⟩ = some (.string ⟨#[108, 97, 116, 101]⟩) ∧ W.cell? ⟨wq.heap.size, 3, none⟩ = some (.string ⟨#[103, 111, 110, 101]⟩)) ∧ w.heap.size < W.heap.size ∧ wq.heap.size < W.heap.size)) ((first | ((repeat (first | (with_reducible assumption) | (with_reducible refine hd_9_4 ?_ (by with_reducible assumption)) | (with_reducible refine hd_9_4 ?_ (bel_drew (Below.refl _ _))) | (with_reducible exact hd_9_4_re (by with_reducible assumption) (by first | omega | (simp; done) | (simp; omega)) (by first | omega | (simp; done) | (simp; omega))) | (with_reducible refine hd_9_4 ?_ (bel_one _ _)) | (with_reducible refine hd_9_4_set ?_ (by first | omega | (simp; done) | (simp; omega)) (by first | omega | (simp; done) | (simp; omega)) _))); done) | (refine ⟨⟨?_, ?_, ?_, ?_, ?_, ?_, ?_, ?_, ?_, ?_, ?_, ?_, ?_⟩, ?_, ?_⟩ <;> first | (go_keep; done) | (simp; done) | (simp; omega) | omega)))
      (first
      | (go_at_call 36; refine (digI_any _ _ (by omega) (by omega)).mono ?_; rintro e w' ⟨rfl, hb'⟩)
      | (go_at_call 11; refine (specwintxt_any _ _ _ hwin).mono ?_; rintro e w' ⟨rfl, hb'⟩))
    go_wp2_with (first
      | (go_at_call 46; refine (spectell_any _ _ _ _ _ _).mono ?_; rintro e wt ⟨rfl, hbt⟩)
      | (go_at_call 36; refine (digI_any _ _ ht.1 ht.2).mono ?_; rintro e wv ⟨rfl, hbv⟩))
    go_ret
    exact ⟨ret_s ((txt_3 _ _).trans (unhide HQ).symm), (by repeat (first | (with_reducible exact Below.refl _ _) | (with_reducible assumption) | (with_reducible refine bel_set ?_ (by first | (simp; done) | (simp; omega)) _) | (with_reducible refine bel_alloc ?_ _) | (with_reducible refine bel_drew ?_) | (with_reducible refine bel_drewN ?_ _) | (with_reducible refine bel_trans ?_ (by with_reducible assumption))))⟩

end Go.Proofs.YtkadmigecojpoaaDoor
