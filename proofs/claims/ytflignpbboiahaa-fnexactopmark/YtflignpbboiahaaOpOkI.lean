/- Proved here: when an operator is ok, in the program. -/
import Derived.Test.YtflignpbboiahaaOpMath
import Derived.Test.YtflignpbboiahaaOpSt
namespace Go.Proofs.Ytflignpbboiahaa
open Go.ChangeShapes Go.WideShapes Go.ChangeAt Go.RowKit
set_option linter.unusedVariables false

theorem hd_10_2_13 {b0 b1 b2 o0x0 o0x1 o0x2 o0x3 o0x4 o0x5 o0x6 o0x7 o0x8 o0x9 o1x0 o1x1 o2x0 o2x1 o2x2 o2x3 o2x4 o2x5 o2x6 o2x7 o2x8 o2x9 o2x10 o2x11 o2x12 : Nat} {v0x0 v0x1 v0x2 v0x3 v0x4 v0x5 v0x6 v0x7 v0x8 v0x9 v1x0 v1x1 v2x0 v2x1 v2x2 v2x3 v2x4 v2x5 v2x6 v2x7 v2x8 v2x9 v2x10 v2x11 v2x12 : Value} {W W' : World} (h : ((W.cell? ⟨b0, o0x0, none⟩ = some (v0x0) ∧ W.cell? ⟨b0, o0x1, none⟩ = some (v0x1) ∧ W.cell? ⟨b0, o0x2, none⟩ = some (v0x2) ∧ W.cell? ⟨b0, o0x3, none⟩ = some (v0x3) ∧ W.cell? ⟨b0, o0x4, none⟩ = some (v0x4) ∧ W.cell? ⟨b0, o0x5, none⟩ = some (v0x5) ∧ W.cell? ⟨b0, o0x6, none⟩ = some (v0x6) ∧ W.cell? ⟨b0, o0x7, none⟩ = some (v0x7) ∧ W.cell? ⟨b0, o0x8, none⟩ = some (v0x8) ∧ W.cell? ⟨b0, o0x9, none⟩ = some (v0x9) ∧ W.cell? ⟨b1, o1x0, none⟩ = some (v1x0) ∧ W.cell? ⟨b1, o1x1, none⟩ = some (v1x1) ∧ W.cell? ⟨b2, o2x0, none⟩ = some (v2x0) ∧ W.cell? ⟨b2, o2x1, none⟩ = some (v2x1) ∧ W.cell? ⟨b2, o2x2, none⟩ = some (v2x2) ∧ W.cell? ⟨b2, o2x3, none⟩ = some (v2x3) ∧ W.cell? ⟨b2, o2x4, none⟩ = some (v2x4) ∧ W.cell? ⟨b2, o2x5, none⟩ = some (v2x5) ∧ W.cell? ⟨b2, o2x6, none⟩ = some (v2x6) ∧ W.cell? ⟨b2, o2x7, none⟩ = some (v2x7) ∧ W.cell? ⟨b2, o2x8, none⟩ = some (v2x8) ∧ W.cell? ⟨b2, o2x9, none⟩ = some (v2x9) ∧ W.cell? ⟨b2, o2x10, none⟩ = some (v2x10) ∧ W.cell? ⟨b2, o2x11, none⟩ = some (v2x11) ∧ W.cell? ⟨b2, o2x12, none⟩ = some (v2x12)) ∧ b0 < W.heap.size ∧ b1 < W.heap.size ∧ b2 < W.heap.size)) (hb : Below W.heap.size W W') : ((W'.cell? ⟨b0, o0x0, none⟩ = some (v0x0) ∧ W'.cell? ⟨b0, o0x1, none⟩ = some (v0x1) ∧ W'.cell? ⟨b0, o0x2, none⟩ = some (v0x2) ∧ W'.cell? ⟨b0, o0x3, none⟩ = some (v0x3) ∧ W'.cell? ⟨b0, o0x4, none⟩ = some (v0x4) ∧ W'.cell? ⟨b0, o0x5, none⟩ = some (v0x5) ∧ W'.cell? ⟨b0, o0x6, none⟩ = some (v0x6) ∧ W'.cell? ⟨b0, o0x7, none⟩ = some (v0x7) ∧ W'.cell? ⟨b0, o0x8, none⟩ = some (v0x8) ∧ W'.cell? ⟨b0, o0x9, none⟩ = some (v0x9) ∧ W'.cell? ⟨b1, o1x0, none⟩ = some (v1x0) ∧ W'.cell? ⟨b1, o1x1, none⟩ = some (v1x1) ∧ W'.cell? ⟨b2, o2x0, none⟩ = some (v2x0) ∧ W'.cell? ⟨b2, o2x1, none⟩ = some (v2x1) ∧ W'.cell? ⟨b2, o2x2, none⟩ = some (v2x2) ∧ W'.cell? ⟨b2, o2x3, none⟩ = some (v2x3) ∧ W'.cell? ⟨b2, o2x4, none⟩ = some (v2x4) ∧ W'.cell? ⟨b2, o2x5, none⟩ = some (v2x5) ∧ W'.cell? ⟨b2, o2x6, none⟩ = some (v2x6) ∧ W'.cell? ⟨b2, o2x7, none⟩ = some (v2x7) ∧ W'.cell? ⟨b2, o2x8, none⟩ = some (v2x8) ∧ W'.cell? ⟨b2, o2x9, none⟩ = some (v2x9) ∧ W'.cell? ⟨b2, o2x10, none⟩ = some (v2x10) ∧ W'.cell? ⟨b2, o2x11, none⟩ = some (v2x11) ∧ W'.cell? ⟨b2, o2x12, none⟩ = some (v2x12)) ∧ b0 < W'.heap.size ∧ b1 < W'.heap.size ∧ b2 < W'.heap.size) := by
  obtain ⟨⟨h0, h1, h2, h3, h4, h5, h6, h7, h8, h9, h10, h11, h12, h13, h14, h15, h16, h17, h18, h19, h20, h21, h22, h23, h24⟩, s0, s1, s2⟩ := h
  refine ⟨⟨?_, ?_, ?_, ?_, ?_, ?_, ?_, ?_, ?_, ?_, ?_, ?_, ?_, ?_, ?_, ?_, ?_, ?_, ?_, ?_, ?_, ?_, ?_, ?_, ?_⟩, Nat.lt_of_lt_of_le s0 hb.size, Nat.lt_of_lt_of_le s1 hb.size, Nat.lt_of_lt_of_le s2 hb.size⟩
  · rw [hb.cell s0]; exact h0
  · rw [hb.cell s0]; exact h1
  · rw [hb.cell s0]; exact h2
  · rw [hb.cell s0]; exact h3
  · rw [hb.cell s0]; exact h4
  · rw [hb.cell s0]; exact h5
  · rw [hb.cell s0]; exact h6
  · rw [hb.cell s0]; exact h7
  · rw [hb.cell s0]; exact h8
  · rw [hb.cell s0]; exact h9
  · rw [hb.cell s1]; exact h10
  · rw [hb.cell s1]; exact h11
  · rw [hb.cell s2]; exact h12
  · rw [hb.cell s2]; exact h13
  · rw [hb.cell s2]; exact h14
  · rw [hb.cell s2]; exact h15
  · rw [hb.cell s2]; exact h16
  · rw [hb.cell s2]; exact h17
  · rw [hb.cell s2]; exact h18
  · rw [hb.cell s2]; exact h19
  · rw [hb.cell s2]; exact h20
  · rw [hb.cell s2]; exact h21
  · rw [hb.cell s2]; exact h22
  · rw [hb.cell s2]; exact h23
  · rw [hb.cell s2]; exact h24

theorem hd_10_2_13_set {b0 b1 b2 o0x0 o0x1 o0x2 o0x3 o0x4 o0x5 o0x6 o0x7 o0x8 o0x9 o1x0 o1x1 o2x0 o2x1 o2x2 o2x3 o2x4 o2x5 o2x6 o2x7 o2x8 o2x9 o2x10 o2x11 o2x12 : Nat} {v0x0 v0x1 v0x2 v0x3 v0x4 v0x5 v0x6 v0x7 v0x8 v0x9 v1x0 v1x1 v2x0 v2x1 v2x2 v2x3 v2x4 v2x5 v2x6 v2x7 v2x8 v2x9 v2x10 v2x11 v2x12 : Value} {W : World} {p : Addr} (h : ((W.cell? ⟨b0, o0x0, none⟩ = some (v0x0) ∧ W.cell? ⟨b0, o0x1, none⟩ = some (v0x1) ∧ W.cell? ⟨b0, o0x2, none⟩ = some (v0x2) ∧ W.cell? ⟨b0, o0x3, none⟩ = some (v0x3) ∧ W.cell? ⟨b0, o0x4, none⟩ = some (v0x4) ∧ W.cell? ⟨b0, o0x5, none⟩ = some (v0x5) ∧ W.cell? ⟨b0, o0x6, none⟩ = some (v0x6) ∧ W.cell? ⟨b0, o0x7, none⟩ = some (v0x7) ∧ W.cell? ⟨b0, o0x8, none⟩ = some (v0x8) ∧ W.cell? ⟨b0, o0x9, none⟩ = some (v0x9) ∧ W.cell? ⟨b1, o1x0, none⟩ = some (v1x0) ∧ W.cell? ⟨b1, o1x1, none⟩ = some (v1x1) ∧ W.cell? ⟨b2, o2x0, none⟩ = some (v2x0) ∧ W.cell? ⟨b2, o2x1, none⟩ = some (v2x1) ∧ W.cell? ⟨b2, o2x2, none⟩ = some (v2x2) ∧ W.cell? ⟨b2, o2x3, none⟩ = some (v2x3) ∧ W.cell? ⟨b2, o2x4, none⟩ = some (v2x4) ∧ W.cell? ⟨b2, o2x5, none⟩ = some (v2x5) ∧ W.cell? ⟨b2, o2x6, none⟩ = some (v2x6) ∧ W.cell? ⟨b2, o2x7, none⟩ = some (v2x7) ∧ W.cell? ⟨b2, o2x8, none⟩ = some (v2x8) ∧ W.cell? ⟨b2, o2x9, none⟩ = some (v2x9) ∧ W.cell? ⟨b2, o2x10, none⟩ = some (v2x10) ∧ W.cell? ⟨b2, o2x11, none⟩ = some (v2x11) ∧ W.cell? ⟨b2, o2x12, none⟩ = some (v2x12)) ∧ b0 < W.heap.size ∧ b1 < W.heap.size ∧ b2 < W.heap.size)) (p0 : p.block ≠ b0) (p1 : p.block ≠ b1) (p2 : p.block ≠ b2) (u : Value) : (((W.setCell p u).cell? ⟨b0, o0x0, none⟩ = some (v0x0) ∧ (W.setCell p u).cell? ⟨b0, o0x1, none⟩ = some (v0x1) ∧ (W.setCell p u).cell? ⟨b0, o0x2, none⟩ = some (v0x2) ∧ (W.setCell p u).cell? ⟨b0, o0x3, none⟩ = some (v0x3) ∧ (W.setCell p u).cell? ⟨b0, o0x4, none⟩ = some (v0x4) ∧ (W.setCell p u).cell? ⟨b0, o0x5, none⟩ = some (v0x5) ∧ (W.setCell p u).cell? ⟨b0, o0x6, none⟩ = some (v0x6) ∧ (W.setCell p u).cell? ⟨b0, o0x7, none⟩ = some (v0x7) ∧ (W.setCell p u).cell? ⟨b0, o0x8, none⟩ = some (v0x8) ∧ (W.setCell p u).cell? ⟨b0, o0x9, none⟩ = some (v0x9) ∧ (W.setCell p u).cell? ⟨b1, o1x0, none⟩ = some (v1x0) ∧ (W.setCell p u).cell? ⟨b1, o1x1, none⟩ = some (v1x1) ∧ (W.setCell p u).cell? ⟨b2, o2x0, none⟩ = some (v2x0) ∧ (W.setCell p u).cell? ⟨b2, o2x1, none⟩ = some (v2x1) ∧ (W.setCell p u).cell? ⟨b2, o2x2, none⟩ = some (v2x2) ∧ (W.setCell p u).cell? ⟨b2, o2x3, none⟩ = some (v2x3) ∧ (W.setCell p u).cell? ⟨b2, o2x4, none⟩ = some (v2x4) ∧ (W.setCell p u).cell? ⟨b2, o2x5, none⟩ = some (v2x5) ∧ (W.setCell p u).cell? ⟨b2, o2x6, none⟩ = some (v2x6) ∧ (W.setCell p u).cell? ⟨b2, o2x7, none⟩ = some (v2x7) ∧ (W.setCell p u).cell? ⟨b2, o2x8, none⟩ = some (v2x8) ∧ (W.setCell p u).cell? ⟨b2, o2x9, none⟩ = some (v2x9) ∧ (W.setCell p u).cell? ⟨b2, o2x10, none⟩ = some (v2x10) ∧ (W.setCell p u).cell? ⟨b2, o2x11, none⟩ = some (v2x11) ∧ (W.setCell p u).cell? ⟨b2, o2x12, none⟩ = some (v2x12)) ∧ b0 < (W.setCell p u).heap.size ∧ b1 < (W.setCell p u).heap.size ∧ b2 < (W.setCell p u).heap.size) := by
  obtain ⟨⟨h0, h1, h2, h3, h4, h5, h6, h7, h8, h9, h10, h11, h12, h13, h14, h15, h16, h17, h18, h19, h20, h21, h22, h23, h24⟩, s0, s1, s2⟩ := h
  have hb : W.heap.size ≤ (W.setCell p u).heap.size := by simp [World.setCell]
  refine ⟨⟨?_, ?_, ?_, ?_, ?_, ?_, ?_, ?_, ?_, ?_, ?_, ?_, ?_, ?_, ?_, ?_, ?_, ?_, ?_, ?_, ?_, ?_, ?_, ?_, ?_⟩, Nat.lt_of_lt_of_le s0 hb, Nat.lt_of_lt_of_le s1 hb, Nat.lt_of_lt_of_le s2 hb⟩
  · rw [cell_set_ne p0]; exact h0
  · rw [cell_set_ne p0]; exact h1
  · rw [cell_set_ne p0]; exact h2
  · rw [cell_set_ne p0]; exact h3
  · rw [cell_set_ne p0]; exact h4
  · rw [cell_set_ne p0]; exact h5
  · rw [cell_set_ne p0]; exact h6
  · rw [cell_set_ne p0]; exact h7
  · rw [cell_set_ne p0]; exact h8
  · rw [cell_set_ne p0]; exact h9
  · rw [cell_set_ne p1]; exact h10
  · rw [cell_set_ne p1]; exact h11
  · rw [cell_set_ne p2]; exact h12
  · rw [cell_set_ne p2]; exact h13
  · rw [cell_set_ne p2]; exact h14
  · rw [cell_set_ne p2]; exact h15
  · rw [cell_set_ne p2]; exact h16
  · rw [cell_set_ne p2]; exact h17
  · rw [cell_set_ne p2]; exact h18
  · rw [cell_set_ne p2]; exact h19
  · rw [cell_set_ne p2]; exact h20
  · rw [cell_set_ne p2]; exact h21
  · rw [cell_set_ne p2]; exact h22
  · rw [cell_set_ne p2]; exact h23
  · rw [cell_set_ne p2]; exact h24

theorem hd_10_2_13_re {b0 b1 b2 o0x0 o0x1 o0x2 o0x3 o0x4 o0x5 o0x6 o0x7 o0x8 o0x9 o1x0 o1x1 o2x0 o2x1 o2x2 o2x3 o2x4 o2x5 o2x6 o2x7 o2x8 o2x9 o2x10 o2x11 o2x12 : Nat} {v0x0 v0x1 v0x2 v0x3 v0x4 v0x5 v0x6 v0x7 v0x8 v0x9 v1x0 v1x1 v2x0 v2x1 v2x2 v2x3 v2x4 v2x5 v2x6 v2x7 v2x8 v2x9 v2x10 v2x11 v2x12 : Value} {W : World} {o o' : Obj} (h : (((W.alloc o).cell? ⟨b0, o0x0, none⟩ = some (v0x0) ∧ (W.alloc o).cell? ⟨b0, o0x1, none⟩ = some (v0x1) ∧ (W.alloc o).cell? ⟨b0, o0x2, none⟩ = some (v0x2) ∧ (W.alloc o).cell? ⟨b0, o0x3, none⟩ = some (v0x3) ∧ (W.alloc o).cell? ⟨b0, o0x4, none⟩ = some (v0x4) ∧ (W.alloc o).cell? ⟨b0, o0x5, none⟩ = some (v0x5) ∧ (W.alloc o).cell? ⟨b0, o0x6, none⟩ = some (v0x6) ∧ (W.alloc o).cell? ⟨b0, o0x7, none⟩ = some (v0x7) ∧ (W.alloc o).cell? ⟨b0, o0x8, none⟩ = some (v0x8) ∧ (W.alloc o).cell? ⟨b0, o0x9, none⟩ = some (v0x9) ∧ (W.alloc o).cell? ⟨b1, o1x0, none⟩ = some (v1x0) ∧ (W.alloc o).cell? ⟨b1, o1x1, none⟩ = some (v1x1) ∧ (W.alloc o).cell? ⟨b2, o2x0, none⟩ = some (v2x0) ∧ (W.alloc o).cell? ⟨b2, o2x1, none⟩ = some (v2x1) ∧ (W.alloc o).cell? ⟨b2, o2x2, none⟩ = some (v2x2) ∧ (W.alloc o).cell? ⟨b2, o2x3, none⟩ = some (v2x3) ∧ (W.alloc o).cell? ⟨b2, o2x4, none⟩ = some (v2x4) ∧ (W.alloc o).cell? ⟨b2, o2x5, none⟩ = some (v2x5) ∧ (W.alloc o).cell? ⟨b2, o2x6, none⟩ = some (v2x6) ∧ (W.alloc o).cell? ⟨b2, o2x7, none⟩ = some (v2x7) ∧ (W.alloc o).cell? ⟨b2, o2x8, none⟩ = some (v2x8) ∧ (W.alloc o).cell? ⟨b2, o2x9, none⟩ = some (v2x9) ∧ (W.alloc o).cell? ⟨b2, o2x10, none⟩ = some (v2x10) ∧ (W.alloc o).cell? ⟨b2, o2x11, none⟩ = some (v2x11) ∧ (W.alloc o).cell? ⟨b2, o2x12, none⟩ = some (v2x12)) ∧ b0 < (W.alloc o).heap.size ∧ b1 < (W.alloc o).heap.size ∧ b2 < (W.alloc o).heap.size)) (p0 : b0 < W.heap.size) (p1 : b1 < W.heap.size) (p2 : b2 < W.heap.size) : (((W.alloc o').cell? ⟨b0, o0x0, none⟩ = some (v0x0) ∧ (W.alloc o').cell? ⟨b0, o0x1, none⟩ = some (v0x1) ∧ (W.alloc o').cell? ⟨b0, o0x2, none⟩ = some (v0x2) ∧ (W.alloc o').cell? ⟨b0, o0x3, none⟩ = some (v0x3) ∧ (W.alloc o').cell? ⟨b0, o0x4, none⟩ = some (v0x4) ∧ (W.alloc o').cell? ⟨b0, o0x5, none⟩ = some (v0x5) ∧ (W.alloc o').cell? ⟨b0, o0x6, none⟩ = some (v0x6) ∧ (W.alloc o').cell? ⟨b0, o0x7, none⟩ = some (v0x7) ∧ (W.alloc o').cell? ⟨b0, o0x8, none⟩ = some (v0x8) ∧ (W.alloc o').cell? ⟨b0, o0x9, none⟩ = some (v0x9) ∧ (W.alloc o').cell? ⟨b1, o1x0, none⟩ = some (v1x0) ∧ (W.alloc o').cell? ⟨b1, o1x1, none⟩ = some (v1x1) ∧ (W.alloc o').cell? ⟨b2, o2x0, none⟩ = some (v2x0) ∧ (W.alloc o').cell? ⟨b2, o2x1, none⟩ = some (v2x1) ∧ (W.alloc o').cell? ⟨b2, o2x2, none⟩ = some (v2x2) ∧ (W.alloc o').cell? ⟨b2, o2x3, none⟩ = some (v2x3) ∧ (W.alloc o').cell? ⟨b2, o2x4, none⟩ = some (v2x4) ∧ (W.alloc o').cell? ⟨b2, o2x5, none⟩ = some (v2x5) ∧ (W.alloc o').cell? ⟨b2, o2x6, none⟩ = some (v2x6) ∧ (W.alloc o').cell? ⟨b2, o2x7, none⟩ = some (v2x7) ∧ (W.alloc o').cell? ⟨b2, o2x8, none⟩ = some (v2x8) ∧ (W.alloc o').cell? ⟨b2, o2x9, none⟩ = some (v2x9) ∧ (W.alloc o').cell? ⟨b2, o2x10, none⟩ = some (v2x10) ∧ (W.alloc o').cell? ⟨b2, o2x11, none⟩ = some (v2x11) ∧ (W.alloc o').cell? ⟨b2, o2x12, none⟩ = some (v2x12)) ∧ b0 < (W.alloc o').heap.size ∧ b1 < (W.alloc o').heap.size ∧ b2 < (W.alloc o').heap.size) := by
  obtain ⟨⟨h0, h1, h2, h3, h4, h5, h6, h7, h8, h9, h10, h11, h12, h13, h14, h15, h16, h17, h18, h19, h20, h21, h22, h23, h24⟩, s0, s1, s2⟩ := h
  have hb : Below W.heap.size (W.alloc o) (W.alloc o') := bel_re W o o'
  refine ⟨⟨?_, ?_, ?_, ?_, ?_, ?_, ?_, ?_, ?_, ?_, ?_, ?_, ?_, ?_, ?_, ?_, ?_, ?_, ?_, ?_, ?_, ?_, ?_, ?_, ?_⟩, Nat.lt_of_lt_of_le s0 hb.size, Nat.lt_of_lt_of_le s1 hb.size, Nat.lt_of_lt_of_le s2 hb.size⟩
  · rw [hb.cell p0]; exact h0
  · rw [hb.cell p0]; exact h1
  · rw [hb.cell p0]; exact h2
  · rw [hb.cell p0]; exact h3
  · rw [hb.cell p0]; exact h4
  · rw [hb.cell p0]; exact h5
  · rw [hb.cell p0]; exact h6
  · rw [hb.cell p0]; exact h7
  · rw [hb.cell p0]; exact h8
  · rw [hb.cell p0]; exact h9
  · rw [hb.cell p1]; exact h10
  · rw [hb.cell p1]; exact h11
  · rw [hb.cell p2]; exact h12
  · rw [hb.cell p2]; exact h13
  · rw [hb.cell p2]; exact h14
  · rw [hb.cell p2]; exact h15
  · rw [hb.cell p2]; exact h16
  · rw [hb.cell p2]; exact h17
  · rw [hb.cell p2]; exact h18
  · rw [hb.cell p2]; exact h19
  · rw [hb.cell p2]; exact h20
  · rw [hb.cell p2]; exact h21
  · rw [hb.cell p2]; exact h22
  · rw [hb.cell p2]; exact h23
  · rw [hb.cell p2]; exact h24

theorem hd_10_2_13_13 {b0 b1 b2 b3 o0x0 o0x1 o0x2 o0x3 o0x4 o0x5 o0x6 o0x7 o0x8 o0x9 o1x0 o1x1 o2x0 o2x1 o2x2 o2x3 o2x4 o2x5 o2x6 o2x7 o2x8 o2x9 o2x10 o2x11 o2x12 o3x0 o3x1 o3x2 o3x3 o3x4 o3x5 o3x6 o3x7 o3x8 o3x9 o3x10 o3x11 o3x12 : Nat} {v0x0 v0x1 v0x2 v0x3 v0x4 v0x5 v0x6 v0x7 v0x8 v0x9 v1x0 v1x1 v2x0 v2x1 v2x2 v2x3 v2x4 v2x5 v2x6 v2x7 v2x8 v2x9 v2x10 v2x11 v2x12 v3x0 v3x1 v3x2 v3x3 v3x4 v3x5 v3x6 v3x7 v3x8 v3x9 v3x10 v3x11 v3x12 : Value} {W W' : World} (h : ((W.cell? ⟨b0, o0x0, none⟩ = some (v0x0) ∧ W.cell? ⟨b0, o0x1, none⟩ = some (v0x1) ∧ W.cell? ⟨b0, o0x2, none⟩ = some (v0x2) ∧ W.cell? ⟨b0, o0x3, none⟩ = some (v0x3) ∧ W.cell? ⟨b0, o0x4, none⟩ = some (v0x4) ∧ W.cell? ⟨b0, o0x5, none⟩ = some (v0x5) ∧ W.cell? ⟨b0, o0x6, none⟩ = some (v0x6) ∧ W.cell? ⟨b0, o0x7, none⟩ = some (v0x7) ∧ W.cell? ⟨b0, o0x8, none⟩ = some (v0x8) ∧ W.cell? ⟨b0, o0x9, none⟩ = some (v0x9) ∧ W.cell? ⟨b1, o1x0, none⟩ = some (v1x0) ∧ W.cell? ⟨b1, o1x1, none⟩ = some (v1x1) ∧ W.cell? ⟨b2, o2x0, none⟩ = some (v2x0) ∧ W.cell? ⟨b2, o2x1, none⟩ = some (v2x1) ∧ W.cell? ⟨b2, o2x2, none⟩ = some (v2x2) ∧ W.cell? ⟨b2, o2x3, none⟩ = some (v2x3) ∧ W.cell? ⟨b2, o2x4, none⟩ = some (v2x4) ∧ W.cell? ⟨b2, o2x5, none⟩ = some (v2x5) ∧ W.cell? ⟨b2, o2x6, none⟩ = some (v2x6) ∧ W.cell? ⟨b2, o2x7, none⟩ = some (v2x7) ∧ W.cell? ⟨b2, o2x8, none⟩ = some (v2x8) ∧ W.cell? ⟨b2, o2x9, none⟩ = some (v2x9) ∧ W.cell? ⟨b2, o2x10, none⟩ = some (v2x10) ∧ W.cell? ⟨b2, o2x11, none⟩ = some (v2x11) ∧ W.cell? ⟨b2, o2x12, none⟩ = some (v2x12) ∧ W.cell? ⟨b3, o3x0, none⟩ = some (v3x0) ∧ W.cell? ⟨b3, o3x1, none⟩ = some (v3x1) ∧ W.cell? ⟨b3, o3x2, none⟩ = some (v3x2) ∧ W.cell? ⟨b3, o3x3, none⟩ = some (v3x3) ∧ W.cell? ⟨b3, o3x4, none⟩ = some (v3x4) ∧ W.cell? ⟨b3, o3x5, none⟩ = some (v3x5) ∧ W.cell? ⟨b3, o3x6, none⟩ = some (v3x6) ∧ W.cell? ⟨b3, o3x7, none⟩ = some (v3x7) ∧ W.cell? ⟨b3, o3x8, none⟩ = some (v3x8) ∧ W.cell? ⟨b3, o3x9, none⟩ = some (v3x9) ∧ W.cell? ⟨b3, o3x10, none⟩ = some (v3x10) ∧ W.cell? ⟨b3, o3x11, none⟩ = some (v3x11) ∧ W.cell? ⟨b3, o3x12, none⟩ = some (v3x12)) ∧ b0 < W.heap.size ∧ b1 < W.heap.size ∧ b2 < W.heap.size ∧ b3 < W.heap.size)) (hb : Below W.heap.size W W') : ((W'.cell? ⟨b0, o0x0, none⟩ = some (v0x0) ∧ W'.cell? ⟨b0, o0x1, none⟩ = some (v0x1) ∧ W'.cell? ⟨b0, o0x2, none⟩ = some (v0x2) ∧ W'.cell? ⟨b0, o0x3, none⟩ = some (v0x3) ∧ W'.cell? ⟨b0, o0x4, none⟩ = some (v0x4) ∧ W'.cell? ⟨b0, o0x5, none⟩ = some (v0x5) ∧ W'.cell? ⟨b0, o0x6, none⟩ = some (v0x6) ∧ W'.cell? ⟨b0, o0x7, none⟩ = some (v0x7) ∧ W'.cell? ⟨b0, o0x8, none⟩ = some (v0x8) ∧ W'.cell? ⟨b0, o0x9, none⟩ = some (v0x9) ∧ W'.cell? ⟨b1, o1x0, none⟩ = some (v1x0) ∧ W'.cell? ⟨b1, o1x1, none⟩ = some (v1x1) ∧ W'.cell? ⟨b2, o2x0, none⟩ = some (v2x0) ∧ W'.cell? ⟨b2, o2x1, none⟩ = some (v2x1) ∧ W'.cell? ⟨b2, o2x2, none⟩ = some (v2x2) ∧ W'.cell? ⟨b2, o2x3, none⟩ = some (v2x3) ∧ W'.cell? ⟨b2, o2x4, none⟩ = some (v2x4) ∧ W'.cell? ⟨b2, o2x5, none⟩ = some (v2x5) ∧ W'.cell? ⟨b2, o2x6, none⟩ = some (v2x6) ∧ W'.cell? ⟨b2, o2x7, none⟩ = some (v2x7) ∧ W'.cell? ⟨b2, o2x8, none⟩ = some (v2x8) ∧ W'.cell? ⟨b2, o2x9, none⟩ = some (v2x9) ∧ W'.cell? ⟨b2, o2x10, none⟩ = some (v2x10) ∧ W'.cell? ⟨b2, o2x11, none⟩ = some (v2x11) ∧ W'.cell? ⟨b2, o2x12, none⟩ = some (v2x12) ∧ W'.cell? ⟨b3, o3x0, none⟩ = some (v3x0) ∧ W'.cell? ⟨b3, o3x1, none⟩ = some (v3x1) ∧ W'.cell? ⟨b3, o3x2, none⟩ = some (v3x2) ∧ W'.cell? ⟨b3, o3x3, none⟩ = some (v3x3) ∧ W'.cell? ⟨b3, o3x4, none⟩ = some (v3x4) ∧ W'.cell? ⟨b3, o3x5, none⟩ = some (v3x5) ∧ W'.cell? ⟨b3, o3x6, none⟩ = some (v3x6) ∧ W'.cell? ⟨b3, o3x7, none⟩ = some (v3x7) ∧ W'.cell? ⟨b3, o3x8, none⟩ = some (v3x8) ∧ W'.cell? ⟨b3, o3x9, none⟩ = some (v3x9) ∧ W'.cell? ⟨b3, o3x10, none⟩ = some (v3x10) ∧ W'.cell? ⟨b3, o3x11, none⟩ = some (v3x11) ∧ W'.cell? ⟨b3, o3x12, none⟩ = some (v3x12)) ∧ b0 < W'.heap.size ∧ b1 < W'.heap.size ∧ b2 < W'.heap.size ∧ b3 < W'.heap.size) := by
  obtain ⟨⟨h0, h1, h2, h3, h4, h5, h6, h7, h8, h9, h10, h11, h12, h13, h14, h15, h16, h17, h18, h19, h20, h21, h22, h23, h24, h25, h26, h27, h28, h29, h30, h31, h32, h33, h34, h35, h36, h37⟩, s0, s1, s2, s3⟩ := h
  refine ⟨⟨?_, ?_, ?_, ?_, ?_, ?_, ?_, ?_, ?_, ?_, ?_, ?_, ?_, ?_, ?_, ?_, ?_, ?_, ?_, ?_, ?_, ?_, ?_, ?_, ?_, ?_, ?_, ?_, ?_, ?_, ?_, ?_, ?_, ?_, ?_, ?_, ?_, ?_⟩, Nat.lt_of_lt_of_le s0 hb.size, Nat.lt_of_lt_of_le s1 hb.size, Nat.lt_of_lt_of_le s2 hb.size, Nat.lt_of_lt_of_le s3 hb.size⟩
  · rw [hb.cell s0]; exact h0
  · rw [hb.cell s0]; exact h1
  · rw [hb.cell s0]; exact h2
  · rw [hb.cell s0]; exact h3
  · rw [hb.cell s0]; exact h4
  · rw [hb.cell s0]; exact h5
  · rw [hb.cell s0]; exact h6
  · rw [hb.cell s0]; exact h7
  · rw [hb.cell s0]; exact h8
  · rw [hb.cell s0]; exact h9
  · rw [hb.cell s1]; exact h10
  · rw [hb.cell s1]; exact h11
  · rw [hb.cell s2]; exact h12
  · rw [hb.cell s2]; exact h13
  · rw [hb.cell s2]; exact h14
  · rw [hb.cell s2]; exact h15
  · rw [hb.cell s2]; exact h16
  · rw [hb.cell s2]; exact h17
  · rw [hb.cell s2]; exact h18
  · rw [hb.cell s2]; exact h19
  · rw [hb.cell s2]; exact h20
  · rw [hb.cell s2]; exact h21
  · rw [hb.cell s2]; exact h22
  · rw [hb.cell s2]; exact h23
  · rw [hb.cell s2]; exact h24
  · rw [hb.cell s3]; exact h25
  · rw [hb.cell s3]; exact h26
  · rw [hb.cell s3]; exact h27
  · rw [hb.cell s3]; exact h28
  · rw [hb.cell s3]; exact h29
  · rw [hb.cell s3]; exact h30
  · rw [hb.cell s3]; exact h31
  · rw [hb.cell s3]; exact h32
  · rw [hb.cell s3]; exact h33
  · rw [hb.cell s3]; exact h34
  · rw [hb.cell s3]; exact h35
  · rw [hb.cell s3]; exact h36
  · rw [hb.cell s3]; exact h37

theorem hd_10_2_13_13_set {b0 b1 b2 b3 o0x0 o0x1 o0x2 o0x3 o0x4 o0x5 o0x6 o0x7 o0x8 o0x9 o1x0 o1x1 o2x0 o2x1 o2x2 o2x3 o2x4 o2x5 o2x6 o2x7 o2x8 o2x9 o2x10 o2x11 o2x12 o3x0 o3x1 o3x2 o3x3 o3x4 o3x5 o3x6 o3x7 o3x8 o3x9 o3x10 o3x11 o3x12 : Nat} {v0x0 v0x1 v0x2 v0x3 v0x4 v0x5 v0x6 v0x7 v0x8 v0x9 v1x0 v1x1 v2x0 v2x1 v2x2 v2x3 v2x4 v2x5 v2x6 v2x7 v2x8 v2x9 v2x10 v2x11 v2x12 v3x0 v3x1 v3x2 v3x3 v3x4 v3x5 v3x6 v3x7 v3x8 v3x9 v3x10 v3x11 v3x12 : Value} {W : World} {p : Addr} (h : ((W.cell? ⟨b0, o0x0, none⟩ = some (v0x0) ∧ W.cell? ⟨b0, o0x1, none⟩ = some (v0x1) ∧ W.cell? ⟨b0, o0x2, none⟩ = some (v0x2) ∧ W.cell? ⟨b0, o0x3, none⟩ = some (v0x3) ∧ W.cell? ⟨b0, o0x4, none⟩ = some (v0x4) ∧ W.cell? ⟨b0, o0x5, none⟩ = some (v0x5) ∧ W.cell? ⟨b0, o0x6, none⟩ = some (v0x6) ∧ W.cell? ⟨b0, o0x7, none⟩ = some (v0x7) ∧ W.cell? ⟨b0, o0x8, none⟩ = some (v0x8) ∧ W.cell? ⟨b0, o0x9, none⟩ = some (v0x9) ∧ W.cell? ⟨b1, o1x0, none⟩ = some (v1x0) ∧ W.cell? ⟨b1, o1x1, none⟩ = some (v1x1) ∧ W.cell? ⟨b2, o2x0, none⟩ = some (v2x0) ∧ W.cell? ⟨b2, o2x1, none⟩ = some (v2x1) ∧ W.cell? ⟨b2, o2x2, none⟩ = some (v2x2) ∧ W.cell? ⟨b2, o2x3, none⟩ = some (v2x3) ∧ W.cell? ⟨b2, o2x4, none⟩ = some (v2x4) ∧ W.cell? ⟨b2, o2x5, none⟩ = some (v2x5) ∧ W.cell? ⟨b2, o2x6, none⟩ = some (v2x6) ∧ W.cell? ⟨b2, o2x7, none⟩ = some (v2x7) ∧ W.cell? ⟨b2, o2x8, none⟩ = some (v2x8) ∧ W.cell? ⟨b2, o2x9, none⟩ = some (v2x9) ∧ W.cell? ⟨b2, o2x10, none⟩ = some (v2x10) ∧ W.cell? ⟨b2, o2x11, none⟩ = some (v2x11) ∧ W.cell? ⟨b2, o2x12, none⟩ = some (v2x12) ∧ W.cell? ⟨b3, o3x0, none⟩ = some (v3x0) ∧ W.cell? ⟨b3, o3x1, none⟩ = some (v3x1) ∧ W.cell? ⟨b3, o3x2, none⟩ = some (v3x2) ∧ W.cell? ⟨b3, o3x3, none⟩ = some (v3x3) ∧ W.cell? ⟨b3, o3x4, none⟩ = some (v3x4) ∧ W.cell? ⟨b3, o3x5, none⟩ = some (v3x5) ∧ W.cell? ⟨b3, o3x6, none⟩ = some (v3x6) ∧ W.cell? ⟨b3, o3x7, none⟩ = some (v3x7) ∧ W.cell? ⟨b3, o3x8, none⟩ = some (v3x8) ∧ W.cell? ⟨b3, o3x9, none⟩ = some (v3x9) ∧ W.cell? ⟨b3, o3x10, none⟩ = some (v3x10) ∧ W.cell? ⟨b3, o3x11, none⟩ = some (v3x11) ∧ W.cell? ⟨b3, o3x12, none⟩ = some (v3x12)) ∧ b0 < W.heap.size ∧ b1 < W.heap.size ∧ b2 < W.heap.size ∧ b3 < W.heap.size)) (p0 : p.block ≠ b0) (p1 : p.block ≠ b1) (p2 : p.block ≠ b2) (p3 : p.block ≠ b3) (u : Value) : (((W.setCell p u).cell? ⟨b0, o0x0, none⟩ = some (v0x0) ∧ (W.setCell p u).cell? ⟨b0, o0x1, none⟩ = some (v0x1) ∧ (W.setCell p u).cell? ⟨b0, o0x2, none⟩ = some (v0x2) ∧ (W.setCell p u).cell? ⟨b0, o0x3, none⟩ = some (v0x3) ∧ (W.setCell p u).cell? ⟨b0, o0x4, none⟩ = some (v0x4) ∧ (W.setCell p u).cell? ⟨b0, o0x5, none⟩ = some (v0x5) ∧ (W.setCell p u).cell? ⟨b0, o0x6, none⟩ = some (v0x6) ∧ (W.setCell p u).cell? ⟨b0, o0x7, none⟩ = some (v0x7) ∧ (W.setCell p u).cell? ⟨b0, o0x8, none⟩ = some (v0x8) ∧ (W.setCell p u).cell? ⟨b0, o0x9, none⟩ = some (v0x9) ∧ (W.setCell p u).cell? ⟨b1, o1x0, none⟩ = some (v1x0) ∧ (W.setCell p u).cell? ⟨b1, o1x1, none⟩ = some (v1x1) ∧ (W.setCell p u).cell? ⟨b2, o2x0, none⟩ = some (v2x0) ∧ (W.setCell p u).cell? ⟨b2, o2x1, none⟩ = some (v2x1) ∧ (W.setCell p u).cell? ⟨b2, o2x2, none⟩ = some (v2x2) ∧ (W.setCell p u).cell? ⟨b2, o2x3, none⟩ = some (v2x3) ∧ (W.setCell p u).cell? ⟨b2, o2x4, none⟩ = some (v2x4) ∧ (W.setCell p u).cell? ⟨b2, o2x5, none⟩ = some (v2x5) ∧ (W.setCell p u).cell? ⟨b2, o2x6, none⟩ = some (v2x6) ∧ (W.setCell p u).cell? ⟨b2, o2x7, none⟩ = some (v2x7) ∧ (W.setCell p u).cell? ⟨b2, o2x8, none⟩ = some (v2x8) ∧ (W.setCell p u).cell? ⟨b2, o2x9, none⟩ = some (v2x9) ∧ (W.setCell p u).cell? ⟨b2, o2x10, none⟩ = some (v2x10) ∧ (W.setCell p u).cell? ⟨b2, o2x11, none⟩ = some (v2x11) ∧ (W.setCell p u).cell? ⟨b2, o2x12, none⟩ = some (v2x12) ∧ (W.setCell p u).cell? ⟨b3, o3x0, none⟩ = some (v3x0) ∧ (W.setCell p u).cell? ⟨b3, o3x1, none⟩ = some (v3x1) ∧ (W.setCell p u).cell? ⟨b3, o3x2, none⟩ = some (v3x2) ∧ (W.setCell p u).cell? ⟨b3, o3x3, none⟩ = some (v3x3) ∧ (W.setCell p u).cell? ⟨b3, o3x4, none⟩ = some (v3x4) ∧ (W.setCell p u).cell? ⟨b3, o3x5, none⟩ = some (v3x5) ∧ (W.setCell p u).cell? ⟨b3, o3x6, none⟩ = some (v3x6) ∧ (W.setCell p u).cell? ⟨b3, o3x7, none⟩ = some (v3x7) ∧ (W.setCell p u).cell? ⟨b3, o3x8, none⟩ = some (v3x8) ∧ (W.setCell p u).cell? ⟨b3, o3x9, none⟩ = some (v3x9) ∧ (W.setCell p u).cell? ⟨b3, o3x10, none⟩ = some (v3x10) ∧ (W.setCell p u).cell? ⟨b3, o3x11, none⟩ = some (v3x11) ∧ (W.setCell p u).cell? ⟨b3, o3x12, none⟩ = some (v3x12)) ∧ b0 < (W.setCell p u).heap.size ∧ b1 < (W.setCell p u).heap.size ∧ b2 < (W.setCell p u).heap.size ∧ b3 < (W.setCell p u).heap.size) := by
  obtain ⟨⟨h0, h1, h2, h3, h4, h5, h6, h7, h8, h9, h10, h11, h12, h13, h14, h15, h16, h17, h18, h19, h20, h21, h22, h23, h24, h25, h26, h27, h28, h29, h30, h31, h32, h33, h34, h35, h36, h37⟩, s0, s1, s2, s3⟩ := h
  have hb : W.heap.size ≤ (W.setCell p u).heap.size := by simp [World.setCell]
  refine ⟨⟨?_, ?_, ?_, ?_, ?_, ?_, ?_, ?_, ?_, ?_, ?_, ?_, ?_, ?_, ?_, ?_, ?_, ?_, ?_, ?_, ?_, ?_, ?_, ?_, ?_, ?_, ?_, ?_, ?_, ?_, ?_, ?_, ?_, ?_, ?_, ?_, ?_, ?_⟩, Nat.lt_of_lt_of_le s0 hb, Nat.lt_of_lt_of_le s1 hb, Nat.lt_of_lt_of_le s2 hb, Nat.lt_of_lt_of_le s3 hb⟩
  · rw [cell_set_ne p0]; exact h0
  · rw [cell_set_ne p0]; exact h1
  · rw [cell_set_ne p0]; exact h2
  · rw [cell_set_ne p0]; exact h3
  · rw [cell_set_ne p0]; exact h4
  · rw [cell_set_ne p0]; exact h5
  · rw [cell_set_ne p0]; exact h6
  · rw [cell_set_ne p0]; exact h7
  · rw [cell_set_ne p0]; exact h8
  · rw [cell_set_ne p0]; exact h9
  · rw [cell_set_ne p1]; exact h10
  · rw [cell_set_ne p1]; exact h11
  · rw [cell_set_ne p2]; exact h12
  · rw [cell_set_ne p2]; exact h13
  · rw [cell_set_ne p2]; exact h14
  · rw [cell_set_ne p2]; exact h15
  · rw [cell_set_ne p2]; exact h16
  · rw [cell_set_ne p2]; exact h17
  · rw [cell_set_ne p2]; exact h18
  · rw [cell_set_ne p2]; exact h19
  · rw [cell_set_ne p2]; exact h20
  · rw [cell_set_ne p2]; exact h21
  · rw [cell_set_ne p2]; exact h22
  · rw [cell_set_ne p2]; exact h23
  · rw [cell_set_ne p2]; exact h24
  · rw [cell_set_ne p3]; exact h25
  · rw [cell_set_ne p3]; exact h26
  · rw [cell_set_ne p3]; exact h27
  · rw [cell_set_ne p3]; exact h28
  · rw [cell_set_ne p3]; exact h29
  · rw [cell_set_ne p3]; exact h30
  · rw [cell_set_ne p3]; exact h31
  · rw [cell_set_ne p3]; exact h32
  · rw [cell_set_ne p3]; exact h33
  · rw [cell_set_ne p3]; exact h34
  · rw [cell_set_ne p3]; exact h35
  · rw [cell_set_ne p3]; exact h36
  · rw [cell_set_ne p3]; exact h37

theorem hd_10_2_13_13_re {b0 b1 b2 b3 o0x0 o0x1 o0x2 o0x3 o0x4 o0x5 o0x6 o0x7 o0x8 o0x9 o1x0 o1x1 o2x0 o2x1 o2x2 o2x3 o2x4 o2x5 o2x6 o2x7 o2x8 o2x9 o2x10 o2x11 o2x12 o3x0 o3x1 o3x2 o3x3 o3x4 o3x5 o3x6 o3x7 o3x8 o3x9 o3x10 o3x11 o3x12 : Nat} {v0x0 v0x1 v0x2 v0x3 v0x4 v0x5 v0x6 v0x7 v0x8 v0x9 v1x0 v1x1 v2x0 v2x1 v2x2 v2x3 v2x4 v2x5 v2x6 v2x7 v2x8 v2x9 v2x10 v2x11 v2x12 v3x0 v3x1 v3x2 v3x3 v3x4 v3x5 v3x6 v3x7 v3x8 v3x9 v3x10 v3x11 v3x12 : Value} {W : World} {o o' : Obj} (h : (((W.alloc o).cell? ⟨b0, o0x0, none⟩ = some (v0x0) ∧ (W.alloc o).cell? ⟨b0, o0x1, none⟩ = some (v0x1) ∧ (W.alloc o).cell? ⟨b0, o0x2, none⟩ = some (v0x2) ∧ (W.alloc o).cell? ⟨b0, o0x3, none⟩ = some (v0x3) ∧ (W.alloc o).cell? ⟨b0, o0x4, none⟩ = some (v0x4) ∧ (W.alloc o).cell? ⟨b0, o0x5, none⟩ = some (v0x5) ∧ (W.alloc o).cell? ⟨b0, o0x6, none⟩ = some (v0x6) ∧ (W.alloc o).cell? ⟨b0, o0x7, none⟩ = some (v0x7) ∧ (W.alloc o).cell? ⟨b0, o0x8, none⟩ = some (v0x8) ∧ (W.alloc o).cell? ⟨b0, o0x9, none⟩ = some (v0x9) ∧ (W.alloc o).cell? ⟨b1, o1x0, none⟩ = some (v1x0) ∧ (W.alloc o).cell? ⟨b1, o1x1, none⟩ = some (v1x1) ∧ (W.alloc o).cell? ⟨b2, o2x0, none⟩ = some (v2x0) ∧ (W.alloc o).cell? ⟨b2, o2x1, none⟩ = some (v2x1) ∧ (W.alloc o).cell? ⟨b2, o2x2, none⟩ = some (v2x2) ∧ (W.alloc o).cell? ⟨b2, o2x3, none⟩ = some (v2x3) ∧ (W.alloc o).cell? ⟨b2, o2x4, none⟩ = some (v2x4) ∧ (W.alloc o).cell? ⟨b2, o2x5, none⟩ = some (v2x5) ∧ (W.alloc o).cell? ⟨b2, o2x6, none⟩ = some (v2x6) ∧ (W.alloc o).cell? ⟨b2, o2x7, none⟩ = some (v2x7) ∧ (W.alloc o).cell? ⟨b2, o2x8, none⟩ = some (v2x8) ∧ (W.alloc o).cell? ⟨b2, o2x9, none⟩ = some (v2x9) ∧ (W.alloc o).cell? ⟨b2, o2x10, none⟩ = some (v2x10) ∧ (W.alloc o).cell? ⟨b2, o2x11, none⟩ = some (v2x11) ∧ (W.alloc o).cell? ⟨b2, o2x12, none⟩ = some (v2x12) ∧ (W.alloc o).cell? ⟨b3, o3x0, none⟩ = some (v3x0) ∧ (W.alloc o).cell? ⟨b3, o3x1, none⟩ = some (v3x1) ∧ (W.alloc o).cell? ⟨b3, o3x2, none⟩ = some (v3x2) ∧ (W.alloc o).cell? ⟨b3, o3x3, none⟩ = some (v3x3) ∧ (W.alloc o).cell? ⟨b3, o3x4, none⟩ = some (v3x4) ∧ (W.alloc o).cell? ⟨b3, o3x5, none⟩ = some (v3x5) ∧ (W.alloc o).cell? ⟨b3, o3x6, none⟩ = some (v3x6) ∧ (W.alloc o).cell? ⟨b3, o3x7, none⟩ = some (v3x7) ∧ (W.alloc o).cell? ⟨b3, o3x8, none⟩ = some (v3x8) ∧ (W.alloc o).cell? ⟨b3, o3x9, none⟩ = some (v3x9) ∧ (W.alloc o).cell? ⟨b3, o3x10, none⟩ = some (v3x10) ∧ (W.alloc o).cell? ⟨b3, o3x11, none⟩ = some (v3x11) ∧ (W.alloc o).cell? ⟨b3, o3x12, none⟩ = some (v3x12)) ∧ b0 < (W.alloc o).heap.size ∧ b1 < (W.alloc o).heap.size ∧ b2 < (W.alloc o).heap.size ∧ b3 < (W.alloc o).heap.size)) (p0 : b0 < W.heap.size) (p1 : b1 < W.heap.size) (p2 : b2 < W.heap.size) (p3 : b3 < W.heap.size) : (((W.alloc o').cell? ⟨b0, o0x0, none⟩ = some (v0x0) ∧ (W.alloc o').cell? ⟨b0, o0x1, none⟩ = some (v0x1) ∧ (W.alloc o').cell? ⟨b0, o0x2, none⟩ = some (v0x2) ∧ (W.alloc o').cell? ⟨b0, o0x3, none⟩ = some (v0x3) ∧ (W.alloc o').cell? ⟨b0, o0x4, none⟩ = some (v0x4) ∧ (W.alloc o').cell? ⟨b0, o0x5, none⟩ = some (v0x5) ∧ (W.alloc o').cell? ⟨b0, o0x6, none⟩ = some (v0x6) ∧ (W.alloc o').cell? ⟨b0, o0x7, none⟩ = some (v0x7) ∧ (W.alloc o').cell? ⟨b0, o0x8, none⟩ = some (v0x8) ∧ (W.alloc o').cell? ⟨b0, o0x9, none⟩ = some (v0x9) ∧ (W.alloc o').cell? ⟨b1, o1x0, none⟩ = some (v1x0) ∧ (W.alloc o').cell? ⟨b1, o1x1, none⟩ = some (v1x1) ∧ (W.alloc o').cell? ⟨b2, o2x0, none⟩ = some (v2x0) ∧ (W.alloc o').cell? ⟨b2, o2x1, none⟩ = some (v2x1) ∧ (W.alloc o').cell? ⟨b2, o2x2, none⟩ = some (v2x2) ∧ (W.alloc o').cell? ⟨b2, o2x3, none⟩ = some (v2x3) ∧ (W.alloc o').cell? ⟨b2, o2x4, none⟩ = some (v2x4) ∧ (W.alloc o').cell? ⟨b2, o2x5, none⟩ = some (v2x5) ∧ (W.alloc o').cell? ⟨b2, o2x6, none⟩ = some (v2x6) ∧ (W.alloc o').cell? ⟨b2, o2x7, none⟩ = some (v2x7) ∧ (W.alloc o').cell? ⟨b2, o2x8, none⟩ = some (v2x8) ∧ (W.alloc o').cell? ⟨b2, o2x9, none⟩ = some (v2x9) ∧ (W.alloc o').cell? ⟨b2, o2x10, none⟩ = some (v2x10) ∧ (W.alloc o').cell? ⟨b2, o2x11, none⟩ = some (v2x11) ∧ (W.alloc o').cell? ⟨b2, o2x12, none⟩ = some (v2x12) ∧ (W.alloc o').cell? ⟨b3, o3x0, none⟩ = some (v3x0) ∧ (W.alloc o').cell? ⟨b3, o3x1, none⟩ = some (v3x1) ∧ (W.alloc o').cell? ⟨b3, o3x2, none⟩ = some (v3x2) ∧ (W.alloc o').cell? ⟨b3, o3x3, none⟩ = some (v3x3) ∧ (W.alloc o').cell? ⟨b3, o3x4, none⟩ = some (v3x4) ∧ (W.alloc o').cell? ⟨b3, o3x5, none⟩ = some (v3x5) ∧ (W.alloc o').cell? ⟨b3, o3x6, none⟩ = some (v3x6) ∧ (W.alloc o').cell? ⟨b3, o3x7, none⟩ = some (v3x7) ∧ (W.alloc o').cell? ⟨b3, o3x8, none⟩ = some (v3x8) ∧ (W.alloc o').cell? ⟨b3, o3x9, none⟩ = some (v3x9) ∧ (W.alloc o').cell? ⟨b3, o3x10, none⟩ = some (v3x10) ∧ (W.alloc o').cell? ⟨b3, o3x11, none⟩ = some (v3x11) ∧ (W.alloc o').cell? ⟨b3, o3x12, none⟩ = some (v3x12)) ∧ b0 < (W.alloc o').heap.size ∧ b1 < (W.alloc o').heap.size ∧ b2 < (W.alloc o').heap.size ∧ b3 < (W.alloc o').heap.size) := by
  obtain ⟨⟨h0, h1, h2, h3, h4, h5, h6, h7, h8, h9, h10, h11, h12, h13, h14, h15, h16, h17, h18, h19, h20, h21, h22, h23, h24, h25, h26, h27, h28, h29, h30, h31, h32, h33, h34, h35, h36, h37⟩, s0, s1, s2, s3⟩ := h
  have hb : Below W.heap.size (W.alloc o) (W.alloc o') := bel_re W o o'
  refine ⟨⟨?_, ?_, ?_, ?_, ?_, ?_, ?_, ?_, ?_, ?_, ?_, ?_, ?_, ?_, ?_, ?_, ?_, ?_, ?_, ?_, ?_, ?_, ?_, ?_, ?_, ?_, ?_, ?_, ?_, ?_, ?_, ?_, ?_, ?_, ?_, ?_, ?_, ?_⟩, Nat.lt_of_lt_of_le s0 hb.size, Nat.lt_of_lt_of_le s1 hb.size, Nat.lt_of_lt_of_le s2 hb.size, Nat.lt_of_lt_of_le s3 hb.size⟩
  · rw [hb.cell p0]; exact h0
  · rw [hb.cell p0]; exact h1
  · rw [hb.cell p0]; exact h2
  · rw [hb.cell p0]; exact h3
  · rw [hb.cell p0]; exact h4
  · rw [hb.cell p0]; exact h5
  · rw [hb.cell p0]; exact h6
  · rw [hb.cell p0]; exact h7
  · rw [hb.cell p0]; exact h8
  · rw [hb.cell p0]; exact h9
  · rw [hb.cell p1]; exact h10
  · rw [hb.cell p1]; exact h11
  · rw [hb.cell p2]; exact h12
  · rw [hb.cell p2]; exact h13
  · rw [hb.cell p2]; exact h14
  · rw [hb.cell p2]; exact h15
  · rw [hb.cell p2]; exact h16
  · rw [hb.cell p2]; exact h17
  · rw [hb.cell p2]; exact h18
  · rw [hb.cell p2]; exact h19
  · rw [hb.cell p2]; exact h20
  · rw [hb.cell p2]; exact h21
  · rw [hb.cell p2]; exact h22
  · rw [hb.cell p2]; exact h23
  · rw [hb.cell p2]; exact h24
  · rw [hb.cell p3]; exact h25
  · rw [hb.cell p3]; exact h26
  · rw [hb.cell p3]; exact h27
  · rw [hb.cell p3]; exact h28
  · rw [hb.cell p3]; exact h29
  · rw [hb.cell p3]; exact h30
  · rw [hb.cell p3]; exact h31
  · rw [hb.cell p3]; exact h32
  · rw [hb.cell p3]; exact h33
  · rw [hb.cell p3]; exact h34
  · rw [hb.cell p3]; exact h35
  · rw [hb.cell p3]; exact h36
  · rw [hb.cell p3]; exact h37

set_option linter.unusedSimpArgs false in
set_option maxRecDepth 20000 in
set_option maxHeartbeats 8000000 in
theorem implopok_any (s t k z p l e : Int) (b : Bool) (v r : Int) (m : Int) (a : Option Addr) (len cap : Nat) (xs : List OrR) (w : World) (h : OrRs w a len xs) : Calls Try.prog 21 #[.agg #[.int .i64 s, .int .i64 t, .int .i64 k, .int .i64 z, .int .i64 p, .int .i64 l, .int .i64 e, .bool b, .int .i64 v, .int .i64 r], .agg #[.int .i64 m, .slice a len cap]] w fun e' w' => e' = .returned (.bool (okOp s t k z p l e v r m xs)) ∧ Below w.heap.size w w' := by
  have hm := h.2.1
  unfold maxLen at hm
  have hxl0 := h.1
  cases c0 : okJob s t k z p l e v r
  · have hq : Hid (okOp s t k z p l e v r m xs = false) := hide (okOp_j c0)
    go_enter Try.func21, Try.ntmps21
    go_wp2_with (first
      | (go_at_call 36; refine (impljobok_any _ _ _ _ _ _ _ _ _ _ _).mono ?_; rintro e w' ⟨rfl, hb⟩; obtain ⟨hc, hf, hs⟩ := bcell hb; (try have hz0 : w.heap.size < w'.heap.size := (by have h9 := hb.size; (try simp at h9); omega)); (try have hz1 : w.heap.size + 1 < w'.heap.size := (by have h9 := hb.size; (try simp at h9); omega)))
      | (go_at_call 22; refine (within_any _ _ _ _).mono ?_; rintro e' w' ⟨rfl, rfl⟩))
    go_ret
    exact ⟨ret_b (unhide hq).symm, (by repeat (first | (with_reducible refine bel_set ?_ (by first | (simp; done) | (simp; omega)) _) | (with_reducible refine bel_alloc ?_ _) | (with_reducible exact Below.refl _ _) | (with_reducible assumption) | (with_reducible refine bel_drew ?_) | (with_reducible refine bel_drewN ?_ _) | (with_reducible refine bel_trans ?_ (by with_reducible assumption))))⟩
  cases c1 : inB m 0 1000
  · have hq : Hid (okOp s t k z p l e v r m xs = false) := hide (okOp_m c1)
    go_enter Try.func21, Try.ntmps21
    go_wp2_with (first
      | (go_at_call 36; refine (impljobok_any _ _ _ _ _ _ _ _ _ _ _).mono ?_; rintro e w' ⟨rfl, hb⟩; obtain ⟨hc, hf, hs⟩ := bcell hb; (try have hz0 : w.heap.size < w'.heap.size := (by have h9 := hb.size; (try simp at h9); omega)); (try have hz1 : w.heap.size + 1 < w'.heap.size := (by have h9 := hb.size; (try simp at h9); omega)))
      | (go_at_call 22; refine (within_any _ _ _ _).mono ?_; rintro e' w' ⟨rfl, rfl⟩))
    go_ret
    exact ⟨ret_b (unhide hq).symm, (by repeat (first | (with_reducible refine bel_set ?_ (by first | (simp; done) | (simp; omega)) _) | (with_reducible refine bel_alloc ?_ _) | (with_reducible exact Below.refl _ _) | (with_reducible assumption) | (with_reducible refine bel_drew ?_) | (with_reducible refine bel_drewN ?_ _) | (with_reducible refine bel_trans ?_ (by with_reducible assumption))))⟩
  by_cases c2 : (len : Int) ≤ 300
  · have hO : Hid (okOp s t k z p l e v r m xs = okUp k l m xs xs.length) := hide (okOp_t c0 c1 (by omega))
    have hl := okJob_l c0
    go_enter Try.func21, Try.ntmps21
    go_wp2_with (first
      | (go_at_call 36; refine (impljobok_any _ _ _ _ _ _ _ _ _ _ _).mono ?_; rintro e w' ⟨rfl, hb⟩; obtain ⟨hc, hf, hs⟩ := bcell hb; (try have hz0 : w.heap.size < w'.heap.size := (by have h9 := hb.size; (try simp at h9); omega)); (try have hz1 : w.heap.size + 1 < w'.heap.size := (by have h9 := hb.size; (try simp at h9); omega)))
      | (go_at_call 22; refine (within_any _ _ _ _).mono ?_; rintro e' w' ⟨rfl, rfl⟩))
    clear hc hf hs
    go_loopw [25] (fun iv wr => ∃ i : Nat, i ≤ len ∧ iv = .int .i64 i ∧ Hid (okUp k l m xs i = true) ∧ Below ((w.alloc (.cells #[.int .i64 s, .int .i64 t, .int .i64 k, .int .i64 z, .int .i64 p, .int .i64 l, .int .i64 e, .bool b, .int .i64 v, .int .i64 r] 34)).alloc (.cells #[.int .i64 m, .slice a len cap] 30)).heap.size ((w.alloc (.cells #[.int .i64 s, .int .i64 t, .int .i64 k, .int .i64 z, .int .i64 p, .int .i64 l, .int .i64 e, .bool b, .int .i64 v, .int .i64 r] 34)).alloc (.cells #[.int .i64 m, .slice a len cap] 30)) wr) (fun iv _ => len - (intOf iv).toNat)
    case atStart => exact ⟨0, Nat.zero_le _, rfl, hide rfl, hb⟩
    case round =>
      obtain ⟨i, hi, rfl, hN, hbw⟩ := hrel
      rename World => wo
      have hb0 : Below w.heap.size w wo := bel_trans (bel_alloc (bel_one _ _) _) hbw
      have hz1 : w.heap.size + 1 < wo.heap.size := by have := hbw.size; simp at this; omega
      have hz0 : w.heap.size < wo.heap.size := by omega
      have j0 : wo.cell? ⟨w.heap.size, 0, none⟩ = some (.int .i64 s) := (hbw.cell (p := ⟨w.heap.size, 0, none⟩) (by simp; try omega)).trans (by simp [go_sem])
      have j1 : wo.cell? ⟨w.heap.size, 1, none⟩ = some (.int .i64 t) := (hbw.cell (p := ⟨w.heap.size, 1, none⟩) (by simp; try omega)).trans (by simp [go_sem])
      have j2 : wo.cell? ⟨w.heap.size, 2, none⟩ = some (.int .i64 k) := (hbw.cell (p := ⟨w.heap.size, 2, none⟩) (by simp; try omega)).trans (by simp [go_sem])
      have j3 : wo.cell? ⟨w.heap.size, 3, none⟩ = some (.int .i64 z) := (hbw.cell (p := ⟨w.heap.size, 3, none⟩) (by simp; try omega)).trans (by simp [go_sem])
      have j4 : wo.cell? ⟨w.heap.size, 4, none⟩ = some (.int .i64 p) := (hbw.cell (p := ⟨w.heap.size, 4, none⟩) (by simp; try omega)).trans (by simp [go_sem])
      have j5 : wo.cell? ⟨w.heap.size, 5, none⟩ = some (.int .i64 l) := (hbw.cell (p := ⟨w.heap.size, 5, none⟩) (by simp; try omega)).trans (by simp [go_sem])
      have j6 : wo.cell? ⟨w.heap.size, 6, none⟩ = some (.int .i64 e) := (hbw.cell (p := ⟨w.heap.size, 6, none⟩) (by simp; try omega)).trans (by simp [go_sem])
      have j7 : wo.cell? ⟨w.heap.size, 7, none⟩ = some (.bool b) := (hbw.cell (p := ⟨w.heap.size, 7, none⟩) (by simp; try omega)).trans (by simp [go_sem])
      have j8 : wo.cell? ⟨w.heap.size, 8, none⟩ = some (.int .i64 v) := (hbw.cell (p := ⟨w.heap.size, 8, none⟩) (by simp; try omega)).trans (by simp [go_sem])
      have j9 : wo.cell? ⟨w.heap.size, 9, none⟩ = some (.int .i64 r) := (hbw.cell (p := ⟨w.heap.size, 9, none⟩) (by simp; try omega)).trans (by simp [go_sem])
      have s0 : wo.cell? ⟨w.heap.size + 1, 0, none⟩ = some (.int .i64 m) := (hbw.cell (p := ⟨w.heap.size + 1, 0, none⟩) (by simp; try omega)).trans (by simp [go_sem])
      have s1 : wo.cell? ⟨w.heap.size + 1, 1, none⟩ = some (.slice a len cap) := (hbw.cell (p := ⟨w.heap.size + 1, 1, none⟩) (by simp; try omega)).trans (by simp [go_sem])
      by_cases hlt : i < len
      · obtain ⟨hxl, hmx, hx⟩ := h
        obtain ⟨g, o, rfl, hr⟩ := hx.resolve_left (by omega)
        obtain ⟨x, hxk⟩ : ∃ x, xs[i]? = some x := ⟨_, List.getElem?_eq_getElem (by omega)⟩
        have hg : g < w.heap.size := hr.lt (by omega)
        have hX := hide hxk
        have HR := hide hr
        obtain ⟨d0, d1, d2, d3, d4, d5, d6, d7, d8, d9, d10, d11, d12⟩ := (hr i _ hxk).below hb0 hg
        have hgo : g < wo.heap.size := Nat.lt_of_lt_of_le hg hb0.size
        clear hx hxk hr
        by_cases h0 : i = 0
        · have hZ := hide h0
          have hpd : decide ((0 : Int) < ↑i) = false := decide_eq_false (by omega)
          have hpe : decide (0 < i) = false := decide_eq_false (by omega)
          clear h0
          cases d : x.okB l m
          · have hq : Hid (okOp s t k z p l e v r m xs = false) := hide ((unhide hO).trans (okUp_bad (by omega) (okAt_row (unhide hX) d)))
            have d' : okRow l m x.ky x.st x.en x.an x.asu x.ale x.amo x.fn x.fsu x.fle x.fmo x.td x.tm = false := d
            clear d
            go_wp2
            refine wp_region_held_drew (S := (fun W => ((W.cell? ⟨w.heap.size, 0, none⟩ = some (.int .i64 s) ∧ W.cell? ⟨w.heap.size, 1, none⟩ = some (.int .i64 t) ∧ W.cell? ⟨w.heap.size, 2, none⟩ = some (.int .i64 k) ∧ W.cell? ⟨w.heap.size, 3, none⟩ = some (.int .i64 z) ∧ W.cell? ⟨w.heap.size, 4, none⟩ = some (.int .i64 p) ∧ W.cell? ⟨w.heap.size, 5, none⟩ = some (.int .i64 l) ∧ W.cell? ⟨w.heap.size, 6, none⟩ = some (.int .i64 e) ∧ W.cell? ⟨w.heap.size, 7, none⟩ = some (.bool b) ∧ W.cell? ⟨w.heap.size, 8, none⟩ = some (.int .i64 v) ∧ W.cell? ⟨w.heap.size, 9, none⟩ = some (.int .i64 r) ∧ W.cell? ⟨w.heap.size + 1, 0, none⟩ = some (.int .i64 m) ∧ W.cell? ⟨w.heap.size + 1, 1, none⟩ = some (.slice (some ⟨g, o, none⟩) len cap) ∧ W.cell? ⟨wo.heap.size, 0, none⟩ = some (.int .i64 x.ky) ∧ W.cell? ⟨wo.heap.size, 1, none⟩ = some (.int .i64 x.st) ∧ W.cell? ⟨wo.heap.size, 2, none⟩ = some (.int .i64 x.en) ∧ W.cell? ⟨wo.heap.size, 3, none⟩ = some (.int .i64 x.an) ∧ W.cell? ⟨wo.heap.size, 4, none⟩ = some (.int .i64 x.asu) ∧ W.cell? ⟨wo.heap.size, 5, none⟩ = some (.int .i64 x.ale) ∧ W.cell? ⟨wo.heap.size, 6, none⟩ = some (.int .i64 x.amo) ∧ W.cell? ⟨wo.heap.size, 7, none⟩ = some (.int .i64 x.fn) ∧ W.cell? ⟨wo.heap.size, 8, none⟩ = some (.int .i64 x.fsu) ∧ W.cell? ⟨wo.heap.size, 9, none⟩ = some (.int .i64 x.fle) ∧ W.cell? ⟨wo.heap.size, 10, none⟩ = some (.int .i64 x.fmo) ∧ W.cell? ⟨wo.heap.size, 11, none⟩ = some (.int .i64 x.td) ∧ W.cell? ⟨wo.heap.size, 12, none⟩ = some (.bool x.tm)) ∧ w.heap.size < W.heap.size ∧ w.heap.size + 1 < W.heap.size ∧ wo.heap.size < W.heap.size))) (by kernel_rfl) ?_ (fun hHeld => ?_)
            · (try dsimp only); ((first | ((repeat (first | (with_reducible assumption) | (with_reducible refine hd_10_2_13 ?_ (by with_reducible assumption)) | (with_reducible refine hd_10_2_13 ?_ (bel_drew (Below.refl _ _))) | (with_reducible exact hd_10_2_13_re (by with_reducible assumption) (by first | omega | (simp; done) | (simp; omega)) (by first | omega | (simp; done) | (simp; omega)) (by first | omega | (simp; done) | (simp; omega))) | (with_reducible refine hd_10_2_13 ?_ (bel_one _ _)) | (with_reducible refine hd_10_2_13_set ?_ (by first | omega | (simp; done) | (simp; omega)) (by first | omega | (simp; done) | (simp; omega)) (by first | omega | (simp; done) | (simp; omega)) _))); done) | (refine ⟨⟨?_, ?_, ?_, ?_, ?_, ?_, ?_, ?_, ?_, ?_, ?_, ?_, ?_, ?_, ?_, ?_, ?_, ?_, ?_, ?_, ?_, ?_, ?_, ?_, ?_⟩, ?_, ?_, ?_⟩ <;> first | (go_keep; done) | (simp; done) | (simp; omega) | omega)))
            refine wpAnyH_take (i := 0) (v := ?_) (by simp only [List.getElem?_toArray, List.getElem?_cons_zero, List.getElem?_cons_succ]; rfl) (by kernel_rfl) (by kernel_rfl) (by kernel_rfl) (by intro _ _ _ h; exact h) (Or.inl ⟨by rfl, ?_⟩) (by assumption) ?_
            rotate_left
            · (intro w9 hSw; (try dsimp only at hSw); go_simp <;> with_reducible rfl)
            try simp only [Act.put, List.setIfInBounds_toArray, List.set_cons_zero, List.set_cons_succ]
            refine wpAnyH_take (i := 1) (v := ?_) (by simp only [List.getElem?_toArray, List.getElem?_cons_zero, List.getElem?_cons_succ]; rfl) (by kernel_rfl) (by kernel_rfl) (by kernel_rfl) (by intro _ _ _ h; exact h) (Or.inl ⟨by rfl, ?_⟩) (by assumption) ?_
            rotate_left
            · (intro w9 hSw; (try dsimp only at hSw); go_simp <;> with_reducible rfl)
            try simp only [Act.put, List.setIfInBounds_toArray, List.set_cons_zero, List.set_cons_succ]
            refine wpAnyH_take (i := 2) (v := ?_) (by simp only [List.getElem?_toArray, List.getElem?_cons_zero, List.getElem?_cons_succ]; rfl) (by kernel_rfl) (by kernel_rfl) (by kernel_rfl) (by intro _ _ _ h; exact h) (Or.inl ⟨by rfl, ?_⟩) (by assumption) ?_
            rotate_left
            · (intro w9 hSw; (try dsimp only at hSw); go_simp <;> with_reducible rfl)
            try simp only [Act.put, List.setIfInBounds_toArray, List.set_cons_zero, List.set_cons_succ]
            refine wpAnyH_take (i := 3) (v := ?_) (by simp only [List.getElem?_toArray, List.getElem?_cons_zero, List.getElem?_cons_succ]; rfl) (by kernel_rfl) (by kernel_rfl) (by kernel_rfl) (by intro _ _ _ h; exact h) (Or.inl ⟨by rfl, ?_⟩) (by assumption) ?_
            rotate_left
            · (intro w9 hSw; (try dsimp only at hSw); go_simp <;> with_reducible rfl)
            try simp only [Act.put, List.setIfInBounds_toArray, List.set_cons_zero, List.set_cons_succ]
            refine wpAnyH_take (i := 4) (v := ?_) (by simp only [List.getElem?_toArray, List.getElem?_cons_zero, List.getElem?_cons_succ]; rfl) (by kernel_rfl) (by kernel_rfl) (by kernel_rfl) (by intro _ _ _ h; exact h) (Or.inl ⟨by rfl, ?_⟩) (by assumption) ?_
            rotate_left
            · (intro w9 hSw; (try dsimp only at hSw); go_simp <;> with_reducible rfl)
            try simp only [Act.put, List.setIfInBounds_toArray, List.set_cons_zero, List.set_cons_succ]
            refine wpAnyH_ready (rs := [5]) (by kernel_rfl) (by simp) ?_
            refine AllReadyH.cons (by simp only [List.getElem?_toArray, List.getElem?_cons_zero, List.getElem?_cons_succ]; rfl) (fun K hK => ?_) AllReadyH.nil
            go_simp
            (go_at_call 37; refine (rowok_any _ _ _ _ _ _ _ _ _ _ _ _ _ _ _ hl _).mono ?_; rintro e w' ⟨rfl, hb⟩; obtain ⟨hc, hf, hs⟩ := bcell hb)
            (try go_wp2_with fail)
            refine hK.out _ _ ?_ (fun hHeld2 => ?_)
            · (try dsimp only); ((first | ((repeat (first | (with_reducible assumption) | (with_reducible refine hd_10_2_13 ?_ (by with_reducible assumption)) | (with_reducible refine hd_10_2_13 ?_ (bel_drew (Below.refl _ _))) | (with_reducible exact hd_10_2_13_re (by with_reducible assumption) (by first | omega | (simp; done) | (simp; omega)) (by first | omega | (simp; done) | (simp; omega)) (by first | omega | (simp; done) | (simp; omega))) | (with_reducible refine hd_10_2_13 ?_ (bel_one _ _)) | (with_reducible refine hd_10_2_13_set ?_ (by first | omega | (simp; done) | (simp; omega)) (by first | omega | (simp; done) | (simp; omega)) (by first | omega | (simp; done) | (simp; omega)) _))); done) | (refine ⟨⟨?_, ?_, ?_, ?_, ?_, ?_, ?_, ?_, ?_, ?_, ?_, ?_, ?_, ?_, ?_, ?_, ?_, ?_, ?_, ?_, ?_, ?_, ?_, ?_, ?_⟩, ?_, ?_, ?_⟩ <;> first | (go_keep; done) | (simp; done) | (simp; omega) | omega)))
            clear hK K hHeld
            have hHeld := hHeld2
            clear hHeld2
            try simp only [Act.put, List.setIfInBounds_toArray, List.set_cons_zero, List.set_cons_succ]
            refine wpAnyH_take (i := 6) (v := ?_) (by simp only [List.getElem?_toArray, List.getElem?_cons_zero, List.getElem?_cons_succ]; rfl) (by kernel_rfl) (by kernel_rfl) (by kernel_rfl) (by intro _ _ _ h; exact h) (Or.inl ⟨by rfl, ?_⟩) (by assumption) ?_
            rotate_left
            · (intro w9 hSw; (try dsimp only at hSw); go_simp <;> with_reducible rfl)
            try simp only [Act.put, List.setIfInBounds_toArray, List.set_cons_zero, List.set_cons_succ]
            refine wpAnyH_take (i := 7) (v := ?_) (by simp only [List.getElem?_toArray, List.getElem?_cons_zero, List.getElem?_cons_succ]; rfl) (by kernel_rfl) (by kernel_rfl) (by kernel_rfl) (by intro _ _ _ h; exact h) (Or.inl ⟨by rfl, ?_⟩) (by assumption) ?_
            rotate_left
            · (intro w9 hSw; (try dsimp only at hSw); go_simp <;> with_reducible rfl)
            try simp only [Act.put, List.setIfInBounds_toArray, List.set_cons_zero, List.set_cons_succ]
            refine wpAnyH_take (i := 8) (v := undef) (by simp only [List.getElem?_toArray, List.getElem?_cons_zero, List.getElem?_cons_succ]; rfl) (by kernel_rfl) (by kernel_rfl) (by kernel_rfl) (by intro _ _ _ h; exact h) (Or.inr ⟨by rfl, rfl⟩) (by assumption) ?_
            try simp only [Act.put, List.setIfInBounds_toArray, List.set_cons_zero, List.set_cons_succ]
            refine wpAnyH_take (i := 9) (v := undef) (by simp only [List.getElem?_toArray, List.getElem?_cons_zero, List.getElem?_cons_succ]; rfl) (by kernel_rfl) (by kernel_rfl) (by kernel_rfl) (by intro _ _ _ h; exact h) (Or.inr ⟨by rfl, rfl⟩) (by assumption) ?_
            try simp only [Act.put, List.setIfInBounds_toArray, List.set_cons_zero, List.set_cons_succ]
            refine wpAnyH_take (i := 10) (v := undef) (by simp only [List.getElem?_toArray, List.getElem?_cons_zero, List.getElem?_cons_succ]; rfl) (by kernel_rfl) (by kernel_rfl) (by kernel_rfl) (by intro _ _ _ h; exact h) (Or.inr ⟨by rfl, rfl⟩) (by assumption) ?_
            try simp only [Act.put, List.setIfInBounds_toArray, List.set_cons_zero, List.set_cons_succ]
            refine wpAnyH_take (i := 11) (v := undef) (by simp only [List.getElem?_toArray, List.getElem?_cons_zero, List.getElem?_cons_succ]; rfl) (by kernel_rfl) (by kernel_rfl) (by kernel_rfl) (by intro _ _ _ h; exact h) (Or.inr ⟨by rfl, rfl⟩) (by assumption) ?_
            try simp only [Act.put, List.setIfInBounds_toArray, List.set_cons_zero, List.set_cons_succ]
            refine wpAnyH_take (i := 12) (v := undef) (by simp only [List.getElem?_toArray, List.getElem?_cons_zero, List.getElem?_cons_succ]; rfl) (by kernel_rfl) (by kernel_rfl) (by kernel_rfl) (by intro _ _ _ h; exact h) (Or.inr ⟨by rfl, rfl⟩) (by assumption) ?_
            try simp only [Act.put, List.setIfInBounds_toArray, List.set_cons_zero, List.set_cons_succ]
            refine wpAnyH_take (i := 13) (v := undef) (by simp only [List.getElem?_toArray, List.getElem?_cons_zero, List.getElem?_cons_succ]; rfl) (by kernel_rfl) (by kernel_rfl) (by kernel_rfl) (by intro _ _ _ h; exact h) (Or.inr ⟨by rfl, rfl⟩) (by assumption) ?_
            try simp only [Act.put, List.setIfInBounds_toArray, List.set_cons_zero, List.set_cons_succ]
            refine wpAnyH_take (i := 14) (v := undef) (by simp only [List.getElem?_toArray, List.getElem?_cons_zero, List.getElem?_cons_succ]; rfl) (by kernel_rfl) (by kernel_rfl) (by kernel_rfl) (by intro _ _ _ h; exact h) (Or.inr ⟨by rfl, rfl⟩) (by assumption) ?_
            try simp only [Act.put, List.setIfInBounds_toArray, List.set_cons_zero, List.set_cons_succ]
            refine wpAnyH_take (i := 15) (v := undef) (by simp only [List.getElem?_toArray, List.getElem?_cons_zero, List.getElem?_cons_succ]; rfl) (by kernel_rfl) (by kernel_rfl) (by kernel_rfl) (by intro _ _ _ h; exact h) (Or.inr ⟨by rfl, rfl⟩) (by assumption) ?_
            try simp only [Act.put, List.setIfInBounds_toArray, List.set_cons_zero, List.set_cons_succ]
            refine wpAnyH_take (i := 16) (v := undef) (by simp only [List.getElem?_toArray, List.getElem?_cons_zero, List.getElem?_cons_succ]; rfl) (by kernel_rfl) (by kernel_rfl) (by kernel_rfl) (by intro _ _ _ h; exact h) (Or.inr ⟨by rfl, rfl⟩) (by assumption) ?_
            try simp only [Act.put, List.setIfInBounds_toArray, List.set_cons_zero, List.set_cons_succ]
            refine wpAnyH_take (i := 17) (v := undef) (by simp only [List.getElem?_toArray, List.getElem?_cons_zero, List.getElem?_cons_succ]; rfl) (by kernel_rfl) (by kernel_rfl) (by kernel_rfl) (by intro _ _ _ h; exact h) (Or.inr ⟨by rfl, rfl⟩) (by assumption) ?_
            try simp only [Act.put, List.setIfInBounds_toArray, List.set_cons_zero, List.set_cons_succ]
            refine wpAnyH_take (i := 18) (v := undef) (by simp only [List.getElem?_toArray, List.getElem?_cons_zero, List.getElem?_cons_succ]; rfl) (by kernel_rfl) (by kernel_rfl) (by kernel_rfl) (by intro _ _ _ h; exact h) (Or.inr ⟨by rfl, rfl⟩) (by assumption) ?_
            try simp only [Act.put, List.setIfInBounds_toArray, List.set_cons_zero, List.set_cons_succ]
            refine wpAnyH_take (i := 19) (v := undef) (by simp only [List.getElem?_toArray, List.getElem?_cons_zero, List.getElem?_cons_succ]; rfl) (by kernel_rfl) (by kernel_rfl) (by kernel_rfl) (by intro _ _ _ h; exact h) (Or.inr ⟨by rfl, rfl⟩) (by assumption) ?_
            try simp only [Act.put, List.setIfInBounds_toArray, List.set_cons_zero, List.set_cons_succ]
            refine wpAnyH_take (i := 20) (v := undef) (by simp only [List.getElem?_toArray, List.getElem?_cons_zero, List.getElem?_cons_succ]; rfl) (by kernel_rfl) (by kernel_rfl) (by kernel_rfl) (by intro _ _ _ h; exact h) (Or.inr ⟨by rfl, rfl⟩) (by assumption) ?_
            try simp only [Act.put, List.setIfInBounds_toArray, List.set_cons_zero, List.set_cons_succ]
            refine wpAnyH_take (i := 21) (v := undef) (by simp only [List.getElem?_toArray, List.getElem?_cons_zero, List.getElem?_cons_succ]; rfl) (by kernel_rfl) (by kernel_rfl) (by kernel_rfl) (by intro _ _ _ h; exact h) (Or.inr ⟨by rfl, rfl⟩) (by assumption) ?_
            try simp only [Act.put, List.setIfInBounds_toArray, List.set_cons_zero, List.set_cons_succ]
            refine wpAnyH_take (i := 22) (v := undef) (by simp only [List.getElem?_toArray, List.getElem?_cons_zero, List.getElem?_cons_succ]; rfl) (by kernel_rfl) (by kernel_rfl) (by kernel_rfl) (by intro _ _ _ h; exact h) (Or.inr ⟨by rfl, rfl⟩) (by assumption) ?_
            try simp only [Act.put, List.setIfInBounds_toArray, List.set_cons_zero, List.set_cons_succ]
            refine wpAnyH_take (i := 23) (v := ?_) (by simp only [List.getElem?_toArray, List.getElem?_cons_zero, List.getElem?_cons_succ]; rfl) (by kernel_rfl) (by kernel_rfl) (by kernel_rfl) (by intro _ _ _ h; exact h) (Or.inl ⟨by rfl, ?_⟩) (by assumption) ?_
            rotate_left
            · (intro w9 hSw; (try dsimp only at hSw); go_simp <;> with_reducible rfl)
            try simp only [Act.put, List.setIfInBounds_toArray, List.set_cons_zero, List.set_cons_succ]
            refine wpAnyH_done (by kernel_rfl) ?_ _
            all_goals
              go_wp2
              go_ret
              exact ⟨ret_b (unhide hq).symm, (by repeat (first | (with_reducible exact Below.refl _ _) | (with_reducible assumption) | (with_reducible refine bel_set ?_ (by first | (simp; done) | (simp; omega)) _) | (with_reducible refine bel_alloc ?_ _) | (with_reducible refine bel_drew ?_) | (with_reducible refine bel_drewN ?_ _) | (with_reducible refine bel_trans ?_ (by with_reducible assumption))))⟩
          · have hN' : Hid (okUp k l m xs (i + 1) = true) := hide (by rw [okUp_succ, unhide hN, okAt_z' (unhide hZ) (unhide hX), d]; rfl)
            have d' : okRow l m x.ky x.st x.en x.an x.asu x.ale x.amo x.fn x.fsu x.fle x.fmo x.td x.tm = true := d
            clear d
            go_wp2
            refine wp_region_held_drew (S := (fun W => ((W.cell? ⟨w.heap.size, 0, none⟩ = some (.int .i64 s) ∧ W.cell? ⟨w.heap.size, 1, none⟩ = some (.int .i64 t) ∧ W.cell? ⟨w.heap.size, 2, none⟩ = some (.int .i64 k) ∧ W.cell? ⟨w.heap.size, 3, none⟩ = some (.int .i64 z) ∧ W.cell? ⟨w.heap.size, 4, none⟩ = some (.int .i64 p) ∧ W.cell? ⟨w.heap.size, 5, none⟩ = some (.int .i64 l) ∧ W.cell? ⟨w.heap.size, 6, none⟩ = some (.int .i64 e) ∧ W.cell? ⟨w.heap.size, 7, none⟩ = some (.bool b) ∧ W.cell? ⟨w.heap.size, 8, none⟩ = some (.int .i64 v) ∧ W.cell? ⟨w.heap.size, 9, none⟩ = some (.int .i64 r) ∧ W.cell? ⟨w.heap.size + 1, 0, none⟩ = some (.int .i64 m) ∧ W.cell? ⟨w.heap.size + 1, 1, none⟩ = some (.slice (some ⟨g, o, none⟩) len cap) ∧ W.cell? ⟨wo.heap.size, 0, none⟩ = some (.int .i64 x.ky) ∧ W.cell? ⟨wo.heap.size, 1, none⟩ = some (.int .i64 x.st) ∧ W.cell? ⟨wo.heap.size, 2, none⟩ = some (.int .i64 x.en) ∧ W.cell? ⟨wo.heap.size, 3, none⟩ = some (.int .i64 x.an) ∧ W.cell? ⟨wo.heap.size, 4, none⟩ = some (.int .i64 x.asu) ∧ W.cell? ⟨wo.heap.size, 5, none⟩ = some (.int .i64 x.ale) ∧ W.cell? ⟨wo.heap.size, 6, none⟩ = some (.int .i64 x.amo) ∧ W.cell? ⟨wo.heap.size, 7, none⟩ = some (.int .i64 x.fn) ∧ W.cell? ⟨wo.heap.size, 8, none⟩ = some (.int .i64 x.fsu) ∧ W.cell? ⟨wo.heap.size, 9, none⟩ = some (.int .i64 x.fle) ∧ W.cell? ⟨wo.heap.size, 10, none⟩ = some (.int .i64 x.fmo) ∧ W.cell? ⟨wo.heap.size, 11, none⟩ = some (.int .i64 x.td) ∧ W.cell? ⟨wo.heap.size, 12, none⟩ = some (.bool x.tm)) ∧ w.heap.size < W.heap.size ∧ w.heap.size + 1 < W.heap.size ∧ wo.heap.size < W.heap.size))) (by kernel_rfl) ?_ (fun hHeld => ?_)
            · (try dsimp only); ((first | ((repeat (first | (with_reducible assumption) | (with_reducible refine hd_10_2_13 ?_ (by with_reducible assumption)) | (with_reducible refine hd_10_2_13 ?_ (bel_drew (Below.refl _ _))) | (with_reducible exact hd_10_2_13_re (by with_reducible assumption) (by first | omega | (simp; done) | (simp; omega)) (by first | omega | (simp; done) | (simp; omega)) (by first | omega | (simp; done) | (simp; omega))) | (with_reducible refine hd_10_2_13 ?_ (bel_one _ _)) | (with_reducible refine hd_10_2_13_set ?_ (by first | omega | (simp; done) | (simp; omega)) (by first | omega | (simp; done) | (simp; omega)) (by first | omega | (simp; done) | (simp; omega)) _))); done) | (refine ⟨⟨?_, ?_, ?_, ?_, ?_, ?_, ?_, ?_, ?_, ?_, ?_, ?_, ?_, ?_, ?_, ?_, ?_, ?_, ?_, ?_, ?_, ?_, ?_, ?_, ?_⟩, ?_, ?_, ?_⟩ <;> first | (go_keep; done) | (simp; done) | (simp; omega) | omega)))
            refine wpAnyH_take (i := 0) (v := ?_) (by simp only [List.getElem?_toArray, List.getElem?_cons_zero, List.getElem?_cons_succ]; rfl) (by kernel_rfl) (by kernel_rfl) (by kernel_rfl) (by intro _ _ _ h; exact h) (Or.inl ⟨by rfl, ?_⟩) (by assumption) ?_
            rotate_left
            · (intro w9 hSw; (try dsimp only at hSw); go_simp <;> with_reducible rfl)
            try simp only [Act.put, List.setIfInBounds_toArray, List.set_cons_zero, List.set_cons_succ]
            refine wpAnyH_take (i := 1) (v := ?_) (by simp only [List.getElem?_toArray, List.getElem?_cons_zero, List.getElem?_cons_succ]; rfl) (by kernel_rfl) (by kernel_rfl) (by kernel_rfl) (by intro _ _ _ h; exact h) (Or.inl ⟨by rfl, ?_⟩) (by assumption) ?_
            rotate_left
            · (intro w9 hSw; (try dsimp only at hSw); go_simp <;> with_reducible rfl)
            try simp only [Act.put, List.setIfInBounds_toArray, List.set_cons_zero, List.set_cons_succ]
            refine wpAnyH_take (i := 2) (v := ?_) (by simp only [List.getElem?_toArray, List.getElem?_cons_zero, List.getElem?_cons_succ]; rfl) (by kernel_rfl) (by kernel_rfl) (by kernel_rfl) (by intro _ _ _ h; exact h) (Or.inl ⟨by rfl, ?_⟩) (by assumption) ?_
            rotate_left
            · (intro w9 hSw; (try dsimp only at hSw); go_simp <;> with_reducible rfl)
            try simp only [Act.put, List.setIfInBounds_toArray, List.set_cons_zero, List.set_cons_succ]
            refine wpAnyH_take (i := 3) (v := ?_) (by simp only [List.getElem?_toArray, List.getElem?_cons_zero, List.getElem?_cons_succ]; rfl) (by kernel_rfl) (by kernel_rfl) (by kernel_rfl) (by intro _ _ _ h; exact h) (Or.inl ⟨by rfl, ?_⟩) (by assumption) ?_
            rotate_left
            · (intro w9 hSw; (try dsimp only at hSw); go_simp <;> with_reducible rfl)
            try simp only [Act.put, List.setIfInBounds_toArray, List.set_cons_zero, List.set_cons_succ]
            refine wpAnyH_take (i := 4) (v := ?_) (by simp only [List.getElem?_toArray, List.getElem?_cons_zero, List.getElem?_cons_succ]; rfl) (by kernel_rfl) (by kernel_rfl) (by kernel_rfl) (by intro _ _ _ h; exact h) (Or.inl ⟨by rfl, ?_⟩) (by assumption) ?_
            rotate_left
            · (intro w9 hSw; (try dsimp only at hSw); go_simp <;> with_reducible rfl)
            try simp only [Act.put, List.setIfInBounds_toArray, List.set_cons_zero, List.set_cons_succ]
            refine wpAnyH_ready (rs := [5]) (by kernel_rfl) (by simp) ?_
            refine AllReadyH.cons (by simp only [List.getElem?_toArray, List.getElem?_cons_zero, List.getElem?_cons_succ]; rfl) (fun K hK => ?_) AllReadyH.nil
            go_simp
            (go_at_call 37; refine (rowok_any _ _ _ _ _ _ _ _ _ _ _ _ _ _ _ hl _).mono ?_; rintro e w' ⟨rfl, hb⟩; obtain ⟨hc, hf, hs⟩ := bcell hb)
            (try go_wp2_with fail)
            refine hK.out _ _ ?_ (fun hHeld2 => ?_)
            · (try dsimp only); ((first | ((repeat (first | (with_reducible assumption) | (with_reducible refine hd_10_2_13 ?_ (by with_reducible assumption)) | (with_reducible refine hd_10_2_13 ?_ (bel_drew (Below.refl _ _))) | (with_reducible exact hd_10_2_13_re (by with_reducible assumption) (by first | omega | (simp; done) | (simp; omega)) (by first | omega | (simp; done) | (simp; omega)) (by first | omega | (simp; done) | (simp; omega))) | (with_reducible refine hd_10_2_13 ?_ (bel_one _ _)) | (with_reducible refine hd_10_2_13_set ?_ (by first | omega | (simp; done) | (simp; omega)) (by first | omega | (simp; done) | (simp; omega)) (by first | omega | (simp; done) | (simp; omega)) _))); done) | (refine ⟨⟨?_, ?_, ?_, ?_, ?_, ?_, ?_, ?_, ?_, ?_, ?_, ?_, ?_, ?_, ?_, ?_, ?_, ?_, ?_, ?_, ?_, ?_, ?_, ?_, ?_⟩, ?_, ?_, ?_⟩ <;> first | (go_keep; done) | (simp; done) | (simp; omega) | omega)))
            clear hK K hHeld
            have hHeld := hHeld2
            clear hHeld2
            try simp only [Act.put, List.setIfInBounds_toArray, List.set_cons_zero, List.set_cons_succ]
            refine wpAnyH_take (i := 6) (v := ?_) (by simp only [List.getElem?_toArray, List.getElem?_cons_zero, List.getElem?_cons_succ]; rfl) (by kernel_rfl) (by kernel_rfl) (by kernel_rfl) (by intro _ _ _ h; exact h) (Or.inl ⟨by rfl, ?_⟩) (by assumption) ?_
            rotate_left
            · (intro w9 hSw; (try dsimp only at hSw); go_simp <;> with_reducible rfl)
            try simp only [Act.put, List.setIfInBounds_toArray, List.set_cons_zero, List.set_cons_succ]
            refine wpAnyH_take (i := 7) (v := ?_) (by simp only [List.getElem?_toArray, List.getElem?_cons_zero, List.getElem?_cons_succ]; rfl) (by kernel_rfl) (by kernel_rfl) (by kernel_rfl) (by intro _ _ _ h; exact h) (Or.inl ⟨by rfl, ?_⟩) (by assumption) ?_
            rotate_left
            · (intro w9 hSw; (try dsimp only at hSw); go_simp <;> with_reducible rfl)
            try simp only [Act.put, List.setIfInBounds_toArray, List.set_cons_zero, List.set_cons_succ]
            refine wpAnyH_take (i := 8) (v := ?_) (by simp only [List.getElem?_toArray, List.getElem?_cons_zero, List.getElem?_cons_succ]; rfl) (by kernel_rfl) (by kernel_rfl) (by kernel_rfl) (by intro _ _ _ h; exact h) (Or.inl ⟨by rfl, ?_⟩) (by assumption) ?_
            rotate_left
            · (intro w9 hSw; (try dsimp only at hSw); go_simp <;> with_reducible rfl)
            try simp only [Act.put, List.setIfInBounds_toArray, List.set_cons_zero, List.set_cons_succ]
            refine wpAnyH_take (i := 9) (v := ?_) (by simp only [List.getElem?_toArray, List.getElem?_cons_zero, List.getElem?_cons_succ]; rfl) (by kernel_rfl) (by kernel_rfl) (by kernel_rfl) (by intro _ _ _ h; exact h) (Or.inl ⟨by rfl, ?_⟩) (by assumption) ?_
            rotate_left
            · (intro w9 hSw; (try dsimp only at hSw); go_simp <;> with_reducible rfl)
            try simp only [Act.put, List.setIfInBounds_toArray, List.set_cons_zero, List.set_cons_succ]
            refine wpAnyH_take (i := 10) (v := ?_) (by simp only [List.getElem?_toArray, List.getElem?_cons_zero, List.getElem?_cons_succ]; rfl) (by kernel_rfl) (by kernel_rfl) (by kernel_rfl) (by intro _ _ _ h; exact h) (Or.inl ⟨by rfl, ?_⟩) (by assumption) ?_
            rotate_left
            · (intro w9 hSw; (try dsimp only at hSw); go_simp <;> with_reducible rfl)
            try simp only [Act.put, List.setIfInBounds_toArray, List.set_cons_zero, List.set_cons_succ]
            refine wpAnyH_take (i := 11) (v := undef) (by simp only [List.getElem?_toArray, List.getElem?_cons_zero, List.getElem?_cons_succ]; rfl) (by kernel_rfl) (by kernel_rfl) (by kernel_rfl) (by intro _ _ _ h; exact h) (Or.inr ⟨by rfl, rfl⟩) (by assumption) ?_
            try simp only [Act.put, List.setIfInBounds_toArray, List.set_cons_zero, List.set_cons_succ]
            refine wpAnyH_take (i := 12) (v := undef) (by simp only [List.getElem?_toArray, List.getElem?_cons_zero, List.getElem?_cons_succ]; rfl) (by kernel_rfl) (by kernel_rfl) (by kernel_rfl) (by intro _ _ _ h; exact h) (Or.inr ⟨by rfl, rfl⟩) (by assumption) ?_
            try simp only [Act.put, List.setIfInBounds_toArray, List.set_cons_zero, List.set_cons_succ]
            refine wpAnyH_take (i := 13) (v := undef) (by simp only [List.getElem?_toArray, List.getElem?_cons_zero, List.getElem?_cons_succ]; rfl) (by kernel_rfl) (by kernel_rfl) (by kernel_rfl) (by intro _ _ _ h; exact h) (Or.inr ⟨by rfl, rfl⟩) (by assumption) ?_
            try simp only [Act.put, List.setIfInBounds_toArray, List.set_cons_zero, List.set_cons_succ]
            refine wpAnyH_take (i := 14) (v := undef) (by simp only [List.getElem?_toArray, List.getElem?_cons_zero, List.getElem?_cons_succ]; rfl) (by kernel_rfl) (by kernel_rfl) (by kernel_rfl) (by intro _ _ _ h; exact h) (Or.inr ⟨by rfl, rfl⟩) (by assumption) ?_
            try simp only [Act.put, List.setIfInBounds_toArray, List.set_cons_zero, List.set_cons_succ]
            refine wpAnyH_take (i := 15) (v := undef) (by simp only [List.getElem?_toArray, List.getElem?_cons_zero, List.getElem?_cons_succ]; rfl) (by kernel_rfl) (by kernel_rfl) (by kernel_rfl) (by intro _ _ _ h; exact h) (Or.inr ⟨by rfl, rfl⟩) (by assumption) ?_
            try simp only [Act.put, List.setIfInBounds_toArray, List.set_cons_zero, List.set_cons_succ]
            refine wpAnyH_take (i := 16) (v := undef) (by simp only [List.getElem?_toArray, List.getElem?_cons_zero, List.getElem?_cons_succ]; rfl) (by kernel_rfl) (by kernel_rfl) (by kernel_rfl) (by intro _ _ _ h; exact h) (Or.inr ⟨by rfl, rfl⟩) (by assumption) ?_
            try simp only [Act.put, List.setIfInBounds_toArray, List.set_cons_zero, List.set_cons_succ]
            refine wpAnyH_take (i := 17) (v := undef) (by simp only [List.getElem?_toArray, List.getElem?_cons_zero, List.getElem?_cons_succ]; rfl) (by kernel_rfl) (by kernel_rfl) (by kernel_rfl) (by intro _ _ _ h; exact h) (Or.inr ⟨by rfl, rfl⟩) (by assumption) ?_
            try simp only [Act.put, List.setIfInBounds_toArray, List.set_cons_zero, List.set_cons_succ]
            refine wpAnyH_take (i := 18) (v := undef) (by simp only [List.getElem?_toArray, List.getElem?_cons_zero, List.getElem?_cons_succ]; rfl) (by kernel_rfl) (by kernel_rfl) (by kernel_rfl) (by intro _ _ _ h; exact h) (Or.inr ⟨by rfl, rfl⟩) (by assumption) ?_
            try simp only [Act.put, List.setIfInBounds_toArray, List.set_cons_zero, List.set_cons_succ]
            refine wpAnyH_take (i := 19) (v := undef) (by simp only [List.getElem?_toArray, List.getElem?_cons_zero, List.getElem?_cons_succ]; rfl) (by kernel_rfl) (by kernel_rfl) (by kernel_rfl) (by intro _ _ _ h; exact h) (Or.inr ⟨by rfl, rfl⟩) (by assumption) ?_
            try simp only [Act.put, List.setIfInBounds_toArray, List.set_cons_zero, List.set_cons_succ]
            refine wpAnyH_take (i := 20) (v := undef) (by simp only [List.getElem?_toArray, List.getElem?_cons_zero, List.getElem?_cons_succ]; rfl) (by kernel_rfl) (by kernel_rfl) (by kernel_rfl) (by intro _ _ _ h; exact h) (Or.inr ⟨by rfl, rfl⟩) (by assumption) ?_
            try simp only [Act.put, List.setIfInBounds_toArray, List.set_cons_zero, List.set_cons_succ]
            refine wpAnyH_take (i := 21) (v := undef) (by simp only [List.getElem?_toArray, List.getElem?_cons_zero, List.getElem?_cons_succ]; rfl) (by kernel_rfl) (by kernel_rfl) (by kernel_rfl) (by intro _ _ _ h; exact h) (Or.inr ⟨by rfl, rfl⟩) (by assumption) ?_
            try simp only [Act.put, List.setIfInBounds_toArray, List.set_cons_zero, List.set_cons_succ]
            refine wpAnyH_take (i := 22) (v := ?_) (by simp only [List.getElem?_toArray, List.getElem?_cons_zero, List.getElem?_cons_succ]; rfl) (by kernel_rfl) (by kernel_rfl) (by kernel_rfl) (by intro _ _ _ h; exact h) (Or.inl ⟨by rfl, ?_⟩) (by assumption) ?_
            rotate_left
            · (intro w9 hSw; (try dsimp only at hSw); go_simp <;> with_reducible rfl)
            try simp only [Act.put, List.setIfInBounds_toArray, List.set_cons_zero, List.set_cons_succ]
            refine wpAnyH_take (i := 23) (v := ?_) (by simp only [List.getElem?_toArray, List.getElem?_cons_zero, List.getElem?_cons_succ]; rfl) (by kernel_rfl) (by kernel_rfl) (by kernel_rfl) (by intro _ _ _ h; exact h) (Or.inl ⟨by rfl, ?_⟩) (by assumption) ?_
            rotate_left
            · (intro w9 hSw; (try dsimp only at hSw); go_simp <;> with_reducible rfl)
            try simp only [Act.put, List.setIfInBounds_toArray, List.set_cons_zero, List.set_cons_succ]
            refine wpAnyH_done (by kernel_rfl) ?_ _
            all_goals
              go_wp2
              go_roundw
              case rel => exact ⟨i + 1, by omega, by go_num, hN', (by repeat (first | (with_reducible exact Below.refl _ _) | (with_reducible assumption) | (with_reducible refine bel_set ?_ (by first | (simp; done) | (simp; omega)) _) | (with_reducible refine bel_alloc ?_ _) | (with_reducible refine bel_drew ?_) | (with_reducible refine bel_drewN ?_ _) | (with_reducible refine bel_trans ?_ (by with_reducible assumption))))⟩
              case measure => simp [intOf]; omega
        · obtain ⟨i', he⟩ : ∃ i', i = i' + 1 := ⟨i - 1, by omega⟩
          have hE := hide he
          have hp0 : 0 < i := by omega
          have hpd : decide (0 < i) = true := decide_eq_true hp0
          have hp4 : i' < len := by omega
          have hp1 : (0 : Int) ≤ ↑i' := by omega
          have hp2 : (↑i' : Int) < ↑len := by omega
          have hp3 : IntKind.i64.wrap ((↑i : Int) - 1) = ↑i' := by rw [IntKind.wrap_i64]; omega
          obtain ⟨y, hyk⟩ : ∃ y, xs[i']? = some y := ⟨_, List.getElem?_eq_getElem (by omega)⟩
          have hY := hide hyk
          obtain ⟨f0, f1, f2, f3, f4, f5, f6, f7, f8, f9, f10, f11, f12⟩ := (unhide HR i' _ hyk).below hb0 hg
          clear he hyk
          cases d : x.okB l m
          · have hq : Hid (okOp s t k z p l e v r m xs = false) := hide ((unhide hO).trans (okUp_bad (by omega) (okAt_row (unhide hX) d)))
            have d' : okRow l m x.ky x.st x.en x.an x.asu x.ale x.amo x.fn x.fsu x.fle x.fmo x.td x.tm = false := d
            clear d
            go_wp2
            refine wp_region_held_drew (S := (fun W => ((W.cell? ⟨w.heap.size, 0, none⟩ = some (.int .i64 s) ∧ W.cell? ⟨w.heap.size, 1, none⟩ = some (.int .i64 t) ∧ W.cell? ⟨w.heap.size, 2, none⟩ = some (.int .i64 k) ∧ W.cell? ⟨w.heap.size, 3, none⟩ = some (.int .i64 z) ∧ W.cell? ⟨w.heap.size, 4, none⟩ = some (.int .i64 p) ∧ W.cell? ⟨w.heap.size, 5, none⟩ = some (.int .i64 l) ∧ W.cell? ⟨w.heap.size, 6, none⟩ = some (.int .i64 e) ∧ W.cell? ⟨w.heap.size, 7, none⟩ = some (.bool b) ∧ W.cell? ⟨w.heap.size, 8, none⟩ = some (.int .i64 v) ∧ W.cell? ⟨w.heap.size, 9, none⟩ = some (.int .i64 r) ∧ W.cell? ⟨w.heap.size + 1, 0, none⟩ = some (.int .i64 m) ∧ W.cell? ⟨w.heap.size + 1, 1, none⟩ = some (.slice (some ⟨g, o, none⟩) len cap) ∧ W.cell? ⟨wo.heap.size, 0, none⟩ = some (.int .i64 x.ky) ∧ W.cell? ⟨wo.heap.size, 1, none⟩ = some (.int .i64 x.st) ∧ W.cell? ⟨wo.heap.size, 2, none⟩ = some (.int .i64 x.en) ∧ W.cell? ⟨wo.heap.size, 3, none⟩ = some (.int .i64 x.an) ∧ W.cell? ⟨wo.heap.size, 4, none⟩ = some (.int .i64 x.asu) ∧ W.cell? ⟨wo.heap.size, 5, none⟩ = some (.int .i64 x.ale) ∧ W.cell? ⟨wo.heap.size, 6, none⟩ = some (.int .i64 x.amo) ∧ W.cell? ⟨wo.heap.size, 7, none⟩ = some (.int .i64 x.fn) ∧ W.cell? ⟨wo.heap.size, 8, none⟩ = some (.int .i64 x.fsu) ∧ W.cell? ⟨wo.heap.size, 9, none⟩ = some (.int .i64 x.fle) ∧ W.cell? ⟨wo.heap.size, 10, none⟩ = some (.int .i64 x.fmo) ∧ W.cell? ⟨wo.heap.size, 11, none⟩ = some (.int .i64 x.td) ∧ W.cell? ⟨wo.heap.size, 12, none⟩ = some (.bool x.tm)) ∧ w.heap.size < W.heap.size ∧ w.heap.size + 1 < W.heap.size ∧ wo.heap.size < W.heap.size))) (by kernel_rfl) ?_ (fun hHeld => ?_)
            · (try dsimp only); ((first | ((repeat (first | (with_reducible assumption) | (with_reducible refine hd_10_2_13 ?_ (by with_reducible assumption)) | (with_reducible refine hd_10_2_13 ?_ (bel_drew (Below.refl _ _))) | (with_reducible exact hd_10_2_13_re (by with_reducible assumption) (by first | omega | (simp; done) | (simp; omega)) (by first | omega | (simp; done) | (simp; omega)) (by first | omega | (simp; done) | (simp; omega))) | (with_reducible refine hd_10_2_13 ?_ (bel_one _ _)) | (with_reducible refine hd_10_2_13_set ?_ (by first | omega | (simp; done) | (simp; omega)) (by first | omega | (simp; done) | (simp; omega)) (by first | omega | (simp; done) | (simp; omega)) _))); done) | (refine ⟨⟨?_, ?_, ?_, ?_, ?_, ?_, ?_, ?_, ?_, ?_, ?_, ?_, ?_, ?_, ?_, ?_, ?_, ?_, ?_, ?_, ?_, ?_, ?_, ?_, ?_⟩, ?_, ?_, ?_⟩ <;> first | (go_keep; done) | (simp; done) | (simp; omega) | omega)))
            refine wpAnyH_take (i := 0) (v := ?_) (by simp only [List.getElem?_toArray, List.getElem?_cons_zero, List.getElem?_cons_succ]; rfl) (by kernel_rfl) (by kernel_rfl) (by kernel_rfl) (by intro _ _ _ h; exact h) (Or.inl ⟨by rfl, ?_⟩) (by assumption) ?_
            rotate_left
            · (intro w9 hSw; (try dsimp only at hSw); go_simp <;> with_reducible rfl)
            try simp only [Act.put, List.setIfInBounds_toArray, List.set_cons_zero, List.set_cons_succ]
            refine wpAnyH_take (i := 1) (v := ?_) (by simp only [List.getElem?_toArray, List.getElem?_cons_zero, List.getElem?_cons_succ]; rfl) (by kernel_rfl) (by kernel_rfl) (by kernel_rfl) (by intro _ _ _ h; exact h) (Or.inl ⟨by rfl, ?_⟩) (by assumption) ?_
            rotate_left
            · (intro w9 hSw; (try dsimp only at hSw); go_simp <;> with_reducible rfl)
            try simp only [Act.put, List.setIfInBounds_toArray, List.set_cons_zero, List.set_cons_succ]
            refine wpAnyH_take (i := 2) (v := ?_) (by simp only [List.getElem?_toArray, List.getElem?_cons_zero, List.getElem?_cons_succ]; rfl) (by kernel_rfl) (by kernel_rfl) (by kernel_rfl) (by intro _ _ _ h; exact h) (Or.inl ⟨by rfl, ?_⟩) (by assumption) ?_
            rotate_left
            · (intro w9 hSw; (try dsimp only at hSw); go_simp <;> with_reducible rfl)
            try simp only [Act.put, List.setIfInBounds_toArray, List.set_cons_zero, List.set_cons_succ]
            refine wpAnyH_take (i := 3) (v := ?_) (by simp only [List.getElem?_toArray, List.getElem?_cons_zero, List.getElem?_cons_succ]; rfl) (by kernel_rfl) (by kernel_rfl) (by kernel_rfl) (by intro _ _ _ h; exact h) (Or.inl ⟨by rfl, ?_⟩) (by assumption) ?_
            rotate_left
            · (intro w9 hSw; (try dsimp only at hSw); go_simp <;> with_reducible rfl)
            try simp only [Act.put, List.setIfInBounds_toArray, List.set_cons_zero, List.set_cons_succ]
            refine wpAnyH_take (i := 4) (v := ?_) (by simp only [List.getElem?_toArray, List.getElem?_cons_zero, List.getElem?_cons_succ]; rfl) (by kernel_rfl) (by kernel_rfl) (by kernel_rfl) (by intro _ _ _ h; exact h) (Or.inl ⟨by rfl, ?_⟩) (by assumption) ?_
            rotate_left
            · (intro w9 hSw; (try dsimp only at hSw); go_simp <;> with_reducible rfl)
            try simp only [Act.put, List.setIfInBounds_toArray, List.set_cons_zero, List.set_cons_succ]
            refine wpAnyH_ready (rs := [5]) (by kernel_rfl) (by simp) ?_
            refine AllReadyH.cons (by simp only [List.getElem?_toArray, List.getElem?_cons_zero, List.getElem?_cons_succ]; rfl) (fun K hK => ?_) AllReadyH.nil
            go_simp
            (go_at_call 37; refine (rowok_any _ _ _ _ _ _ _ _ _ _ _ _ _ _ _ hl _).mono ?_; rintro e w' ⟨rfl, hb⟩; obtain ⟨hc, hf, hs⟩ := bcell hb)
            (try go_wp2_with fail)
            refine hK.out _ _ ?_ (fun hHeld2 => ?_)
            · (try dsimp only); ((first | ((repeat (first | (with_reducible assumption) | (with_reducible refine hd_10_2_13 ?_ (by with_reducible assumption)) | (with_reducible refine hd_10_2_13 ?_ (bel_drew (Below.refl _ _))) | (with_reducible exact hd_10_2_13_re (by with_reducible assumption) (by first | omega | (simp; done) | (simp; omega)) (by first | omega | (simp; done) | (simp; omega)) (by first | omega | (simp; done) | (simp; omega))) | (with_reducible refine hd_10_2_13 ?_ (bel_one _ _)) | (with_reducible refine hd_10_2_13_set ?_ (by first | omega | (simp; done) | (simp; omega)) (by first | omega | (simp; done) | (simp; omega)) (by first | omega | (simp; done) | (simp; omega)) _))); done) | (refine ⟨⟨?_, ?_, ?_, ?_, ?_, ?_, ?_, ?_, ?_, ?_, ?_, ?_, ?_, ?_, ?_, ?_, ?_, ?_, ?_, ?_, ?_, ?_, ?_, ?_, ?_⟩, ?_, ?_, ?_⟩ <;> first | (go_keep; done) | (simp; done) | (simp; omega) | omega)))
            clear hK K hHeld
            have hHeld := hHeld2
            clear hHeld2
            try simp only [Act.put, List.setIfInBounds_toArray, List.set_cons_zero, List.set_cons_succ]
            refine wpAnyH_take (i := 6) (v := ?_) (by simp only [List.getElem?_toArray, List.getElem?_cons_zero, List.getElem?_cons_succ]; rfl) (by kernel_rfl) (by kernel_rfl) (by kernel_rfl) (by intro _ _ _ h; exact h) (Or.inl ⟨by rfl, ?_⟩) (by assumption) ?_
            rotate_left
            · (intro w9 hSw; (try dsimp only at hSw); go_simp <;> with_reducible rfl)
            try simp only [Act.put, List.setIfInBounds_toArray, List.set_cons_zero, List.set_cons_succ]
            refine wpAnyH_take (i := 7) (v := ?_) (by simp only [List.getElem?_toArray, List.getElem?_cons_zero, List.getElem?_cons_succ]; rfl) (by kernel_rfl) (by kernel_rfl) (by kernel_rfl) (by intro _ _ _ h; exact h) (Or.inl ⟨by rfl, ?_⟩) (by assumption) ?_
            rotate_left
            · (intro w9 hSw; (try dsimp only at hSw); go_simp <;> with_reducible rfl)
            try simp only [Act.put, List.setIfInBounds_toArray, List.set_cons_zero, List.set_cons_succ]
            refine wpAnyH_take (i := 8) (v := undef) (by simp only [List.getElem?_toArray, List.getElem?_cons_zero, List.getElem?_cons_succ]; rfl) (by kernel_rfl) (by kernel_rfl) (by kernel_rfl) (by intro _ _ _ h; exact h) (Or.inr ⟨by rfl, rfl⟩) (by assumption) ?_
            try simp only [Act.put, List.setIfInBounds_toArray, List.set_cons_zero, List.set_cons_succ]
            refine wpAnyH_take (i := 9) (v := undef) (by simp only [List.getElem?_toArray, List.getElem?_cons_zero, List.getElem?_cons_succ]; rfl) (by kernel_rfl) (by kernel_rfl) (by kernel_rfl) (by intro _ _ _ h; exact h) (Or.inr ⟨by rfl, rfl⟩) (by assumption) ?_
            try simp only [Act.put, List.setIfInBounds_toArray, List.set_cons_zero, List.set_cons_succ]
            refine wpAnyH_take (i := 10) (v := undef) (by simp only [List.getElem?_toArray, List.getElem?_cons_zero, List.getElem?_cons_succ]; rfl) (by kernel_rfl) (by kernel_rfl) (by kernel_rfl) (by intro _ _ _ h; exact h) (Or.inr ⟨by rfl, rfl⟩) (by assumption) ?_
            try simp only [Act.put, List.setIfInBounds_toArray, List.set_cons_zero, List.set_cons_succ]
            refine wpAnyH_take (i := 11) (v := undef) (by simp only [List.getElem?_toArray, List.getElem?_cons_zero, List.getElem?_cons_succ]; rfl) (by kernel_rfl) (by kernel_rfl) (by kernel_rfl) (by intro _ _ _ h; exact h) (Or.inr ⟨by rfl, rfl⟩) (by assumption) ?_
            try simp only [Act.put, List.setIfInBounds_toArray, List.set_cons_zero, List.set_cons_succ]
            refine wpAnyH_take (i := 12) (v := undef) (by simp only [List.getElem?_toArray, List.getElem?_cons_zero, List.getElem?_cons_succ]; rfl) (by kernel_rfl) (by kernel_rfl) (by kernel_rfl) (by intro _ _ _ h; exact h) (Or.inr ⟨by rfl, rfl⟩) (by assumption) ?_
            try simp only [Act.put, List.setIfInBounds_toArray, List.set_cons_zero, List.set_cons_succ]
            refine wpAnyH_take (i := 13) (v := undef) (by simp only [List.getElem?_toArray, List.getElem?_cons_zero, List.getElem?_cons_succ]; rfl) (by kernel_rfl) (by kernel_rfl) (by kernel_rfl) (by intro _ _ _ h; exact h) (Or.inr ⟨by rfl, rfl⟩) (by assumption) ?_
            try simp only [Act.put, List.setIfInBounds_toArray, List.set_cons_zero, List.set_cons_succ]
            refine wpAnyH_take (i := 14) (v := undef) (by simp only [List.getElem?_toArray, List.getElem?_cons_zero, List.getElem?_cons_succ]; rfl) (by kernel_rfl) (by kernel_rfl) (by kernel_rfl) (by intro _ _ _ h; exact h) (Or.inr ⟨by rfl, rfl⟩) (by assumption) ?_
            try simp only [Act.put, List.setIfInBounds_toArray, List.set_cons_zero, List.set_cons_succ]
            refine wpAnyH_take (i := 15) (v := undef) (by simp only [List.getElem?_toArray, List.getElem?_cons_zero, List.getElem?_cons_succ]; rfl) (by kernel_rfl) (by kernel_rfl) (by kernel_rfl) (by intro _ _ _ h; exact h) (Or.inr ⟨by rfl, rfl⟩) (by assumption) ?_
            try simp only [Act.put, List.setIfInBounds_toArray, List.set_cons_zero, List.set_cons_succ]
            refine wpAnyH_take (i := 16) (v := undef) (by simp only [List.getElem?_toArray, List.getElem?_cons_zero, List.getElem?_cons_succ]; rfl) (by kernel_rfl) (by kernel_rfl) (by kernel_rfl) (by intro _ _ _ h; exact h) (Or.inr ⟨by rfl, rfl⟩) (by assumption) ?_
            try simp only [Act.put, List.setIfInBounds_toArray, List.set_cons_zero, List.set_cons_succ]
            refine wpAnyH_take (i := 17) (v := undef) (by simp only [List.getElem?_toArray, List.getElem?_cons_zero, List.getElem?_cons_succ]; rfl) (by kernel_rfl) (by kernel_rfl) (by kernel_rfl) (by intro _ _ _ h; exact h) (Or.inr ⟨by rfl, rfl⟩) (by assumption) ?_
            try simp only [Act.put, List.setIfInBounds_toArray, List.set_cons_zero, List.set_cons_succ]
            refine wpAnyH_take (i := 18) (v := undef) (by simp only [List.getElem?_toArray, List.getElem?_cons_zero, List.getElem?_cons_succ]; rfl) (by kernel_rfl) (by kernel_rfl) (by kernel_rfl) (by intro _ _ _ h; exact h) (Or.inr ⟨by rfl, rfl⟩) (by assumption) ?_
            try simp only [Act.put, List.setIfInBounds_toArray, List.set_cons_zero, List.set_cons_succ]
            refine wpAnyH_take (i := 19) (v := undef) (by simp only [List.getElem?_toArray, List.getElem?_cons_zero, List.getElem?_cons_succ]; rfl) (by kernel_rfl) (by kernel_rfl) (by kernel_rfl) (by intro _ _ _ h; exact h) (Or.inr ⟨by rfl, rfl⟩) (by assumption) ?_
            try simp only [Act.put, List.setIfInBounds_toArray, List.set_cons_zero, List.set_cons_succ]
            refine wpAnyH_take (i := 20) (v := undef) (by simp only [List.getElem?_toArray, List.getElem?_cons_zero, List.getElem?_cons_succ]; rfl) (by kernel_rfl) (by kernel_rfl) (by kernel_rfl) (by intro _ _ _ h; exact h) (Or.inr ⟨by rfl, rfl⟩) (by assumption) ?_
            try simp only [Act.put, List.setIfInBounds_toArray, List.set_cons_zero, List.set_cons_succ]
            refine wpAnyH_take (i := 21) (v := undef) (by simp only [List.getElem?_toArray, List.getElem?_cons_zero, List.getElem?_cons_succ]; rfl) (by kernel_rfl) (by kernel_rfl) (by kernel_rfl) (by intro _ _ _ h; exact h) (Or.inr ⟨by rfl, rfl⟩) (by assumption) ?_
            try simp only [Act.put, List.setIfInBounds_toArray, List.set_cons_zero, List.set_cons_succ]
            refine wpAnyH_take (i := 22) (v := undef) (by simp only [List.getElem?_toArray, List.getElem?_cons_zero, List.getElem?_cons_succ]; rfl) (by kernel_rfl) (by kernel_rfl) (by kernel_rfl) (by intro _ _ _ h; exact h) (Or.inr ⟨by rfl, rfl⟩) (by assumption) ?_
            try simp only [Act.put, List.setIfInBounds_toArray, List.set_cons_zero, List.set_cons_succ]
            refine wpAnyH_take (i := 23) (v := ?_) (by simp only [List.getElem?_toArray, List.getElem?_cons_zero, List.getElem?_cons_succ]; rfl) (by kernel_rfl) (by kernel_rfl) (by kernel_rfl) (by intro _ _ _ h; exact h) (Or.inl ⟨by rfl, ?_⟩) (by assumption) ?_
            rotate_left
            · (intro w9 hSw; (try dsimp only at hSw); go_simp <;> with_reducible rfl)
            try simp only [Act.put, List.setIfInBounds_toArray, List.set_cons_zero, List.set_cons_succ]
            refine wpAnyH_done (by kernel_rfl) ?_ _
            all_goals
              go_wp2
              go_ret
              exact ⟨ret_b (unhide hq).symm, (by repeat (first | (with_reducible exact Below.refl _ _) | (with_reducible assumption) | (with_reducible refine bel_set ?_ (by first | (simp; done) | (simp; omega)) _) | (with_reducible refine bel_alloc ?_ _) | (with_reducible refine bel_drew ?_) | (with_reducible refine bel_drewN ?_ _) | (with_reducible refine bel_trans ?_ (by with_reducible assumption))))⟩
          have d' : okRow l m x.ky x.st x.en x.an x.asu x.ale x.amo x.fn x.fsu x.fle x.fmo x.td x.tm = true := d
          cases n : nextO k y x
          · have hq : Hid (okOp s t k z p l e v r m xs = false) := hide ((unhide hO).trans (okUp_bad (i := i) (by omega) (by rw [okAt_s' (unhide hE) (unhide hX) (unhide hY), d, n]; rfl)))
            have n' : nextP k x.ky x.st x.en y.ky y.st y.en = false := n
            clear d n
            go_wp2
            go_region_held3 (fun W => ((W.cell? ⟨w.heap.size, 0, none⟩ = some (.int .i64 s) ∧ W.cell? ⟨w.heap.size, 1, none⟩ = some (.int .i64 t) ∧ W.cell? ⟨w.heap.size, 2, none⟩ = some (.int .i64 k) ∧ W.cell? ⟨w.heap.size, 3, none⟩ = some (.int .i64 z) ∧ W.cell? ⟨w.heap.size, 4, none⟩ = some (.int .i64 p) ∧ W.cell? ⟨w.heap.size, 5, none⟩ = some (.int .i64 l) ∧ W.cell? ⟨w.heap.size, 6, none⟩ = some (.int .i64 e) ∧ W.cell? ⟨w.heap.size, 7, none⟩ = some (.bool b) ∧ W.cell? ⟨w.heap.size, 8, none⟩ = some (.int .i64 v) ∧ W.cell? ⟨w.heap.size, 9, none⟩ = some (.int .i64 r) ∧ W.cell? ⟨w.heap.size + 1, 0, none⟩ = some (.int .i64 m) ∧ W.cell? ⟨w.heap.size + 1, 1, none⟩ = some (.slice (some ⟨g, o, none⟩) len cap) ∧ W.cell? ⟨wo.heap.size, 0, none⟩ = some (.int .i64 x.ky) ∧ W.cell? ⟨wo.heap.size, 1, none⟩ = some (.int .i64 x.st) ∧ W.cell? ⟨wo.heap.size, 2, none⟩ = some (.int .i64 x.en) ∧ W.cell? ⟨wo.heap.size, 3, none⟩ = some (.int .i64 x.an) ∧ W.cell? ⟨wo.heap.size, 4, none⟩ = some (.int .i64 x.asu) ∧ W.cell? ⟨wo.heap.size, 5, none⟩ = some (.int .i64 x.ale) ∧ W.cell? ⟨wo.heap.size, 6, none⟩ = some (.int .i64 x.amo) ∧ W.cell? ⟨wo.heap.size, 7, none⟩ = some (.int .i64 x.fn) ∧ W.cell? ⟨wo.heap.size, 8, none⟩ = some (.int .i64 x.fsu) ∧ W.cell? ⟨wo.heap.size, 9, none⟩ = some (.int .i64 x.fle) ∧ W.cell? ⟨wo.heap.size, 10, none⟩ = some (.int .i64 x.fmo) ∧ W.cell? ⟨wo.heap.size, 11, none⟩ = some (.int .i64 x.td) ∧ W.cell? ⟨wo.heap.size, 12, none⟩ = some (.bool x.tm) ∧ W.cell? ⟨g, o + i' * 13, none⟩ = some (.int .i64 y.ky) ∧ W.cell? ⟨g, o + i' * 13 + 1, none⟩ = some (.int .i64 y.st) ∧ W.cell? ⟨g, o + i' * 13 + 2, none⟩ = some (.int .i64 y.en) ∧ W.cell? ⟨g, o + i' * 13 + 3, none⟩ = some (.int .i64 y.an) ∧ W.cell? ⟨g, o + i' * 13 + 4, none⟩ = some (.int .i64 y.asu) ∧ W.cell? ⟨g, o + i' * 13 + 5, none⟩ = some (.int .i64 y.ale) ∧ W.cell? ⟨g, o + i' * 13 + 6, none⟩ = some (.int .i64 y.amo) ∧ W.cell? ⟨g, o + i' * 13 + 7, none⟩ = some (.int .i64 y.fn) ∧ W.cell? ⟨g, o + i' * 13 + 8, none⟩ = some (.int .i64 y.fsu) ∧ W.cell? ⟨g, o + i' * 13 + 9, none⟩ = some (.int .i64 y.fle) ∧ W.cell? ⟨g, o + i' * 13 + 10, none⟩ = some (.int .i64 y.fmo) ∧ W.cell? ⟨g, o + i' * 13 + 11, none⟩ = some (.int .i64 y.td) ∧ W.cell? ⟨g, o + i' * 13 + 12, none⟩ = some (.bool y.tm)) ∧ w.heap.size < W.heap.size ∧ w.heap.size + 1 < W.heap.size ∧ wo.heap.size < W.heap.size ∧ g < W.heap.size)) ((first | ((repeat (first | (with_reducible assumption) | (with_reducible refine hd_10_2_13_13 ?_ (by with_reducible assumption)) | (with_reducible refine hd_10_2_13_13 ?_ (bel_drew (Below.refl _ _))) | (with_reducible exact hd_10_2_13_13_re (by with_reducible assumption) (by first | omega | (simp; done) | (simp; omega)) (by first | omega | (simp; done) | (simp; omega)) (by first | omega | (simp; done) | (simp; omega)) (by first | omega | (simp; done) | (simp; omega))) | (with_reducible refine hd_10_2_13_13 ?_ (bel_one _ _)) | (with_reducible refine hd_10_2_13_13_set ?_ (by first | omega | (simp; done) | (simp; omega)) (by first | omega | (simp; done) | (simp; omega)) (by first | omega | (simp; done) | (simp; omega)) (by first | omega | (simp; done) | (simp; omega)) _))); done) | (refine ⟨⟨?_, ?_, ?_, ?_, ?_, ?_, ?_, ?_, ?_, ?_, ?_, ?_, ?_, ?_, ?_, ?_, ?_, ?_, ?_, ?_, ?_, ?_, ?_, ?_, ?_, ?_, ?_, ?_, ?_, ?_, ?_, ?_, ?_, ?_, ?_, ?_, ?_, ?_⟩, ?_, ?_, ?_, ?_⟩ <;> first | (go_keep; done) | (simp; done) | (simp; omega) | omega)))
              (first
              | (go_at_call 37; refine (rowok_any _ _ _ _ _ _ _ _ _ _ _ _ _ _ _ hl _).mono ?_; rintro e w' ⟨rfl, hb⟩; obtain ⟨hc, hf, hs⟩ := bcell hb)
              | (go_at_call 38; refine (behind_any _ _ _ _ _ _ _ _ _ _ _ _ _ _ _ _ _ _ _ _ _ _ _ _ _ _ _ _).mono ?_; rintro e w' ⟨rfl, hb⟩; obtain ⟨hc, hf, hs⟩ := bcell hb))
            all_goals
              go_wp2
              go_ret
              exact ⟨ret_b (unhide hq).symm, (by repeat (first | (with_reducible exact Below.refl _ _) | (with_reducible assumption) | (with_reducible refine bel_set ?_ (by first | (simp; done) | (simp; omega)) _) | (with_reducible refine bel_alloc ?_ _) | (with_reducible refine bel_drew ?_) | (with_reducible refine bel_drewN ?_ _) | (with_reducible refine bel_trans ?_ (by with_reducible assumption))))⟩
          · have hN' : Hid (okUp k l m xs (i + 1) = true) := hide (by rw [okUp_succ, unhide hN, okAt_s' (unhide hE) (unhide hX) (unhide hY), d, n]; rfl)
            have n' : nextP k x.ky x.st x.en y.ky y.st y.en = true := n
            clear d n
            go_wp2
            go_region_held3 (fun W => ((W.cell? ⟨w.heap.size, 0, none⟩ = some (.int .i64 s) ∧ W.cell? ⟨w.heap.size, 1, none⟩ = some (.int .i64 t) ∧ W.cell? ⟨w.heap.size, 2, none⟩ = some (.int .i64 k) ∧ W.cell? ⟨w.heap.size, 3, none⟩ = some (.int .i64 z) ∧ W.cell? ⟨w.heap.size, 4, none⟩ = some (.int .i64 p) ∧ W.cell? ⟨w.heap.size, 5, none⟩ = some (.int .i64 l) ∧ W.cell? ⟨w.heap.size, 6, none⟩ = some (.int .i64 e) ∧ W.cell? ⟨w.heap.size, 7, none⟩ = some (.bool b) ∧ W.cell? ⟨w.heap.size, 8, none⟩ = some (.int .i64 v) ∧ W.cell? ⟨w.heap.size, 9, none⟩ = some (.int .i64 r) ∧ W.cell? ⟨w.heap.size + 1, 0, none⟩ = some (.int .i64 m) ∧ W.cell? ⟨w.heap.size + 1, 1, none⟩ = some (.slice (some ⟨g, o, none⟩) len cap) ∧ W.cell? ⟨wo.heap.size, 0, none⟩ = some (.int .i64 x.ky) ∧ W.cell? ⟨wo.heap.size, 1, none⟩ = some (.int .i64 x.st) ∧ W.cell? ⟨wo.heap.size, 2, none⟩ = some (.int .i64 x.en) ∧ W.cell? ⟨wo.heap.size, 3, none⟩ = some (.int .i64 x.an) ∧ W.cell? ⟨wo.heap.size, 4, none⟩ = some (.int .i64 x.asu) ∧ W.cell? ⟨wo.heap.size, 5, none⟩ = some (.int .i64 x.ale) ∧ W.cell? ⟨wo.heap.size, 6, none⟩ = some (.int .i64 x.amo) ∧ W.cell? ⟨wo.heap.size, 7, none⟩ = some (.int .i64 x.fn) ∧ W.cell? ⟨wo.heap.size, 8, none⟩ = some (.int .i64 x.fsu) ∧ W.cell? ⟨wo.heap.size, 9, none⟩ = some (.int .i64 x.fle) ∧ W.cell? ⟨wo.heap.size, 10, none⟩ = some (.int .i64 x.fmo) ∧ W.cell? ⟨wo.heap.size, 11, none⟩ = some (.int .i64 x.td) ∧ W.cell? ⟨wo.heap.size, 12, none⟩ = some (.bool x.tm) ∧ W.cell? ⟨g, o + i' * 13, none⟩ = some (.int .i64 y.ky) ∧ W.cell? ⟨g, o + i' * 13 + 1, none⟩ = some (.int .i64 y.st) ∧ W.cell? ⟨g, o + i' * 13 + 2, none⟩ = some (.int .i64 y.en) ∧ W.cell? ⟨g, o + i' * 13 + 3, none⟩ = some (.int .i64 y.an) ∧ W.cell? ⟨g, o + i' * 13 + 4, none⟩ = some (.int .i64 y.asu) ∧ W.cell? ⟨g, o + i' * 13 + 5, none⟩ = some (.int .i64 y.ale) ∧ W.cell? ⟨g, o + i' * 13 + 6, none⟩ = some (.int .i64 y.amo) ∧ W.cell? ⟨g, o + i' * 13 + 7, none⟩ = some (.int .i64 y.fn) ∧ W.cell? ⟨g, o + i' * 13 + 8, none⟩ = some (.int .i64 y.fsu) ∧ W.cell? ⟨g, o + i' * 13 + 9, none⟩ = some (.int .i64 y.fle) ∧ W.cell? ⟨g, o + i' * 13 + 10, none⟩ = some (.int .i64 y.fmo) ∧ W.cell? ⟨g, o + i' * 13 + 11, none⟩ = some (.int .i64 y.td) ∧ W.cell? ⟨g, o + i' * 13 + 12, none⟩ = some (.bool y.tm)) ∧ w.heap.size < W.heap.size ∧ w.heap.size + 1 < W.heap.size ∧ wo.heap.size < W.heap.size ∧ g < W.heap.size)) ((first | ((repeat (first | (with_reducible assumption) | (with_reducible refine hd_10_2_13_13 ?_ (by with_reducible assumption)) | (with_reducible refine hd_10_2_13_13 ?_ (bel_drew (Below.refl _ _))) | (with_reducible exact hd_10_2_13_13_re (by with_reducible assumption) (by first | omega | (simp; done) | (simp; omega)) (by first | omega | (simp; done) | (simp; omega)) (by first | omega | (simp; done) | (simp; omega)) (by first | omega | (simp; done) | (simp; omega))) | (with_reducible refine hd_10_2_13_13 ?_ (bel_one _ _)) | (with_reducible refine hd_10_2_13_13_set ?_ (by first | omega | (simp; done) | (simp; omega)) (by first | omega | (simp; done) | (simp; omega)) (by first | omega | (simp; done) | (simp; omega)) (by first | omega | (simp; done) | (simp; omega)) _))); done) | (refine ⟨⟨?_, ?_, ?_, ?_, ?_, ?_, ?_, ?_, ?_, ?_, ?_, ?_, ?_, ?_, ?_, ?_, ?_, ?_, ?_, ?_, ?_, ?_, ?_, ?_, ?_, ?_, ?_, ?_, ?_, ?_, ?_, ?_, ?_, ?_, ?_, ?_, ?_, ?_⟩, ?_, ?_, ?_, ?_⟩ <;> first | (go_keep; done) | (simp; done) | (simp; omega) | omega)))
              (first
              | (go_at_call 37; refine (rowok_any _ _ _ _ _ _ _ _ _ _ _ _ _ _ _ hl _).mono ?_; rintro e w' ⟨rfl, hb⟩; obtain ⟨hc, hf, hs⟩ := bcell hb)
              | (go_at_call 38; refine (behind_any _ _ _ _ _ _ _ _ _ _ _ _ _ _ _ _ _ _ _ _ _ _ _ _ _ _ _ _).mono ?_; rintro e w' ⟨rfl, hb⟩; obtain ⟨hc, hf, hs⟩ := bcell hb))
            all_goals
              go_wp2
              go_roundw
              case rel => exact ⟨i + 1, by omega, by go_num, hN', (by repeat (first | (with_reducible exact Below.refl _ _) | (with_reducible assumption) | (with_reducible refine bel_set ?_ (by first | (simp; done) | (simp; omega)) _) | (with_reducible refine bel_alloc ?_ _) | (with_reducible refine bel_drew ?_) | (with_reducible refine bel_drewN ?_ _) | (with_reducible refine bel_trans ?_ (by with_reducible assumption))))⟩
              case measure => simp [intOf]; omega
      · have hq : Hid (okOp s t k z p l e v r m xs = true) := hide ((unhide hO).trans (by have e9 := unhide hN; rwa [show i = xs.length by omega] at e9))
        go_wp2
        go_ret
        exact ⟨ret_b (unhide hq).symm, (by repeat (first | (with_reducible refine bel_set ?_ (by first | (simp; done) | (simp; omega)) _) | (with_reducible refine bel_alloc ?_ _) | (with_reducible exact Below.refl _ _) | (with_reducible assumption) | (with_reducible refine bel_drew ?_) | (with_reducible refine bel_drewN ?_ _) | (with_reducible refine bel_trans ?_ (by with_reducible assumption))))⟩
  · have hq : Hid (okOp s t k z p l e v r m xs = false) := hide (okOp_n (by omega))
    go_enter Try.func21, Try.ntmps21
    go_wp2_with (first
      | (go_at_call 36; refine (impljobok_any _ _ _ _ _ _ _ _ _ _ _).mono ?_; rintro e w' ⟨rfl, hb⟩; obtain ⟨hc, hf, hs⟩ := bcell hb; (try have hz0 : w.heap.size < w'.heap.size := (by have h9 := hb.size; (try simp at h9); omega)); (try have hz1 : w.heap.size + 1 < w'.heap.size := (by have h9 := hb.size; (try simp at h9); omega)))
      | (go_at_call 22; refine (within_any _ _ _ _).mono ?_; rintro e' w' ⟨rfl, rfl⟩))
    go_ret
    exact ⟨ret_b (unhide hq).symm, (by repeat (first | (with_reducible refine bel_set ?_ (by first | (simp; done) | (simp; omega)) _) | (with_reducible refine bel_alloc ?_ _) | (with_reducible exact Below.refl _ _) | (with_reducible assumption) | (with_reducible refine bel_drew ?_) | (with_reducible refine bel_drewN ?_ _) | (with_reducible refine bel_trans ?_ (by with_reducible assumption))))⟩

end Go.Proofs.Ytflignpbboiahaa
