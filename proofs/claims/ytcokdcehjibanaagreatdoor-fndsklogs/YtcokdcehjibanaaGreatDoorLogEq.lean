/- Proved here: two slices that hold the same items are told to be the same. -/
import Derived.Test.YtcokdcehjibanaaGreatDoorLog
import Derived.Deep.RegionHeld3
namespace Go.Proofs.YtcokdcehjibanaaGreatDoor
open Go.ChangeShapes Go.WideShapes Go.ChangeAt Go.RowKit
set_option linter.unusedVariables false

theorem hd_5_5 {b0 b1 o0x0 o0x1 o0x2 o0x3 o0x4 o1x0 o1x1 o1x2 o1x3 o1x4 : Nat} {v0x0 v0x1 v0x2 v0x3 v0x4 v1x0 v1x1 v1x2 v1x3 v1x4 : Value} {W W' : World} (h : ((W.cell? ⟨b0, o0x0, none⟩ = some (v0x0) ∧ W.cell? ⟨b0, o0x1, none⟩ = some (v0x1) ∧ W.cell? ⟨b0, o0x2, none⟩ = some (v0x2) ∧ W.cell? ⟨b0, o0x3, none⟩ = some (v0x3) ∧ W.cell? ⟨b0, o0x4, none⟩ = some (v0x4) ∧ W.cell? ⟨b1, o1x0, none⟩ = some (v1x0) ∧ W.cell? ⟨b1, o1x1, none⟩ = some (v1x1) ∧ W.cell? ⟨b1, o1x2, none⟩ = some (v1x2) ∧ W.cell? ⟨b1, o1x3, none⟩ = some (v1x3) ∧ W.cell? ⟨b1, o1x4, none⟩ = some (v1x4)) ∧ b0 < W.heap.size ∧ b1 < W.heap.size)) (hb : Below W.heap.size W W') : ((W'.cell? ⟨b0, o0x0, none⟩ = some (v0x0) ∧ W'.cell? ⟨b0, o0x1, none⟩ = some (v0x1) ∧ W'.cell? ⟨b0, o0x2, none⟩ = some (v0x2) ∧ W'.cell? ⟨b0, o0x3, none⟩ = some (v0x3) ∧ W'.cell? ⟨b0, o0x4, none⟩ = some (v0x4) ∧ W'.cell? ⟨b1, o1x0, none⟩ = some (v1x0) ∧ W'.cell? ⟨b1, o1x1, none⟩ = some (v1x1) ∧ W'.cell? ⟨b1, o1x2, none⟩ = some (v1x2) ∧ W'.cell? ⟨b1, o1x3, none⟩ = some (v1x3) ∧ W'.cell? ⟨b1, o1x4, none⟩ = some (v1x4)) ∧ b0 < W'.heap.size ∧ b1 < W'.heap.size) := by
  obtain ⟨⟨h0, h1, h2, h3, h4, h5, h6, h7, h8, h9⟩, s0, s1⟩ := h
  refine ⟨⟨?_, ?_, ?_, ?_, ?_, ?_, ?_, ?_, ?_, ?_⟩, Nat.lt_of_lt_of_le s0 hb.size, Nat.lt_of_lt_of_le s1 hb.size⟩
  · rw [hb.cell s0]; exact h0
  · rw [hb.cell s0]; exact h1
  · rw [hb.cell s0]; exact h2
  · rw [hb.cell s0]; exact h3
  · rw [hb.cell s0]; exact h4
  · rw [hb.cell s1]; exact h5
  · rw [hb.cell s1]; exact h6
  · rw [hb.cell s1]; exact h7
  · rw [hb.cell s1]; exact h8
  · rw [hb.cell s1]; exact h9

theorem hd_5_5_set {b0 b1 o0x0 o0x1 o0x2 o0x3 o0x4 o1x0 o1x1 o1x2 o1x3 o1x4 : Nat} {v0x0 v0x1 v0x2 v0x3 v0x4 v1x0 v1x1 v1x2 v1x3 v1x4 : Value} {W : World} {p : Addr} (h : ((W.cell? ⟨b0, o0x0, none⟩ = some (v0x0) ∧ W.cell? ⟨b0, o0x1, none⟩ = some (v0x1) ∧ W.cell? ⟨b0, o0x2, none⟩ = some (v0x2) ∧ W.cell? ⟨b0, o0x3, none⟩ = some (v0x3) ∧ W.cell? ⟨b0, o0x4, none⟩ = some (v0x4) ∧ W.cell? ⟨b1, o1x0, none⟩ = some (v1x0) ∧ W.cell? ⟨b1, o1x1, none⟩ = some (v1x1) ∧ W.cell? ⟨b1, o1x2, none⟩ = some (v1x2) ∧ W.cell? ⟨b1, o1x3, none⟩ = some (v1x3) ∧ W.cell? ⟨b1, o1x4, none⟩ = some (v1x4)) ∧ b0 < W.heap.size ∧ b1 < W.heap.size)) (p0 : p.block ≠ b0) (p1 : p.block ≠ b1) (u : Value) : (((W.setCell p u).cell? ⟨b0, o0x0, none⟩ = some (v0x0) ∧ (W.setCell p u).cell? ⟨b0, o0x1, none⟩ = some (v0x1) ∧ (W.setCell p u).cell? ⟨b0, o0x2, none⟩ = some (v0x2) ∧ (W.setCell p u).cell? ⟨b0, o0x3, none⟩ = some (v0x3) ∧ (W.setCell p u).cell? ⟨b0, o0x4, none⟩ = some (v0x4) ∧ (W.setCell p u).cell? ⟨b1, o1x0, none⟩ = some (v1x0) ∧ (W.setCell p u).cell? ⟨b1, o1x1, none⟩ = some (v1x1) ∧ (W.setCell p u).cell? ⟨b1, o1x2, none⟩ = some (v1x2) ∧ (W.setCell p u).cell? ⟨b1, o1x3, none⟩ = some (v1x3) ∧ (W.setCell p u).cell? ⟨b1, o1x4, none⟩ = some (v1x4)) ∧ b0 < (W.setCell p u).heap.size ∧ b1 < (W.setCell p u).heap.size) := by
  obtain ⟨⟨h0, h1, h2, h3, h4, h5, h6, h7, h8, h9⟩, s0, s1⟩ := h
  have hb : W.heap.size ≤ (W.setCell p u).heap.size := by simp [World.setCell]
  refine ⟨⟨?_, ?_, ?_, ?_, ?_, ?_, ?_, ?_, ?_, ?_⟩, Nat.lt_of_lt_of_le s0 hb, Nat.lt_of_lt_of_le s1 hb⟩
  · rw [cell_set_ne p0]; exact h0
  · rw [cell_set_ne p0]; exact h1
  · rw [cell_set_ne p0]; exact h2
  · rw [cell_set_ne p0]; exact h3
  · rw [cell_set_ne p0]; exact h4
  · rw [cell_set_ne p1]; exact h5
  · rw [cell_set_ne p1]; exact h6
  · rw [cell_set_ne p1]; exact h7
  · rw [cell_set_ne p1]; exact h8
  · rw [cell_set_ne p1]; exact h9

theorem hd_5_5_re {b0 b1 o0x0 o0x1 o0x2 o0x3 o0x4 o1x0 o1x1 o1x2 o1x3 o1x4 : Nat} {v0x0 v0x1 v0x2 v0x3 v0x4 v1x0 v1x1 v1x2 v1x3 v1x4 : Value} {W : World} {o o' : Obj} (h : (((W.alloc o).cell? ⟨b0, o0x0, none⟩ = some (v0x0) ∧ (W.alloc o).cell? ⟨b0, o0x1, none⟩ = some (v0x1) ∧ (W.alloc o).cell? ⟨b0, o0x2, none⟩ = some (v0x2) ∧ (W.alloc o).cell? ⟨b0, o0x3, none⟩ = some (v0x3) ∧ (W.alloc o).cell? ⟨b0, o0x4, none⟩ = some (v0x4) ∧ (W.alloc o).cell? ⟨b1, o1x0, none⟩ = some (v1x0) ∧ (W.alloc o).cell? ⟨b1, o1x1, none⟩ = some (v1x1) ∧ (W.alloc o).cell? ⟨b1, o1x2, none⟩ = some (v1x2) ∧ (W.alloc o).cell? ⟨b1, o1x3, none⟩ = some (v1x3) ∧ (W.alloc o).cell? ⟨b1, o1x4, none⟩ = some (v1x4)) ∧ b0 < (W.alloc o).heap.size ∧ b1 < (W.alloc o).heap.size)) (p0 : b0 < W.heap.size) (p1 : b1 < W.heap.size) : (((W.alloc o').cell? ⟨b0, o0x0, none⟩ = some (v0x0) ∧ (W.alloc o').cell? ⟨b0, o0x1, none⟩ = some (v0x1) ∧ (W.alloc o').cell? ⟨b0, o0x2, none⟩ = some (v0x2) ∧ (W.alloc o').cell? ⟨b0, o0x3, none⟩ = some (v0x3) ∧ (W.alloc o').cell? ⟨b0, o0x4, none⟩ = some (v0x4) ∧ (W.alloc o').cell? ⟨b1, o1x0, none⟩ = some (v1x0) ∧ (W.alloc o').cell? ⟨b1, o1x1, none⟩ = some (v1x1) ∧ (W.alloc o').cell? ⟨b1, o1x2, none⟩ = some (v1x2) ∧ (W.alloc o').cell? ⟨b1, o1x3, none⟩ = some (v1x3) ∧ (W.alloc o').cell? ⟨b1, o1x4, none⟩ = some (v1x4)) ∧ b0 < (W.alloc o').heap.size ∧ b1 < (W.alloc o').heap.size) := by
  obtain ⟨⟨h0, h1, h2, h3, h4, h5, h6, h7, h8, h9⟩, s0, s1⟩ := h
  have hb : Below W.heap.size (W.alloc o) (W.alloc o') := bel_re W o o'
  refine ⟨⟨?_, ?_, ?_, ?_, ?_, ?_, ?_, ?_, ?_, ?_⟩, Nat.lt_of_lt_of_le s0 hb.size, Nat.lt_of_lt_of_le s1 hb.size⟩
  · rw [hb.cell p0]; exact h0
  · rw [hb.cell p0]; exact h1
  · rw [hb.cell p0]; exact h2
  · rw [hb.cell p0]; exact h3
  · rw [hb.cell p0]; exact h4
  · rw [hb.cell p1]; exact h5
  · rw [hb.cell p1]; exact h6
  · rw [hb.cell p1]; exact h7
  · rw [hb.cell p1]; exact h8
  · rw [hb.cell p1]; exact h9
end Go.Proofs.YtcokdcehjibanaaGreatDoor
