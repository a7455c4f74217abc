/- Proved here: the law on what is known of both returns true at every two codes. -/
import Derived.Test.YtbnhegfimdhddaaBothM
namespace Go.Proofs.Ytbnhegfimdhddaa
open Go.ChangeShapes Go.WideShapes Go.ChangeAt Go.RowKit
set_option linter.unusedVariables false

theorem hd_4 {b0 o0x0 o0x1 o0x2 o0x3 : Nat} {v0x0 v0x1 v0x2 v0x3 : Value} {W W' : World} (h : ((W.cell? ⟨b0, o0x0, none⟩ = some (v0x0) ∧ W.cell? ⟨b0, o0x1, none⟩ = some (v0x1) ∧ W.cell? ⟨b0, o0x2, none⟩ = some (v0x2) ∧ W.cell? ⟨b0, o0x3, none⟩ = some (v0x3)) ∧ b0 < W.heap.size)) (hb : Below W.heap.size W W') : ((W'.cell? ⟨b0, o0x0, none⟩ = some (v0x0) ∧ W'.cell? ⟨b0, o0x1, none⟩ = some (v0x1) ∧ W'.cell? ⟨b0, o0x2, none⟩ = some (v0x2) ∧ W'.cell? ⟨b0, o0x3, none⟩ = some (v0x3)) ∧ b0 < W'.heap.size) := by
  obtain ⟨⟨h0, h1, h2, h3⟩, s0⟩ := h
  refine ⟨⟨?_, ?_, ?_, ?_⟩, Nat.lt_of_lt_of_le s0 hb.size⟩
  · rw [hb.cell s0]; exact h0
  · rw [hb.cell s0]; exact h1
  · rw [hb.cell s0]; exact h2
  · rw [hb.cell s0]; exact h3

theorem hd_4_set {b0 o0x0 o0x1 o0x2 o0x3 : Nat} {v0x0 v0x1 v0x2 v0x3 : Value} {W : World} {p : Addr} (h : ((W.cell? ⟨b0, o0x0, none⟩ = some (v0x0) ∧ W.cell? ⟨b0, o0x1, none⟩ = some (v0x1) ∧ W.cell? ⟨b0, o0x2, none⟩ = some (v0x2) ∧ W.cell? ⟨b0, o0x3, none⟩ = some (v0x3)) ∧ b0 < W.heap.size)) (p0 : p.block ≠ b0) (u : Value) : (((W.setCell p u).cell? ⟨b0, o0x0, none⟩ = some (v0x0) ∧ (W.setCell p u).cell? ⟨b0, o0x1, none⟩ = some (v0x1) ∧ (W.setCell p u).cell? ⟨b0, o0x2, none⟩ = some (v0x2) ∧ (W.setCell p u).cell? ⟨b0, o0x3, none⟩ = some (v0x3)) ∧ b0 < (W.setCell p u).heap.size) := by
  obtain ⟨⟨h0, h1, h2, h3⟩, s0⟩ := h
  have hb : W.heap.size ≤ (W.setCell p u).heap.size := by simp [World.setCell]
  refine ⟨⟨?_, ?_, ?_, ?_⟩, Nat.lt_of_lt_of_le s0 hb⟩
  · rw [cell_set_ne p0]; exact h0
  · rw [cell_set_ne p0]; exact h1
  · rw [cell_set_ne p0]; exact h2
  · rw [cell_set_ne p0]; exact h3

theorem hd_4_re {b0 o0x0 o0x1 o0x2 o0x3 : Nat} {v0x0 v0x1 v0x2 v0x3 : Value} {W : World} {o o' : Obj} (h : (((W.alloc o).cell? ⟨b0, o0x0, none⟩ = some (v0x0) ∧ (W.alloc o).cell? ⟨b0, o0x1, none⟩ = some (v0x1) ∧ (W.alloc o).cell? ⟨b0, o0x2, none⟩ = some (v0x2) ∧ (W.alloc o).cell? ⟨b0, o0x3, none⟩ = some (v0x3)) ∧ b0 < (W.alloc o).heap.size)) (p0 : b0 < W.heap.size) : (((W.alloc o').cell? ⟨b0, o0x0, none⟩ = some (v0x0) ∧ (W.alloc o').cell? ⟨b0, o0x1, none⟩ = some (v0x1) ∧ (W.alloc o').cell? ⟨b0, o0x2, none⟩ = some (v0x2) ∧ (W.alloc o').cell? ⟨b0, o0x3, none⟩ = some (v0x3)) ∧ b0 < (W.alloc o').heap.size) := by
  obtain ⟨⟨h0, h1, h2, h3⟩, s0⟩ := h
  have hb : Below W.heap.size (W.alloc o) (W.alloc o') := bel_re W o o'
  refine ⟨⟨?_, ?_, ?_, ?_⟩, Nat.lt_of_lt_of_le s0 hb.size⟩
  · rw [hb.cell p0]; exact h0
  · rw [hb.cell p0]; exact h1
  · rw [hb.cell p0]; exact h2
  · rw [hb.cell p0]; exact h3

theorem hd_4_4_4_4 {b0 b1 b2 b3 o0x0 o0x1 o0x2 o0x3 o1x0 o1x1 o1x2 o1x3 o2x0 o2x1 o2x2 o2x3 o3x0 o3x1 o3x2 o3x3 : Nat} {v0x0 v0x1 v0x2 v0x3 v1x0 v1x1 v1x2 v1x3 v2x0 v2x1 v2x2 v2x3 v3x0 v3x1 v3x2 v3x3 : Value} {W W' : World} (h : ((W.cell? ⟨b0, o0x0, none⟩ = some (v0x0) ∧ W.cell? ⟨b0, o0x1, none⟩ = some (v0x1) ∧ W.cell? ⟨b0, o0x2, none⟩ = some (v0x2) ∧ W.cell? ⟨b0, o0x3, none⟩ = some (v0x3) ∧ W.cell? ⟨b1, o1x0, none⟩ = some (v1x0) ∧ W.cell? ⟨b1, o1x1, none⟩ = some (v1x1) ∧ W.cell? ⟨b1, o1x2, none⟩ = some (v1x2) ∧ W.cell? ⟨b1, o1x3, none⟩ = some (v1x3) ∧ W.cell? ⟨b2, o2x0, none⟩ = some (v2x0) ∧ W.cell? ⟨b2, o2x1, none⟩ = some (v2x1) ∧ W.cell? ⟨b2, o2x2, none⟩ = some (v2x2) ∧ W.cell? ⟨b2, o2x3, none⟩ = some (v2x3) ∧ W.cell? ⟨b3, o3x0, none⟩ = some (v3x0) ∧ W.cell? ⟨b3, o3x1, none⟩ = some (v3x1) ∧ W.cell? ⟨b3, o3x2, none⟩ = some (v3x2) ∧ W.cell? ⟨b3, o3x3, none⟩ = some (v3x3)) ∧ b0 < W.heap.size ∧ b1 < W.heap.size ∧ b2 < W.heap.size ∧ b3 < W.heap.size)) (hb : Below W.heap.size W W') : ((W'.cell? ⟨b0, o0x0, none⟩ = some (v0x0) ∧ W'.cell? ⟨b0, o0x1, none⟩ = some (v0x1) ∧ W'.cell? ⟨b0, o0x2, none⟩ = some (v0x2) ∧ W'.cell? ⟨b0, o0x3, none⟩ = some (v0x3) ∧ W'.cell? ⟨b1, o1x0, none⟩ = some (v1x0) ∧ W'.cell? ⟨b1, o1x1, none⟩ = some (v1x1) ∧ W'.cell? ⟨b1, o1x2, none⟩ = some (v1x2) ∧ W'.cell? ⟨b1, o1x3, none⟩ = some (v1x3) ∧ W'.cell? ⟨b2, o2x0, none⟩ = some (v2x0) ∧ W'.cell? ⟨b2, o2x1, none⟩ = some (v2x1) ∧ W'.cell? ⟨b2, o2x2, none⟩ = some (v2x2) ∧ W'.cell? ⟨b2, o2x3, none⟩ = some (v2x3) ∧ W'.cell? ⟨b3, o3x0, none⟩ = some (v3x0) ∧ W'.cell? ⟨b3, o3x1, none⟩ = some (v3x1) ∧ W'.cell? ⟨b3, o3x2, none⟩ = some (v3x2) ∧ W'.cell? ⟨b3, o3x3, none⟩ = some (v3x3)) ∧ b0 < W'.heap.size ∧ b1 < W'.heap.size ∧ b2 < W'.heap.size ∧ b3 < W'.heap.size) := by
  obtain ⟨⟨h0, h1, h2, h3, h4, h5, h6, h7, h8, h9, h10, h11, h12, h13, h14, h15⟩, s0, s1, s2, s3⟩ := h
  refine ⟨⟨?_, ?_, ?_, ?_, ?_, ?_, ?_, ?_, ?_, ?_, ?_, ?_, ?_, ?_, ?_, ?_⟩, Nat.lt_of_lt_of_le s0 hb.size, Nat.lt_of_lt_of_le s1 hb.size, Nat.lt_of_lt_of_le s2 hb.size, Nat.lt_of_lt_of_le s3 hb.size⟩
  · rw [hb.cell s0]; exact h0
  · rw [hb.cell s0]; exact h1
  · rw [hb.cell s0]; exact h2
  · rw [hb.cell s0]; exact h3
  · rw [hb.cell s1]; exact h4
  · rw [hb.cell s1]; exact h5
  · rw [hb.cell s1]; exact h6
  · rw [hb.cell s1]; exact h7
  · rw [hb.cell s2]; exact h8
  · rw [hb.cell s2]; exact h9
  · rw [hb.cell s2]; exact h10
  · rw [hb.cell s2]; exact h11
  · rw [hb.cell s3]; exact h12
  · rw [hb.cell s3]; exact h13
  · rw [hb.cell s3]; exact h14
  · rw [hb.cell s3]; exact h15

theorem hd_4_4_4_4_set {b0 b1 b2 b3 o0x0 o0x1 o0x2 o0x3 o1x0 o1x1 o1x2 o1x3 o2x0 o2x1 o2x2 o2x3 o3x0 o3x1 o3x2 o3x3 : Nat} {v0x0 v0x1 v0x2 v0x3 v1x0 v1x1 v1x2 v1x3 v2x0 v2x1 v2x2 v2x3 v3x0 v3x1 v3x2 v3x3 : Value} {W : World} {p : Addr} (h : ((W.cell? ⟨b0, o0x0, none⟩ = some (v0x0) ∧ W.cell? ⟨b0, o0x1, none⟩ = some (v0x1) ∧ W.cell? ⟨b0, o0x2, none⟩ = some (v0x2) ∧ W.cell? ⟨b0, o0x3, none⟩ = some (v0x3) ∧ W.cell? ⟨b1, o1x0, none⟩ = some (v1x0) ∧ W.cell? ⟨b1, o1x1, none⟩ = some (v1x1) ∧ W.cell? ⟨b1, o1x2, none⟩ = some (v1x2) ∧ W.cell? ⟨b1, o1x3, none⟩ = some (v1x3) ∧ W.cell? ⟨b2, o2x0, none⟩ = some (v2x0) ∧ W.cell? ⟨b2, o2x1, none⟩ = some (v2x1) ∧ W.cell? ⟨b2, o2x2, none⟩ = some (v2x2) ∧ W.cell? ⟨b2, o2x3, none⟩ = some (v2x3) ∧ W.cell? ⟨b3, o3x0, none⟩ = some (v3x0) ∧ W.cell? ⟨b3, o3x1, none⟩ = some (v3x1) ∧ W.cell? ⟨b3, o3x2, none⟩ = some (v3x2) ∧ W.cell? ⟨b3, o3x3, none⟩ = some (v3x3)) ∧ b0 < W.heap.size ∧ b1 < W.heap.size ∧ b2 < W.heap.size ∧ b3 < W.heap.size)) (p0 : p.block ≠ b0) (p1 : p.block ≠ b1) (p2 : p.block ≠ b2) (p3 : p.block ≠ b3) (u : Value) : (((W.setCell p u).cell? ⟨b0, o0x0, none⟩ = some (v0x0) ∧ (W.setCell p u).cell? ⟨b0, o0x1, none⟩ = some (v0x1) ∧ (W.setCell p u).cell? ⟨b0, o0x2, none⟩ = some (v0x2) ∧ (W.setCell p u).cell? ⟨b0, o0x3, none⟩ = some (v0x3) ∧ (W.setCell p u).cell? ⟨b1, o1x0, none⟩ = some (v1x0) ∧ (W.setCell p u).cell? ⟨b1, o1x1, none⟩ = some (v1x1) ∧ (W.setCell p u).cell? ⟨b1, o1x2, none⟩ = some (v1x2) ∧ (W.setCell p u).cell? ⟨b1, o1x3, none⟩ = some (v1x3) ∧ (W.setCell p u).cell? ⟨b2, o2x0, none⟩ = some (v2x0) ∧ (W.setCell p u).cell? ⟨b2, o2x1, none⟩ = some (v2x1) ∧ (W.setCell p u).cell? ⟨b2, o2x2, none⟩ = some (v2x2) ∧ (W.setCell p u).cell? ⟨b2, o2x3, none⟩ = some (v2x3) ∧ (W.setCell p u).cell? ⟨b3, o3x0, none⟩ = some (v3x0) ∧ (W.setCell p u).cell? ⟨b3, o3x1, none⟩ = some (v3x1) ∧ (W.setCell p u).cell? ⟨b3, o3x2, none⟩ = some (v3x2) ∧ (W.setCell p u).cell? ⟨b3, o3x3, none⟩ = some (v3x3)) ∧ b0 < (W.setCell p u).heap.size ∧ b1 < (W.setCell p u).heap.size ∧ b2 < (W.setCell p u).heap.size ∧ b3 < (W.setCell p u).heap.size) := by
  obtain ⟨⟨h0, h1, h2, h3, h4, h5, h6, h7, h8, h9, h10, h11, h12, h13, h14, h15⟩, s0, s1, s2, s3⟩ := h
  have hb : W.heap.size ≤ (W.setCell p u).heap.size := by simp [World.setCell]
  refine ⟨⟨?_, ?_, ?_, ?_, ?_, ?_, ?_, ?_, ?_, ?_, ?_, ?_, ?_, ?_, ?_, ?_⟩, Nat.lt_of_lt_of_le s0 hb, Nat.lt_of_lt_of_le s1 hb, Nat.lt_of_lt_of_le s2 hb, Nat.lt_of_lt_of_le s3 hb⟩
  · rw [cell_set_ne p0]; exact h0
  · rw [cell_set_ne p0]; exact h1
  · rw [cell_set_ne p0]; exact h2
  · rw [cell_set_ne p0]; exact h3
  · rw [cell_set_ne p1]; exact h4
  · rw [cell_set_ne p1]; exact h5
  · rw [cell_set_ne p1]; exact h6
  · rw [cell_set_ne p1]; exact h7
  · rw [cell_set_ne p2]; exact h8
  · rw [cell_set_ne p2]; exact h9
  · rw [cell_set_ne p2]; exact h10
  · rw [cell_set_ne p2]; exact h11
  · rw [cell_set_ne p3]; exact h12
  · rw [cell_set_ne p3]; exact h13
  · rw [cell_set_ne p3]; exact h14
  · rw [cell_set_ne p3]; exact h15

theorem hd_4_4_4_4_re {b0 b1 b2 b3 o0x0 o0x1 o0x2 o0x3 o1x0 o1x1 o1x2 o1x3 o2x0 o2x1 o2x2 o2x3 o3x0 o3x1 o3x2 o3x3 : Nat} {v0x0 v0x1 v0x2 v0x3 v1x0 v1x1 v1x2 v1x3 v2x0 v2x1 v2x2 v2x3 v3x0 v3x1 v3x2 v3x3 : Value} {W : World} {o o' : Obj} (h : (((W.alloc o).cell? ⟨b0, o0x0, none⟩ = some (v0x0) ∧ (W.alloc o).cell? ⟨b0, o0x1, none⟩ = some (v0x1) ∧ (W.alloc o).cell? ⟨b0, o0x2, none⟩ = some (v0x2) ∧ (W.alloc o).cell? ⟨b0, o0x3, none⟩ = some (v0x3) ∧ (W.alloc o).cell? ⟨b1, o1x0, none⟩ = some (v1x0) ∧ (W.alloc o).cell? ⟨b1, o1x1, none⟩ = some (v1x1) ∧ (W.alloc o).cell? ⟨b1, o1x2, none⟩ = some (v1x2) ∧ (W.alloc o).cell? ⟨b1, o1x3, none⟩ = some (v1x3) ∧ (W.alloc o).cell? ⟨b2, o2x0, none⟩ = some (v2x0) ∧ (W.alloc o).cell? ⟨b2, o2x1, none⟩ = some (v2x1) ∧ (W.alloc o).cell? ⟨b2, o2x2, none⟩ = some (v2x2) ∧ (W.alloc o).cell? ⟨b2, o2x3, none⟩ = some (v2x3) ∧ (W.alloc o).cell? ⟨b3, o3x0, none⟩ = some (v3x0) ∧ (W.alloc o).cell? ⟨b3, o3x1, none⟩ = some (v3x1) ∧ (W.alloc o).cell? ⟨b3, o3x2, none⟩ = some (v3x2) ∧ (W.alloc o).cell? ⟨b3, o3x3, none⟩ = some (v3x3)) ∧ b0 < (W.alloc o).heap.size ∧ b1 < (W.alloc o).heap.size ∧ b2 < (W.alloc o).heap.size ∧ b3 < (W.alloc o).heap.size)) (p0 : b0 < W.heap.size) (p1 : b1 < W.heap.size) (p2 : b2 < W.heap.size) (p3 : b3 < W.heap.size) : (((W.alloc o').cell? ⟨b0, o0x0, none⟩ = some (v0x0) ∧ (W.alloc o').cell? ⟨b0, o0x1, none⟩ = some (v0x1) ∧ (W.alloc o').cell? ⟨b0, o0x2, none⟩ = some (v0x2) ∧ (W.alloc o').cell? ⟨b0, o0x3, none⟩ = some (v0x3) ∧ (W.alloc o').cell? ⟨b1, o1x0, none⟩ = some (v1x0) ∧ (W.alloc o').cell? ⟨b1, o1x1, none⟩ = some (v1x1) ∧ (W.alloc o').cell? ⟨b1, o1x2, none⟩ = some (v1x2) ∧ (W.alloc o').cell? ⟨b1, o1x3, none⟩ = some (v1x3) ∧ (W.alloc o').cell? ⟨b2, o2x0, none⟩ = some (v2x0) ∧ (W.alloc o').cell? ⟨b2, o2x1, none⟩ = some (v2x1) ∧ (W.alloc o').cell? ⟨b2, o2x2, none⟩ = some (v2x2) ∧ (W.alloc o').cell? ⟨b2, o2x3, none⟩ = some (v2x3) ∧ (W.alloc o').cell? ⟨b3, o3x0, none⟩ = some (v3x0) ∧ (W.alloc o').cell? ⟨b3, o3x1, none⟩ = some (v3x1) ∧ (W.alloc o').cell? ⟨b3, o3x2, none⟩ = some (v3x2) ∧ (W.alloc o').cell? ⟨b3, o3x3, none⟩ = some (v3x3)) ∧ b0 < (W.alloc o').heap.size ∧ b1 < (W.alloc o').heap.size ∧ b2 < (W.alloc o').heap.size ∧ b3 < (W.alloc o').heap.size) := by
  obtain ⟨⟨h0, h1, h2, h3, h4, h5, h6, h7, h8, h9, h10, h11, h12, h13, h14, h15⟩, s0, s1, s2, s3⟩ := h
  have hb : Below W.heap.size (W.alloc o) (W.alloc o') := bel_re W o o'
  refine ⟨⟨?_, ?_, ?_, ?_, ?_, ?_, ?_, ?_, ?_, ?_, ?_, ?_, ?_, ?_, ?_, ?_⟩, Nat.lt_of_lt_of_le s0 hb.size, Nat.lt_of_lt_of_le s1 hb.size, Nat.lt_of_lt_of_le s2 hb.size, Nat.lt_of_lt_of_le s3 hb.size⟩
  · rw [hb.cell p0]; exact h0
  · rw [hb.cell p0]; exact h1
  · rw [hb.cell p0]; exact h2
  · rw [hb.cell p0]; exact h3
  · rw [hb.cell p1]; exact h4
  · rw [hb.cell p1]; exact h5
  · rw [hb.cell p1]; exact h6
  · rw [hb.cell p1]; exact h7
  · rw [hb.cell p2]; exact h8
  · rw [hb.cell p2]; exact h9
  · rw [hb.cell p2]; exact h10
  · rw [hb.cell p2]; exact h11
  · rw [hb.cell p3]; exact h12
  · rw [hb.cell p3]; exact h13
  · rw [hb.cell p3]; exact h14
  · rw [hb.cell p3]; exact h15

/-- What the law asks, as numbers. -/
theorem laws_both {n0 m0 l0 t0 n2 m2 l2 t2 n4 m4 l4 t4 : Int} (ka : Kn n0 m0 l0 t0 10) (kb : Kn n2 m2 l2 t2 10) (kc : Kn n4 m4 l4 t4 10) : ∃ n1 m1 l1 t1 n5 m5 l5 t5 n7 m7 l7 t7 : Int, (bo n0 n2 n0 n2 (wrap64 (n0 + n2)) = n1 ∧ bo n0 n2 m0 m2 (wrap64 (m0 + m2)) = m1 ∧ bo n0 n2 l0 l2 (loI l0 l2) = l1 ∧ bo n0 n2 t0 t2 (hiI t0 t2) = t1) ∧ (bo n2 n0 n2 n0 (wrap64 (n2 + n0)) = n1 ∧ bo n2 n0 m2 m0 (wrap64 (m2 + m0)) = m1 ∧ bo n2 n0 l2 l0 (loI l2 l0) = l1 ∧ bo n2 n0 t2 t0 (hiI t2 t0) = t1) ∧ (bo n1 n4 n1 n4 (wrap64 (n1 + n4)) = n5 ∧ bo n1 n4 m1 m4 (wrap64 (m1 + m4)) = m5 ∧ bo n1 n4 l1 l4 (loI l1 l4) = l5 ∧ bo n1 n4 t1 t4 (hiI t1 t4) = t5) ∧ (bo n2 n4 n2 n4 (wrap64 (n2 + n4)) = n7 ∧ bo n2 n4 m2 m4 (wrap64 (m2 + m4)) = m7 ∧ bo n2 n4 l2 l4 (loI l2 l4) = l7 ∧ bo n2 n4 t2 t4 (hiI t2 t4) = t7) ∧ (bo n0 n7 n0 n7 (wrap64 (n0 + n7)) = n5 ∧ bo n0 n7 m0 m7 (wrap64 (m0 + m7)) = m5 ∧ bo n0 n7 l0 l7 (loI l0 l7) = l5 ∧ bo n0 n7 t0 t7 (hiI t0 t7) = t5) ∧ (bo n0 0 n0 0 (wrap64 (n0 + 0)) = n0 ∧ bo n0 0 m0 0 (wrap64 (m0 + 0)) = m0 ∧ bo n0 0 l0 0 (loI l0 0) = l0 ∧ bo n0 0 t0 0 (hiI t0 0) = t0) ∧ (bo 0 n0 0 n0 (wrap64 (0 + n0)) = n0 ∧ bo 0 n0 0 m0 (wrap64 (0 + m0)) = m0 ∧ bo 0 n0 0 l0 (loI 0 l0) = l0 ∧ bo 0 n0 0 t0 (hiI 0 t0) = t0) ∧ okAgg n1 m1 l1 t1 = true := by
  obtain ⟨x1, kx⟩ := both_is ka kb (by decide) (by decide) (by decide) (by decide)
  obtain ⟨x2, _⟩ := both_is kb ka (by decide) (by decide) (by decide) (by decide)
  obtain ⟨y1, _⟩ := both_is kx kc (by decide) (by decide) (by decide) (by decide)
  obtain ⟨z1, kz⟩ := both_is kb kc (by decide) (by decide) (by decide) (by decide)
  obtain ⟨y2, _⟩ := both_is ka kz (by decide) (by decide) (by decide) (by decide)
  obtain ⟨u1, _⟩ := both_is ka Kn.nil (by decide) (by decide) (by decide) (by decide)
  obtain ⟨u2, _⟩ := both_is Kn.nil ka (by decide) (by decide) (by decide) (by decide)
  obtain ⟨a1, a2, a3⟩ := ka.z
  obtain ⟨b1, b2, b3⟩ := kb.z
  obtain ⟨c1, c2, c3⟩ := kc.z
  have x3 := And.intro (x2.1.trans (Int.add_comm n2 n0)) (And.intro (x2.2.1.trans (Int.add_comm m2 m0)) (And.intro (x2.2.2.1.trans (bL_comm n2 n0 l2 l0 b1 a1)) (x2.2.2.2.trans (bT_comm n2 n0 t2 t0 b2 a2))))
  have y3 := And.intro (y2.1.trans (Int.add_assoc n0 n2 n4).symm) (And.intro (y2.2.1.trans (Int.add_assoc m0 m2 m4).symm) (And.intro (y2.2.2.1.trans (bL_assoc n0 n2 n4 l0 l2 l4 a3 b3 c3).symm) (y2.2.2.2.trans (bT_assoc n0 n2 n4 t0 t2 t4 a3 b3 c3).symm)))
  have e1 : bL n0 0 l0 0 = l0 := by
    unfold bL
    by_cases hz : n0 = 0
    · rw [if_pos hz, a1 hz]
    · rw [if_neg hz, if_pos rfl]
  have e2 : bT n0 0 t0 0 = t0 := by
    unfold bT
    by_cases hz : n0 = 0
    · rw [if_pos hz, a2 hz]
    · rw [if_neg hz, if_pos rfl]
  have u3 := And.intro (u1.1.trans (Int.add_zero n0)) (And.intro (u1.2.1.trans (Int.add_zero m0)) (And.intro (u1.2.2.1.trans e1) (u1.2.2.2.trans e2)))
  have e3 : bL 0 n0 0 l0 = l0 := rfl
  have e4 : bT 0 n0 0 t0 = t0 := rfl
  have u4 := And.intro (u2.1.trans (Int.zero_add n0)) (And.intro (u2.2.1.trans (Int.zero_add m0)) (And.intro (u2.2.2.1.trans e3) (u2.2.2.2.trans e4)))
  exact ⟨_, _, _, _, _, _, _, _, _, _, _, _, x1, x3, y1, z1, y3, u3, u4, kx.ok (by decide)⟩

set_option linter.unusedSimpArgs false in
set_option maxRecDepth 20000 in
set_option maxHeartbeats 8000000 in
theorem lawBothP (a : Option Addr) (len cap : Nat) (a' : Option Addr) (len' cap' : Nat) (w : World) (hlc : len ≤ cap) (hm : len ≤ maxLen) (hb : BytesAt w a len) (hl : ∀ g o, a = some ⟨g, o, none⟩ → 0 < len → g < w.heap.size) (hn : a = none → cap = 0) (hlc' : len' ≤ cap') (hm' : len' ≤ maxLen) (hb' : BytesAt w a' len') (hl' : ∀ g o, a' = some ⟨g, o, none⟩ → 0 < len' → g < w.heap.size) (hn' : a' = none → cap' = 0) : Calls Try.prog 7 #[.slice a len cap, .slice a' len' cap'] w fun e w' => e = .returned (.bool true) ∧ Below w.heap.size w w' := by
  unfold maxLen at hm hm'
  by_cases hlen : (len : Int) ≤ 1048576
  · by_cases hlen' : (len' : Int) ≤ 1048576
    · go_enter Try.func7, Try.ntmps7
      go_wp2_with fail
      refine (drawaggboth_any a len cap w hlc (by omega) hb hl hn).mono ?_
      rintro e w1 ⟨n0, m0, l0, t0, n2, m2, l2, t2, rfl, ⟨⟨ba1, ba2⟩, _, _, _⟩, ⟨⟨bb1, bb2⟩, _, _, _⟩, hb1⟩
      have hbU : Below w.heap.size w ((w1.alloc (.cells #[.int .i64 n0, .int .i64 m0, .int .i64 l0, .int .i64 t0] 33)).alloc (.cells #[.int .i64 n2, .int .i64 m2, .int .i64 l2, .int .i64 t2] 33)) := bel_alloc (bel_alloc hb1 _) _
      have hB := hb'.bel hl' hbU
      have hL : ∀ g o, a' = some ⟨g, o, none⟩ → 0 < len' → g < ((w1.alloc (.cells #[.int .i64 n0, .int .i64 m0, .int .i64 l0, .int .i64 t0] 33)).alloc (.cells #[.int .i64 n2, .int .i64 m2, .int .i64 l2, .int .i64 t2] 33)).heap.size := fun g o ha hp => Nat.lt_of_lt_of_le (hl' g o ha hp) hbU.size
      go_wp2_with fail
      refine (drawaggboth_any a' len' cap' _ hlc' (by omega) hB hL hn').mono ?_
      rintro e w2 ⟨n4, m4, l4, t4, n6, m6, l6, t6, rfl, ⟨⟨bc1, bc2⟩, _, _, _⟩, _, hb2⟩
      clear hb hl hn hb' hl' hn' hB hL hbU
      cases oA : okAgg n0 m0 l0 t0
      · obtain ⟨n1, m1, l1, t1, HX⟩ : ∃ n1 m1 l1 t1 : Int, Hid (bo n0 n2 n0 n2 (wrap64 (n0 + n2)) = n1 ∧ bo n0 n2 m0 m2 (wrap64 (m0 + m2)) = m1 ∧ bo n0 n2 l0 l2 (loI l0 l2) = l1 ∧ bo n0 n2 t0 t2 (hiI t0 t2) = t1) := ⟨_, _, _, _, hide ⟨rfl, rfl, rfl, rfl⟩⟩
        have ga0 : w2.cell? ⟨w1.heap.size, 0, none⟩ = some (.int .i64 n0) := (hb2.cell (p := ⟨w1.heap.size, 0, none⟩) (by simp <;> omega)).trans (by simp [go_sem])
        have ga1 : w2.cell? ⟨w1.heap.size, 1, none⟩ = some (.int .i64 m0) := (hb2.cell (p := ⟨w1.heap.size, 1, none⟩) (by simp <;> omega)).trans (by simp [go_sem])
        have ga2 : w2.cell? ⟨w1.heap.size, 2, none⟩ = some (.int .i64 l0) := (hb2.cell (p := ⟨w1.heap.size, 2, none⟩) (by simp <;> omega)).trans (by simp [go_sem])
        have ga3 : w2.cell? ⟨w1.heap.size, 3, none⟩ = some (.int .i64 t0) := (hb2.cell (p := ⟨w1.heap.size, 3, none⟩) (by simp <;> omega)).trans (by simp [go_sem])
        have gb0 : w2.cell? ⟨w1.heap.size + 1, 0, none⟩ = some (.int .i64 n2) := (hb2.cell (p := ⟨w1.heap.size + 1, 0, none⟩) (by simp <;> omega)).trans (by simp [go_sem])
        have gb1 : w2.cell? ⟨w1.heap.size + 1, 1, none⟩ = some (.int .i64 m2) := (hb2.cell (p := ⟨w1.heap.size + 1, 1, none⟩) (by simp <;> omega)).trans (by simp [go_sem])
        have gb2 : w2.cell? ⟨w1.heap.size + 1, 2, none⟩ = some (.int .i64 l2) := (hb2.cell (p := ⟨w1.heap.size + 1, 2, none⟩) (by simp <;> omega)).trans (by simp [go_sem])
        have gb3 : w2.cell? ⟨w1.heap.size + 1, 3, none⟩ = some (.int .i64 t2) := (hb2.cell (p := ⟨w1.heap.size + 1, 3, none⟩) (by simp <;> omega)).trans (by simp [go_sem])
        have y1 : w1.heap.size < w2.heap.size := by have h9 := hb2.size; simp at h9; omega
        have y2 : w1.heap.size + 1 < w2.heap.size := by have h9 := hb2.size; simp at h9; omega
        go_wp2_with fail
        refine (implboth_c _ HX).mono ?_
        rintro e w3 ⟨rfl, hb3⟩
        have y3 : w2.heap.size + 1 < w3.heap.size := by have h9 := hb3.size; simp at h9; omega
        have hbW : Below w2.heap.size w2 ((w2.alloc (.cells #[.int .i64 n4, .int .i64 m4, .int .i64 l4, .int .i64 t4] 33)).alloc (.cells #[.int .i64 n6, .int .i64 m6, .int .i64 l6, .int .i64 t6] 33)) := bel_alloc (bel_one _ _) _
        have pa0 : w3.cell? ⟨w1.heap.size, 0, none⟩ = some (.int .i64 n0) := (hb3.cell (p := ⟨w1.heap.size, 0, none⟩) (by simp <;> omega)).trans ((hbW.cell (p := ⟨w1.heap.size, 0, none⟩) (by simp <;> omega)).trans ga0)
        have pa1 : w3.cell? ⟨w1.heap.size, 1, none⟩ = some (.int .i64 m0) := (hb3.cell (p := ⟨w1.heap.size, 1, none⟩) (by simp <;> omega)).trans ((hbW.cell (p := ⟨w1.heap.size, 1, none⟩) (by simp <;> omega)).trans ga1)
        have pa2 : w3.cell? ⟨w1.heap.size, 2, none⟩ = some (.int .i64 l0) := (hb3.cell (p := ⟨w1.heap.size, 2, none⟩) (by simp <;> omega)).trans ((hbW.cell (p := ⟨w1.heap.size, 2, none⟩) (by simp <;> omega)).trans ga2)
        have pa3 : w3.cell? ⟨w1.heap.size, 3, none⟩ = some (.int .i64 t0) := (hb3.cell (p := ⟨w1.heap.size, 3, none⟩) (by simp <;> omega)).trans ((hbW.cell (p := ⟨w1.heap.size, 3, none⟩) (by simp <;> omega)).trans ga3)
        have pb0 : w3.cell? ⟨w1.heap.size + 1, 0, none⟩ = some (.int .i64 n2) := (hb3.cell (p := ⟨w1.heap.size + 1, 0, none⟩) (by simp <;> omega)).trans ((hbW.cell (p := ⟨w1.heap.size + 1, 0, none⟩) (by simp <;> omega)).trans gb0)
        have pb1 : w3.cell? ⟨w1.heap.size + 1, 1, none⟩ = some (.int .i64 m2) := (hb3.cell (p := ⟨w1.heap.size + 1, 1, none⟩) (by simp <;> omega)).trans ((hbW.cell (p := ⟨w1.heap.size + 1, 1, none⟩) (by simp <;> omega)).trans gb1)
        have pb2 : w3.cell? ⟨w1.heap.size + 1, 2, none⟩ = some (.int .i64 l2) := (hb3.cell (p := ⟨w1.heap.size + 1, 2, none⟩) (by simp <;> omega)).trans ((hbW.cell (p := ⟨w1.heap.size + 1, 2, none⟩) (by simp <;> omega)).trans gb2)
        have pb3 : w3.cell? ⟨w1.heap.size + 1, 3, none⟩ = some (.int .i64 t2) := (hb3.cell (p := ⟨w1.heap.size + 1, 3, none⟩) (by simp <;> omega)).trans ((hbW.cell (p := ⟨w1.heap.size + 1, 3, none⟩) (by simp <;> omega)).trans gb3)
        have pc0 : w3.cell? ⟨w2.heap.size, 0, none⟩ = some (.int .i64 n4) := (hb3.cell (p := ⟨w2.heap.size, 0, none⟩) (by simp <;> omega)).trans (by simp [go_sem])
        have pc1 : w3.cell? ⟨w2.heap.size, 1, none⟩ = some (.int .i64 m4) := (hb3.cell (p := ⟨w2.heap.size, 1, none⟩) (by simp <;> omega)).trans (by simp [go_sem])
        have pc2 : w3.cell? ⟨w2.heap.size, 2, none⟩ = some (.int .i64 l4) := (hb3.cell (p := ⟨w2.heap.size, 2, none⟩) (by simp <;> omega)).trans (by simp [go_sem])
        have pc3 : w3.cell? ⟨w2.heap.size, 3, none⟩ = some (.int .i64 t4) := (hb3.cell (p := ⟨w2.heap.size, 3, none⟩) (by simp <;> omega)).trans (by simp [go_sem])
        clear ga0 ga1 ga2 ga3 gb0 gb1 gb2 gb3
        have y4 : w1.heap.size < w3.heap.size := by omega
        have y5 : w1.heap.size + 1 < w3.heap.size := by omega
        have y6 : w2.heap.size < w3.heap.size := by omega
        go_wp2_with fail
        go_region_held3 (fun W => ((W.cell? ⟨w1.heap.size, 0, none⟩ = some (.int .i64 n0) ∧ W.cell? ⟨w1.heap.size, 1, none⟩ = some (.int .i64 m0) ∧ W.cell? ⟨w1.heap.size, 2, none⟩ = some (.int .i64 l0) ∧ W.cell? ⟨w1.heap.size, 3, none⟩ = some (.int .i64 t0) ∧ W.cell? ⟨w1.heap.size + 1, 0, none⟩ = some (.int .i64 n2) ∧ W.cell? ⟨w1.heap.size + 1, 1, none⟩ = some (.int .i64 m2) ∧ W.cell? ⟨w1.heap.size + 1, 2, none⟩ = some (.int .i64 l2) ∧ W.cell? ⟨w1.heap.size + 1, 3, none⟩ = some (.int .i64 t2) ∧ W.cell? ⟨w2.heap.size, 0, none⟩ = some (.int .i64 n4) ∧ W.cell? ⟨w2.heap.size, 1, none⟩ = some (.int .i64 m4) ∧ W.cell? ⟨w2.heap.size, 2, none⟩ = some (.int .i64 l4) ∧ W.cell? ⟨w2.heap.size, 3, none⟩ = some (.int .i64 t4) ∧ W.cell? ⟨w3.heap.size, 0, none⟩ = some (.int .i64 n1) ∧ W.cell? ⟨w3.heap.size, 1, none⟩ = some (.int .i64 m1) ∧ W.cell? ⟨w3.heap.size, 2, none⟩ = some (.int .i64 l1) ∧ W.cell? ⟨w3.heap.size, 3, none⟩ = some (.int .i64 t1)) ∧ w1.heap.size < W.heap.size ∧ w1.heap.size + 1 < W.heap.size ∧ w2.heap.size < W.heap.size ∧ w3.heap.size < W.heap.size)) ((first | ((repeat (first | (with_reducible assumption) | (with_reducible refine hd_4_4_4_4 ?_ (by with_reducible assumption)) | (with_reducible refine hd_4_4_4_4 ?_ (bel_drew (Below.refl _ _))) | (with_reducible exact hd_4_4_4_4_re (by with_reducible assumption) (by first | omega | (simp; done) | (simp; omega)) (by first | omega | (simp; done) | (simp; omega)) (by first | omega | (simp; done) | (simp; omega)) (by first | omega | (simp; done) | (simp; omega))) | (with_reducible refine hd_4_4_4_4 ?_ (bel_one _ _)) | (with_reducible refine hd_4_4_4_4_set ?_ (by first | omega | (simp; done) | (simp; omega)) (by first | omega | (simp; done) | (simp; omega)) (by first | omega | (simp; done) | (simp; omega)) (by first | omega | (simp; done) | (simp; omega)) _))); done) | (refine ⟨⟨?_, ?_, ?_, ?_, ?_, ?_, ?_, ?_, ?_, ?_, ?_, ?_, ?_, ?_, ?_, ?_⟩, ?_, ?_, ?_, ?_⟩ <;> first | (go_keep; done) | (simp; done) | (simp; omega) | omega)))
          (first
          | (go_at_call 28; refine (specboth_c _ HX).mono ?_; rintro e w4 ⟨rfl, hb⟩; obtain ⟨hc, hf, hs⟩ := bcell hb))
        have hX : Below (w3.alloc (.cells #[.int .i64 n1, .int .i64 m1, .int .i64 l1, .int .i64 t1] 33)).heap.size (w3.alloc (.cells #[.int .i64 n1, .int .i64 m1, .int .i64 l1, .int .i64 t1] 33)) w4 := (by repeat (first | (with_reducible exact Below.refl _ _) | (with_reducible assumption) | (with_reducible refine bel_set ?_ (by first | (simp; done) | (simp; omega)) _) | (with_reducible refine bel_alloc ?_ _) | (with_reducible refine bel_drew ?_) | (with_reducible refine bel_drewN ?_ _) | (with_reducible refine bel_trans ?_ (by with_reducible assumption))))
        clear hc hf hs
        have hbV : Below w3.heap.size w3 (w3.alloc (.cells #[.int .i64 n1, .int .i64 m1, .int .i64 l1, .int .i64 t1] 33)) := bel_one _ _
        have z3 : w3.heap.size < w4.heap.size := by have h9 := hX.size; simp at h9; omega
        have ia0 : w4.cell? ⟨w1.heap.size, 0, none⟩ = some (.int .i64 n0) := (hX.cell (p := ⟨w1.heap.size, 0, none⟩) (by simp <;> omega)).trans ((hbV.cell (p := ⟨w1.heap.size, 0, none⟩) (by simp <;> omega)).trans pa0)
        have ia1 : w4.cell? ⟨w1.heap.size, 1, none⟩ = some (.int .i64 m0) := (hX.cell (p := ⟨w1.heap.size, 1, none⟩) (by simp <;> omega)).trans ((hbV.cell (p := ⟨w1.heap.size, 1, none⟩) (by simp <;> omega)).trans pa1)
        have ia2 : w4.cell? ⟨w1.heap.size, 2, none⟩ = some (.int .i64 l0) := (hX.cell (p := ⟨w1.heap.size, 2, none⟩) (by simp <;> omega)).trans ((hbV.cell (p := ⟨w1.heap.size, 2, none⟩) (by simp <;> omega)).trans pa2)
        have ia3 : w4.cell? ⟨w1.heap.size, 3, none⟩ = some (.int .i64 t0) := (hX.cell (p := ⟨w1.heap.size, 3, none⟩) (by simp <;> omega)).trans ((hbV.cell (p := ⟨w1.heap.size, 3, none⟩) (by simp <;> omega)).trans pa3)
        have ib0 : w4.cell? ⟨w1.heap.size + 1, 0, none⟩ = some (.int .i64 n2) := (hX.cell (p := ⟨w1.heap.size + 1, 0, none⟩) (by simp <;> omega)).trans ((hbV.cell (p := ⟨w1.heap.size + 1, 0, none⟩) (by simp <;> omega)).trans pb0)
        have ib1 : w4.cell? ⟨w1.heap.size + 1, 1, none⟩ = some (.int .i64 m2) := (hX.cell (p := ⟨w1.heap.size + 1, 1, none⟩) (by simp <;> omega)).trans ((hbV.cell (p := ⟨w1.heap.size + 1, 1, none⟩) (by simp <;> omega)).trans pb1)
        have ib2 : w4.cell? ⟨w1.heap.size + 1, 2, none⟩ = some (.int .i64 l2) := (hX.cell (p := ⟨w1.heap.size + 1, 2, none⟩) (by simp <;> omega)).trans ((hbV.cell (p := ⟨w1.heap.size + 1, 2, none⟩) (by simp <;> omega)).trans pb2)
        have ib3 : w4.cell? ⟨w1.heap.size + 1, 3, none⟩ = some (.int .i64 t2) := (hX.cell (p := ⟨w1.heap.size + 1, 3, none⟩) (by simp <;> omega)).trans ((hbV.cell (p := ⟨w1.heap.size + 1, 3, none⟩) (by simp <;> omega)).trans pb3)
        have ic0 : w4.cell? ⟨w2.heap.size, 0, none⟩ = some (.int .i64 n4) := (hX.cell (p := ⟨w2.heap.size, 0, none⟩) (by simp <;> omega)).trans ((hbV.cell (p := ⟨w2.heap.size, 0, none⟩) (by simp <;> omega)).trans pc0)
        have ic1 : w4.cell? ⟨w2.heap.size, 1, none⟩ = some (.int .i64 m4) := (hX.cell (p := ⟨w2.heap.size, 1, none⟩) (by simp <;> omega)).trans ((hbV.cell (p := ⟨w2.heap.size, 1, none⟩) (by simp <;> omega)).trans pc1)
        have ic2 : w4.cell? ⟨w2.heap.size, 2, none⟩ = some (.int .i64 l4) := (hX.cell (p := ⟨w2.heap.size, 2, none⟩) (by simp <;> omega)).trans ((hbV.cell (p := ⟨w2.heap.size, 2, none⟩) (by simp <;> omega)).trans pc2)
        have ic3 : w4.cell? ⟨w2.heap.size, 3, none⟩ = some (.int .i64 t4) := (hX.cell (p := ⟨w2.heap.size, 3, none⟩) (by simp <;> omega)).trans ((hbV.cell (p := ⟨w2.heap.size, 3, none⟩) (by simp <;> omega)).trans pc3)
        have ix0 : w4.cell? ⟨w3.heap.size, 0, none⟩ = some (.int .i64 n1) := (hX.cell (p := ⟨w3.heap.size, 0, none⟩) (by simp)).trans (by simp [go_sem])
        have ix1 : w4.cell? ⟨w3.heap.size, 1, none⟩ = some (.int .i64 m1) := (hX.cell (p := ⟨w3.heap.size, 1, none⟩) (by simp)).trans (by simp [go_sem])
        have ix2 : w4.cell? ⟨w3.heap.size, 2, none⟩ = some (.int .i64 l1) := (hX.cell (p := ⟨w3.heap.size, 2, none⟩) (by simp)).trans (by simp [go_sem])
        have ix3 : w4.cell? ⟨w3.heap.size, 3, none⟩ = some (.int .i64 t1) := (hX.cell (p := ⟨w3.heap.size, 3, none⟩) (by simp)).trans (by simp [go_sem])
        clear pa0 pa1 pa2 pa3 pb0 pb1 pb2 pb3 pc0 pc1 pc2 pc3
        have v1 : w1.heap.size < w4.heap.size := by omega
        have v2 : w1.heap.size + 1 < w4.heap.size := by omega
        have v3 : w2.heap.size < w4.heap.size := by omega
        have hbF : Below w.heap.size w w4 := bel_trans (bel_trans (bel_trans (bel_trans (bel_alloc (bel_alloc hb1 _) _) hb2) (bel_trans hbW hb3)) hbV) hX
        clear hb1 hb2 hb3 hbW hbV hX
        go_wp2_with fail
        refine (specaggok_any _ _ _ _ _).mono ?_
        rintro e w5 ⟨rfl, hbw5⟩
        obtain ⟨hcw5, hfw5, hsw5⟩ := bcell hbw5
        have j0la : w1.heap.size < w5.heap.size := hsw5 _ v1
        have j0a0 : w5.cell? ⟨w1.heap.size, 0, none⟩ = some (.int .i64 n0) := (hcw5 _ _ v1).trans ia0
        have j0a1 : w5.cell? ⟨w1.heap.size, 1, none⟩ = some (.int .i64 m0) := (hcw5 _ _ v1).trans ia1
        have j0a2 : w5.cell? ⟨w1.heap.size, 2, none⟩ = some (.int .i64 l0) := (hcw5 _ _ v1).trans ia2
        have j0a3 : w5.cell? ⟨w1.heap.size, 3, none⟩ = some (.int .i64 t0) := (hcw5 _ _ v1).trans ia3
        have j0lb : w1.heap.size + 1 < w5.heap.size := hsw5 _ v2
        have j0b0 : w5.cell? ⟨w1.heap.size + 1, 0, none⟩ = some (.int .i64 n2) := (hcw5 _ _ v2).trans ib0
        have j0b1 : w5.cell? ⟨w1.heap.size + 1, 1, none⟩ = some (.int .i64 m2) := (hcw5 _ _ v2).trans ib1
        have j0b2 : w5.cell? ⟨w1.heap.size + 1, 2, none⟩ = some (.int .i64 l2) := (hcw5 _ _ v2).trans ib2
        have j0b3 : w5.cell? ⟨w1.heap.size + 1, 3, none⟩ = some (.int .i64 t2) := (hcw5 _ _ v2).trans ib3
        have j0lc : w2.heap.size < w5.heap.size := hsw5 _ v3
        have j0c0 : w5.cell? ⟨w2.heap.size, 0, none⟩ = some (.int .i64 n4) := (hcw5 _ _ v3).trans ic0
        have j0c1 : w5.cell? ⟨w2.heap.size, 1, none⟩ = some (.int .i64 m4) := (hcw5 _ _ v3).trans ic1
        have j0c2 : w5.cell? ⟨w2.heap.size, 2, none⟩ = some (.int .i64 l4) := (hcw5 _ _ v3).trans ic2
        have j0c3 : w5.cell? ⟨w2.heap.size, 3, none⟩ = some (.int .i64 t4) := (hcw5 _ _ v3).trans ic3
        have j0lx : w3.heap.size < w5.heap.size := hsw5 _ z3
        have j0x0 : w5.cell? ⟨w3.heap.size, 0, none⟩ = some (.int .i64 n1) := (hcw5 _ _ z3).trans ix0
        have j0x1 : w5.cell? ⟨w3.heap.size, 1, none⟩ = some (.int .i64 m1) := (hcw5 _ _ z3).trans ix1
        have j0x2 : w5.cell? ⟨w3.heap.size, 2, none⟩ = some (.int .i64 l1) := (hcw5 _ _ z3).trans ix2
        have j0x3 : w5.cell? ⟨w3.heap.size, 3, none⟩ = some (.int .i64 t1) := (hcw5 _ _ z3).trans ix3
        clear hcw5 hfw5 hsw5 ia0 ia1 ia2 ia3 ib0 ib1 ib2 ib3 ic0 ic1 ic2 ic3 ix0 ix1 ix2 ix3
        go_wp2_with fail
        refine wp_region_held_drew (S := (fun W => ((W.cell? ⟨w1.heap.size, 0, none⟩ = some (.int .i64 n0) ∧ W.cell? ⟨w1.heap.size, 1, none⟩ = some (.int .i64 m0) ∧ W.cell? ⟨w1.heap.size, 2, none⟩ = some (.int .i64 l0) ∧ W.cell? ⟨w1.heap.size, 3, none⟩ = some (.int .i64 t0)) ∧ w1.heap.size < W.heap.size))) (by kernel_rfl) ?_ (fun hHeld => ?_)
        · (try dsimp only); ((first | ((repeat (first | (with_reducible assumption) | (with_reducible refine hd_4 ?_ (by with_reducible assumption)) | (with_reducible refine hd_4 ?_ (bel_drew (Below.refl _ _))) | (with_reducible exact hd_4_re (by with_reducible assumption) (by first | omega | (simp; done) | (simp; omega))) | (with_reducible refine hd_4 ?_ (bel_one _ _)) | (with_reducible refine hd_4_set ?_ (by first | omega | (simp; done) | (simp; omega)) _))); done) | (refine ⟨⟨?_, ?_, ?_, ?_⟩, ?_⟩ <;> first | (go_keep; done) | (simp; done) | (simp; omega) | omega)))
        refine wpAnyH_take (i := 0) (v := ?_) (by simp only [List.getElem?_toArray, List.getElem?_cons_zero, List.getElem?_cons_succ]; rfl) (by kernel_rfl) (by kernel_rfl) (by kernel_rfl) (by intro _ _ _ h; exact h) (Or.inl ⟨by rfl, ?_⟩) (by assumption) ?_
        rotate_left
        · (intro w9 hSw; (try dsimp only at hSw); go_simp <;> with_reducible rfl)
        try simp only [Act.put, List.setIfInBounds_toArray, List.set_cons_zero, List.set_cons_succ]
        refine wpAnyH_take (i := 2) (v := ?_) (by simp only [List.getElem?_toArray, List.getElem?_cons_zero, List.getElem?_cons_succ]; rfl) (by kernel_rfl) (by kernel_rfl) (by kernel_rfl) (by intro _ _ _ h; exact h) (Or.inl ⟨by rfl, ?_⟩) (by assumption) ?_
        rotate_left
        · (intro w9 hSw; (try dsimp only at hSw); go_simp <;> with_reducible rfl)
        try simp only [Act.put, List.setIfInBounds_toArray, List.set_cons_zero, List.set_cons_succ]
        refine wpAnyH_ready (rs := [1]) (by kernel_rfl) (by simp) ?_
        refine AllReadyH.cons (by simp only [List.getElem?_toArray, List.getElem?_cons_zero, List.getElem?_cons_succ]; rfl) (fun K hK => ?_) AllReadyH.nil
        go_simp
        (go_at_call 25; refine (implaggok_any _ _ _ _ _).mono ?_; rintro e w20 ⟨rfl, hb⟩; obtain ⟨hc, hf, hs⟩ := bcell hb)
        (try go_wp2_with fail)
        refine hK.out _ _ ?_ (fun hHeld2 => ?_)
        · (try dsimp only); ((first | ((repeat (first | (with_reducible assumption) | (with_reducible refine hd_4 ?_ (by with_reducible assumption)) | (with_reducible refine hd_4 ?_ (bel_drew (Below.refl _ _))) | (with_reducible exact hd_4_re (by with_reducible assumption) (by first | omega | (simp; done) | (simp; omega))) | (with_reducible refine hd_4 ?_ (bel_one _ _)) | (with_reducible refine hd_4_set ?_ (by first | omega | (simp; done) | (simp; omega)) _))); done) | (refine ⟨⟨?_, ?_, ?_, ?_⟩, ?_⟩ <;> first | (go_keep; done) | (simp; done) | (simp; omega) | omega)))
        clear hK K hHeld
        have hHeld := hHeld2
        clear hHeld2
        try simp only [Act.put, List.setIfInBounds_toArray, List.set_cons_zero, List.set_cons_succ]
        refine wpAnyH_ready (rs := [3]) (by kernel_rfl) (by simp) ?_
        refine AllReadyH.cons (by simp only [List.getElem?_toArray, List.getElem?_cons_zero, List.getElem?_cons_succ]; rfl) (fun K hK => ?_) AllReadyH.nil
        go_simp
        (go_at_call 24; refine (specaggok_any _ _ _ _ _).mono ?_; rintro e w21 ⟨rfl, hb⟩; obtain ⟨hc, hf, hs⟩ := bcell hb)
        (try go_wp2_with fail)
        refine hK.out _ _ ?_ (fun hHeld2 => ?_)
        · (try dsimp only); ((first | ((repeat (first | (with_reducible assumption) | (with_reducible refine hd_4 ?_ (by with_reducible assumption)) | (with_reducible refine hd_4 ?_ (bel_drew (Below.refl _ _))) | (with_reducible exact hd_4_re (by with_reducible assumption) (by first | omega | (simp; done) | (simp; omega))) | (with_reducible refine hd_4 ?_ (bel_one _ _)) | (with_reducible refine hd_4_set ?_ (by first | omega | (simp; done) | (simp; omega)) _))); done) | (refine ⟨⟨?_, ?_, ?_, ?_⟩, ?_⟩ <;> first | (go_keep; done) | (simp; done) | (simp; omega) | omega)))
        clear hK K hHeld
        have hHeld := hHeld2
        clear hHeld2
        try simp only [Act.put, List.setIfInBounds_toArray, List.set_cons_zero, List.set_cons_succ]
        refine wpAnyH_take (i := 4) (v := ?_) (by simp only [List.getElem?_toArray, List.getElem?_cons_zero, List.getElem?_cons_succ]; rfl) (by kernel_rfl) (by kernel_rfl) (by kernel_rfl) (by intro _ _ _ h; exact h) (Or.inl ⟨by rfl, ?_⟩) (by assumption) ?_
        rotate_left
        · (intro w9 hSw; (try dsimp only at hSw); go_simp <;> with_reducible rfl)
        try simp only [Act.put, List.setIfInBounds_toArray, List.set_cons_zero, List.set_cons_succ]
        refine wpAnyH_take (i := 5) (v := ?_) (by simp only [List.getElem?_toArray, List.getElem?_cons_zero, List.getElem?_cons_succ]; rfl) (by kernel_rfl) (by kernel_rfl) (by kernel_rfl) (by intro _ _ _ h; exact h) (Or.inl ⟨by rfl, ?_⟩) (by assumption) ?_
        rotate_left
        · (intro w9 hSw; (try dsimp only at hSw); go_simp <;> with_reducible rfl)
        try simp only [Act.put, List.setIfInBounds_toArray, List.set_cons_zero, List.set_cons_succ]
        refine wpAnyH_ready (rs := [6]) (by kernel_rfl) (by simp) ?_
        refine AllReadyH.cons (by simp only [List.getElem?_toArray, List.getElem?_cons_zero, List.getElem?_cons_succ]; rfl) (fun K hK => ?_) AllReadyH.nil
        go_simp
        (go_at_call 14; refine (frok_any _).mono ?_; rintro e w22 ⟨rfl, hb⟩; obtain ⟨hc, hf, hs⟩ := bcell hb)
        (try go_wp2_with fail)
        refine hK.out _ _ ?_ (fun hHeld2 => ?_)
        · (try dsimp only); ((first | ((repeat (first | (with_reducible assumption) | (with_reducible refine hd_4 ?_ (by with_reducible assumption)) | (with_reducible refine hd_4 ?_ (bel_drew (Below.refl _ _))) | (with_reducible exact hd_4_re (by with_reducible assumption) (by first | omega | (simp; done) | (simp; omega))) | (with_reducible refine hd_4 ?_ (bel_one _ _)) | (with_reducible refine hd_4_set ?_ (by first | omega | (simp; done) | (simp; omega)) _))); done) | (refine ⟨⟨?_, ?_, ?_, ?_⟩, ?_⟩ <;> first | (go_keep; done) | (simp; done) | (simp; omega) | omega)))
        clear hK K hHeld
        have hHeld := hHeld2
        clear hHeld2
        try simp only [Act.put, List.setIfInBounds_toArray, List.set_cons_zero, List.set_cons_succ]
        refine wpAnyH_take (i := 7) (v := ?_) (by simp only [List.getElem?_toArray, List.getElem?_cons_zero, List.getElem?_cons_succ]; rfl) (by kernel_rfl) (by kernel_rfl) (by kernel_rfl) (by intro _ _ _ h; exact h) (Or.inl ⟨by rfl, ?_⟩) (by assumption) ?_
        rotate_left
        · (intro w9 hSw; (try dsimp only at hSw); go_simp <;> with_reducible rfl)
        try simp only [Act.put, List.setIfInBounds_toArray, List.set_cons_zero, List.set_cons_succ]
        refine wpAnyH_take (i := 8) (v := ?_) (by simp only [List.getElem?_toArray, List.getElem?_cons_zero, List.getElem?_cons_succ]; rfl) (by kernel_rfl) (by kernel_rfl) (by kernel_rfl) (by intro _ _ _ h; exact h) (Or.inl ⟨by rfl, ?_⟩) (by assumption) ?_
        rotate_left
        · (intro w9 hSw; (try dsimp only at hSw); go_simp <;> with_reducible rfl)
        try simp only [Act.put, List.setIfInBounds_toArray, List.set_cons_zero, List.set_cons_succ]
        refine wpAnyH_done (by kernel_rfl) ?_ _
        go_wp2
        go_ret
        refine ⟨?_, (by repeat (first | (with_reducible exact Below.refl _ _) | (with_reducible assumption) | (with_reducible refine bel_set ?_ (by first | (simp; done) | (simp; omega)) _) | (with_reducible refine bel_alloc ?_ _) | (with_reducible refine bel_drew ?_) | (with_reducible refine bel_drewN ?_ _) | (with_reducible refine bel_trans ?_ (by with_reducible assumption))))⟩
        first | rfl | exact ret_b (by simp <;> omega)
      · cases oB : okAgg n2 m2 l2 t2
        · obtain ⟨n1, m1, l1, t1, HX⟩ : ∃ n1 m1 l1 t1 : Int, Hid (bo n0 n2 n0 n2 (wrap64 (n0 + n2)) = n1 ∧ bo n0 n2 m0 m2 (wrap64 (m0 + m2)) = m1 ∧ bo n0 n2 l0 l2 (loI l0 l2) = l1 ∧ bo n0 n2 t0 t2 (hiI t0 t2) = t1) := ⟨_, _, _, _, hide ⟨rfl, rfl, rfl, rfl⟩⟩
          have ga0 : w2.cell? ⟨w1.heap.size, 0, none⟩ = some (.int .i64 n0) := (hb2.cell (p := ⟨w1.heap.size, 0, none⟩) (by simp <;> omega)).trans (by simp [go_sem])
          have ga1 : w2.cell? ⟨w1.heap.size, 1, none⟩ = some (.int .i64 m0) := (hb2.cell (p := ⟨w1.heap.size, 1, none⟩) (by simp <;> omega)).trans (by simp [go_sem])
          have ga2 : w2.cell? ⟨w1.heap.size, 2, none⟩ = some (.int .i64 l0) := (hb2.cell (p := ⟨w1.heap.size, 2, none⟩) (by simp <;> omega)).trans (by simp [go_sem])
          have ga3 : w2.cell? ⟨w1.heap.size, 3, none⟩ = some (.int .i64 t0) := (hb2.cell (p := ⟨w1.heap.size, 3, none⟩) (by simp <;> omega)).trans (by simp [go_sem])
          have gb0 : w2.cell? ⟨w1.heap.size + 1, 0, none⟩ = some (.int .i64 n2) := (hb2.cell (p := ⟨w1.heap.size + 1, 0, none⟩) (by simp <;> omega)).trans (by simp [go_sem])
          have gb1 : w2.cell? ⟨w1.heap.size + 1, 1, none⟩ = some (.int .i64 m2) := (hb2.cell (p := ⟨w1.heap.size + 1, 1, none⟩) (by simp <;> omega)).trans (by simp [go_sem])
          have gb2 : w2.cell? ⟨w1.heap.size + 1, 2, none⟩ = some (.int .i64 l2) := (hb2.cell (p := ⟨w1.heap.size + 1, 2, none⟩) (by simp <;> omega)).trans (by simp [go_sem])
          have gb3 : w2.cell? ⟨w1.heap.size + 1, 3, none⟩ = some (.int .i64 t2) := (hb2.cell (p := ⟨w1.heap.size + 1, 3, none⟩) (by simp <;> omega)).trans (by simp [go_sem])
          have y1 : w1.heap.size < w2.heap.size := by have h9 := hb2.size; simp at h9; omega
          have y2 : w1.heap.size + 1 < w2.heap.size := by have h9 := hb2.size; simp at h9; omega
          go_wp2_with fail
          refine (implboth_c _ HX).mono ?_
          rintro e w3 ⟨rfl, hb3⟩
          have y3 : w2.heap.size + 1 < w3.heap.size := by have h9 := hb3.size; simp at h9; omega
          have hbW : Below w2.heap.size w2 ((w2.alloc (.cells #[.int .i64 n4, .int .i64 m4, .int .i64 l4, .int .i64 t4] 33)).alloc (.cells #[.int .i64 n6, .int .i64 m6, .int .i64 l6, .int .i64 t6] 33)) := bel_alloc (bel_one _ _) _
          have pa0 : w3.cell? ⟨w1.heap.size, 0, none⟩ = some (.int .i64 n0) := (hb3.cell (p := ⟨w1.heap.size, 0, none⟩) (by simp <;> omega)).trans ((hbW.cell (p := ⟨w1.heap.size, 0, none⟩) (by simp <;> omega)).trans ga0)
          have pa1 : w3.cell? ⟨w1.heap.size, 1, none⟩ = some (.int .i64 m0) := (hb3.cell (p := ⟨w1.heap.size, 1, none⟩) (by simp <;> omega)).trans ((hbW.cell (p := ⟨w1.heap.size, 1, none⟩) (by simp <;> omega)).trans ga1)
          have pa2 : w3.cell? ⟨w1.heap.size, 2, none⟩ = some (.int .i64 l0) := (hb3.cell (p := ⟨w1.heap.size, 2, none⟩) (by simp <;> omega)).trans ((hbW.cell (p := ⟨w1.heap.size, 2, none⟩) (by simp <;> omega)).trans ga2)
          have pa3 : w3.cell? ⟨w1.heap.size, 3, none⟩ = some (.int .i64 t0) := (hb3.cell (p := ⟨w1.heap.size, 3, none⟩) (by simp <;> omega)).trans ((hbW.cell (p := ⟨w1.heap.size, 3, none⟩) (by simp <;> omega)).trans ga3)
          have pb0 : w3.cell? ⟨w1.heap.size + 1, 0, none⟩ = some (.int .i64 n2) := (hb3.cell (p := ⟨w1.heap.size + 1, 0, none⟩) (by simp <;> omega)).trans ((hbW.cell (p := ⟨w1.heap.size + 1, 0, none⟩) (by simp <;> omega)).trans gb0)
          have pb1 : w3.cell? ⟨w1.heap.size + 1, 1, none⟩ = some (.int .i64 m2) := (hb3.cell (p := ⟨w1.heap.size + 1, 1, none⟩) (by simp <;> omega)).trans ((hbW.cell (p := ⟨w1.heap.size + 1, 1, none⟩) (by simp <;> omega)).trans gb1)
          have pb2 : w3.cell? ⟨w1.heap.size + 1, 2, none⟩ = some (.int .i64 l2) := (hb3.cell (p := ⟨w1.heap.size + 1, 2, none⟩) (by simp <;> omega)).trans ((hbW.cell (p := ⟨w1.heap.size + 1, 2, none⟩) (by simp <;> omega)).trans gb2)
          have pb3 : w3.cell? ⟨w1.heap.size + 1, 3, none⟩ = some (.int .i64 t2) := (hb3.cell (p := ⟨w1.heap.size + 1, 3, none⟩) (by simp <;> omega)).trans ((hbW.cell (p := ⟨w1.heap.size + 1, 3, none⟩) (by simp <;> omega)).trans gb3)
          have pc0 : w3.cell? ⟨w2.heap.size, 0, none⟩ = some (.int .i64 n4) := (hb3.cell (p := ⟨w2.heap.size, 0, none⟩) (by simp <;> omega)).trans (by simp [go_sem])
          have pc1 : w3.cell? ⟨w2.heap.size, 1, none⟩ = some (.int .i64 m4) := (hb3.cell (p := ⟨w2.heap.size, 1, none⟩) (by simp <;> omega)).trans (by simp [go_sem])
          have pc2 : w3.cell? ⟨w2.heap.size, 2, none⟩ = some (.int .i64 l4) := (hb3.cell (p := ⟨w2.heap.size, 2, none⟩) (by simp <;> omega)).trans (by simp [go_sem])
          have pc3 : w3.cell? ⟨w2.heap.size, 3, none⟩ = some (.int .i64 t4) := (hb3.cell (p := ⟨w2.heap.size, 3, none⟩) (by simp <;> omega)).trans (by simp [go_sem])
          clear ga0 ga1 ga2 ga3 gb0 gb1 gb2 gb3
          have y4 : w1.heap.size < w3.heap.size := by omega
          have y5 : w1.heap.size + 1 < w3.heap.size := by omega
          have y6 : w2.heap.size < w3.heap.size := by omega
          go_wp2_with fail
          go_region_held3 (fun W => ((W.cell? ⟨w1.heap.size, 0, none⟩ = some (.int .i64 n0) ∧ W.cell? ⟨w1.heap.size, 1, none⟩ = some (.int .i64 m0) ∧ W.cell? ⟨w1.heap.size, 2, none⟩ = some (.int .i64 l0) ∧ W.cell? ⟨w1.heap.size, 3, none⟩ = some (.int .i64 t0) ∧ W.cell? ⟨w1.heap.size + 1, 0, none⟩ = some (.int .i64 n2) ∧ W.cell? ⟨w1.heap.size + 1, 1, none⟩ = some (.int .i64 m2) ∧ W.cell? ⟨w1.heap.size + 1, 2, none⟩ = some (.int .i64 l2) ∧ W.cell? ⟨w1.heap.size + 1, 3, none⟩ = some (.int .i64 t2) ∧ W.cell? ⟨w2.heap.size, 0, none⟩ = some (.int .i64 n4) ∧ W.cell? ⟨w2.heap.size, 1, none⟩ = some (.int .i64 m4) ∧ W.cell? ⟨w2.heap.size, 2, none⟩ = some (.int .i64 l4) ∧ W.cell? ⟨w2.heap.size, 3, none⟩ = some (.int .i64 t4) ∧ W.cell? ⟨w3.heap.size, 0, none⟩ = some (.int .i64 n1) ∧ W.cell? ⟨w3.heap.size, 1, none⟩ = some (.int .i64 m1) ∧ W.cell? ⟨w3.heap.size, 2, none⟩ = some (.int .i64 l1) ∧ W.cell? ⟨w3.heap.size, 3, none⟩ = some (.int .i64 t1)) ∧ w1.heap.size < W.heap.size ∧ w1.heap.size + 1 < W.heap.size ∧ w2.heap.size < W.heap.size ∧ w3.heap.size < W.heap.size)) ((first | ((repeat (first | (with_reducible assumption) | (with_reducible refine hd_4_4_4_4 ?_ (by with_reducible assumption)) | (with_reducible refine hd_4_4_4_4 ?_ (bel_drew (Below.refl _ _))) | (with_reducible exact hd_4_4_4_4_re (by with_reducible assumption) (by first | omega | (simp; done) | (simp; omega)) (by first | omega | (simp; done) | (simp; omega)) (by first | omega | (simp; done) | (simp; omega)) (by first | omega | (simp; done) | (simp; omega))) | (with_reducible refine hd_4_4_4_4 ?_ (bel_one _ _)) | (with_reducible refine hd_4_4_4_4_set ?_ (by first | omega | (simp; done) | (simp; omega)) (by first | omega | (simp; done) | (simp; omega)) (by first | omega | (simp; done) | (simp; omega)) (by first | omega | (simp; done) | (simp; omega)) _))); done) | (refine ⟨⟨?_, ?_, ?_, ?_, ?_, ?_, ?_, ?_, ?_, ?_, ?_, ?_, ?_, ?_, ?_, ?_⟩, ?_, ?_, ?_, ?_⟩ <;> first | (go_keep; done) | (simp; done) | (simp; omega) | omega)))
            (first
            | (go_at_call 28; refine (specboth_c _ HX).mono ?_; rintro e w4 ⟨rfl, hb⟩; obtain ⟨hc, hf, hs⟩ := bcell hb))
          have hX : Below (w3.alloc (.cells #[.int .i64 n1, .int .i64 m1, .int .i64 l1, .int .i64 t1] 33)).heap.size (w3.alloc (.cells #[.int .i64 n1, .int .i64 m1, .int .i64 l1, .int .i64 t1] 33)) w4 := (by repeat (first | (with_reducible exact Below.refl _ _) | (with_reducible assumption) | (with_reducible refine bel_set ?_ (by first | (simp; done) | (simp; omega)) _) | (with_reducible refine bel_alloc ?_ _) | (with_reducible refine bel_drew ?_) | (with_reducible refine bel_drewN ?_ _) | (with_reducible refine bel_trans ?_ (by with_reducible assumption))))
          clear hc hf hs
          have hbV : Below w3.heap.size w3 (w3.alloc (.cells #[.int .i64 n1, .int .i64 m1, .int .i64 l1, .int .i64 t1] 33)) := bel_one _ _
          have z3 : w3.heap.size < w4.heap.size := by have h9 := hX.size; simp at h9; omega
          have ia0 : w4.cell? ⟨w1.heap.size, 0, none⟩ = some (.int .i64 n0) := (hX.cell (p := ⟨w1.heap.size, 0, none⟩) (by simp <;> omega)).trans ((hbV.cell (p := ⟨w1.heap.size, 0, none⟩) (by simp <;> omega)).trans pa0)
          have ia1 : w4.cell? ⟨w1.heap.size, 1, none⟩ = some (.int .i64 m0) := (hX.cell (p := ⟨w1.heap.size, 1, none⟩) (by simp <;> omega)).trans ((hbV.cell (p := ⟨w1.heap.size, 1, none⟩) (by simp <;> omega)).trans pa1)
          have ia2 : w4.cell? ⟨w1.heap.size, 2, none⟩ = some (.int .i64 l0) := (hX.cell (p := ⟨w1.heap.size, 2, none⟩) (by simp <;> omega)).trans ((hbV.cell (p := ⟨w1.heap.size, 2, none⟩) (by simp <;> omega)).trans pa2)
          have ia3 : w4.cell? ⟨w1.heap.size, 3, none⟩ = some (.int .i64 t0) := (hX.cell (p := ⟨w1.heap.size, 3, none⟩) (by simp <;> omega)).trans ((hbV.cell (p := ⟨w1.heap.size, 3, none⟩) (by simp <;> omega)).trans pa3)
          have ib0 : w4.cell? ⟨w1.heap.size + 1, 0, none⟩ = some (.int .i64 n2) := (hX.cell (p := ⟨w1.heap.size + 1, 0, none⟩) (by simp <;> omega)).trans ((hbV.cell (p := ⟨w1.heap.size + 1, 0, none⟩) (by simp <;> omega)).trans pb0)
          have ib1 : w4.cell? ⟨w1.heap.size + 1, 1, none⟩ = some (.int .i64 m2) := (hX.cell (p := ⟨w1.heap.size + 1, 1, none⟩) (by simp <;> omega)).trans ((hbV.cell (p := ⟨w1.heap.size + 1, 1, none⟩) (by simp <;> omega)).trans pb1)
          have ib2 : w4.cell? ⟨w1.heap.size + 1, 2, none⟩ = some (.int .i64 l2) := (hX.cell (p := ⟨w1.heap.size + 1, 2, none⟩) (by simp <;> omega)).trans ((hbV.cell (p := ⟨w1.heap.size + 1, 2, none⟩) (by simp <;> omega)).trans pb2)
          have ib3 : w4.cell? ⟨w1.heap.size + 1, 3, none⟩ = some (.int .i64 t2) := (hX.cell (p := ⟨w1.heap.size + 1, 3, none⟩) (by simp <;> omega)).trans ((hbV.cell (p := ⟨w1.heap.size + 1, 3, none⟩) (by simp <;> omega)).trans pb3)
          have ic0 : w4.cell? ⟨w2.heap.size, 0, none⟩ = some (.int .i64 n4) := (hX.cell (p := ⟨w2.heap.size, 0, none⟩) (by simp <;> omega)).trans ((hbV.cell (p := ⟨w2.heap.size, 0, none⟩) (by simp <;> omega)).trans pc0)
          have ic1 : w4.cell? ⟨w2.heap.size, 1, none⟩ = some (.int .i64 m4) := (hX.cell (p := ⟨w2.heap.size, 1, none⟩) (by simp <;> omega)).trans ((hbV.cell (p := ⟨w2.heap.size, 1, none⟩) (by simp <;> omega)).trans pc1)
          have ic2 : w4.cell? ⟨w2.heap.size, 2, none⟩ = some (.int .i64 l4) := (hX.cell (p := ⟨w2.heap.size, 2, none⟩) (by simp <;> omega)).trans ((hbV.cell (p := ⟨w2.heap.size, 2, none⟩) (by simp <;> omega)).trans pc2)
          have ic3 : w4.cell? ⟨w2.heap.size, 3, none⟩ = some (.int .i64 t4) := (hX.cell (p := ⟨w2.heap.size, 3, none⟩) (by simp <;> omega)).trans ((hbV.cell (p := ⟨w2.heap.size, 3, none⟩) (by simp <;> omega)).trans pc3)
          have ix0 : w4.cell? ⟨w3.heap.size, 0, none⟩ = some (.int .i64 n1) := (hX.cell (p := ⟨w3.heap.size, 0, none⟩) (by simp)).trans (by simp [go_sem])
          have ix1 : w4.cell? ⟨w3.heap.size, 1, none⟩ = some (.int .i64 m1) := (hX.cell (p := ⟨w3.heap.size, 1, none⟩) (by simp)).trans (by simp [go_sem])
          have ix2 : w4.cell? ⟨w3.heap.size, 2, none⟩ = some (.int .i64 l1) := (hX.cell (p := ⟨w3.heap.size, 2, none⟩) (by simp)).trans (by simp [go_sem])
          have ix3 : w4.cell? ⟨w3.heap.size, 3, none⟩ = some (.int .i64 t1) := (hX.cell (p := ⟨w3.heap.size, 3, none⟩) (by simp)).trans (by simp [go_sem])
          clear pa0 pa1 pa2 pa3 pb0 pb1 pb2 pb3 pc0 pc1 pc2 pc3
          have v1 : w1.heap.size < w4.heap.size := by omega
          have v2 : w1.heap.size + 1 < w4.heap.size := by omega
          have v3 : w2.heap.size < w4.heap.size := by omega
          have hbF : Below w.heap.size w w4 := bel_trans (bel_trans (bel_trans (bel_trans (bel_alloc (bel_alloc hb1 _) _) hb2) (bel_trans hbW hb3)) hbV) hX
          clear hb1 hb2 hb3 hbW hbV hX
          go_wp2_with fail
          refine (specaggok_any _ _ _ _ _).mono ?_
          rintro e w5 ⟨rfl, hbw5⟩
          obtain ⟨hcw5, hfw5, hsw5⟩ := bcell hbw5
          have j0la : w1.heap.size < w5.heap.size := hsw5 _ v1
          have j0a0 : w5.cell? ⟨w1.heap.size, 0, none⟩ = some (.int .i64 n0) := (hcw5 _ _ v1).trans ia0
          have j0a1 : w5.cell? ⟨w1.heap.size, 1, none⟩ = some (.int .i64 m0) := (hcw5 _ _ v1).trans ia1
          have j0a2 : w5.cell? ⟨w1.heap.size, 2, none⟩ = some (.int .i64 l0) := (hcw5 _ _ v1).trans ia2
          have j0a3 : w5.cell? ⟨w1.heap.size, 3, none⟩ = some (.int .i64 t0) := (hcw5 _ _ v1).trans ia3
          have j0lb : w1.heap.size + 1 < w5.heap.size := hsw5 _ v2
          have j0b0 : w5.cell? ⟨w1.heap.size + 1, 0, none⟩ = some (.int .i64 n2) := (hcw5 _ _ v2).trans ib0
          have j0b1 : w5.cell? ⟨w1.heap.size + 1, 1, none⟩ = some (.int .i64 m2) := (hcw5 _ _ v2).trans ib1
          have j0b2 : w5.cell? ⟨w1.heap.size + 1, 2, none⟩ = some (.int .i64 l2) := (hcw5 _ _ v2).trans ib2
          have j0b3 : w5.cell? ⟨w1.heap.size + 1, 3, none⟩ = some (.int .i64 t2) := (hcw5 _ _ v2).trans ib3
          have j0lc : w2.heap.size < w5.heap.size := hsw5 _ v3
          have j0c0 : w5.cell? ⟨w2.heap.size, 0, none⟩ = some (.int .i64 n4) := (hcw5 _ _ v3).trans ic0
          have j0c1 : w5.cell? ⟨w2.heap.size, 1, none⟩ = some (.int .i64 m4) := (hcw5 _ _ v3).trans ic1
          have j0c2 : w5.cell? ⟨w2.heap.size, 2, none⟩ = some (.int .i64 l4) := (hcw5 _ _ v3).trans ic2
          have j0c3 : w5.cell? ⟨w2.heap.size, 3, none⟩ = some (.int .i64 t4) := (hcw5 _ _ v3).trans ic3
          have j0lx : w3.heap.size < w5.heap.size := hsw5 _ z3
          have j0x0 : w5.cell? ⟨w3.heap.size, 0, none⟩ = some (.int .i64 n1) := (hcw5 _ _ z3).trans ix0
          have j0x1 : w5.cell? ⟨w3.heap.size, 1, none⟩ = some (.int .i64 m1) := (hcw5 _ _ z3).trans ix1
          have j0x2 : w5.cell? ⟨w3.heap.size, 2, none⟩ = some (.int .i64 l1) := (hcw5 _ _ z3).trans ix2
          have j0x3 : w5.cell? ⟨w3.heap.size, 3, none⟩ = some (.int .i64 t1) := (hcw5 _ _ z3).trans ix3
          clear hcw5 hfw5 hsw5 ia0 ia1 ia2 ia3 ib0 ib1 ib2 ib3 ic0 ic1 ic2 ic3 ix0 ix1 ix2 ix3
          go_wp2_with fail
          refine (specaggok_any _ _ _ _ _).mono ?_
          rintro e w6 ⟨rfl, hbw6⟩
          obtain ⟨hcw6, hfw6, hsw6⟩ := bcell hbw6
          have j1la : w1.heap.size < w6.heap.size := hsw6 _ j0la
          have j1a0 : w6.cell? ⟨w1.heap.size, 0, none⟩ = some (.int .i64 n0) := (hcw6 _ _ j0la).trans j0a0
          have j1a1 : w6.cell? ⟨w1.heap.size, 1, none⟩ = some (.int .i64 m0) := (hcw6 _ _ j0la).trans j0a1
          have j1a2 : w6.cell? ⟨w1.heap.size, 2, none⟩ = some (.int .i64 l0) := (hcw6 _ _ j0la).trans j0a2
          have j1a3 : w6.cell? ⟨w1.heap.size, 3, none⟩ = some (.int .i64 t0) := (hcw6 _ _ j0la).trans j0a3
          have j1lb : w1.heap.size + 1 < w6.heap.size := hsw6 _ j0lb
          have j1b0 : w6.cell? ⟨w1.heap.size + 1, 0, none⟩ = some (.int .i64 n2) := (hcw6 _ _ j0lb).trans j0b0
          have j1b1 : w6.cell? ⟨w1.heap.size + 1, 1, none⟩ = some (.int .i64 m2) := (hcw6 _ _ j0lb).trans j0b1
          have j1b2 : w6.cell? ⟨w1.heap.size + 1, 2, none⟩ = some (.int .i64 l2) := (hcw6 _ _ j0lb).trans j0b2
          have j1b3 : w6.cell? ⟨w1.heap.size + 1, 3, none⟩ = some (.int .i64 t2) := (hcw6 _ _ j0lb).trans j0b3
          have j1lc : w2.heap.size < w6.heap.size := hsw6 _ j0lc
          have j1c0 : w6.cell? ⟨w2.heap.size, 0, none⟩ = some (.int .i64 n4) := (hcw6 _ _ j0lc).trans j0c0
          have j1c1 : w6.cell? ⟨w2.heap.size, 1, none⟩ = some (.int .i64 m4) := (hcw6 _ _ j0lc).trans j0c1
          have j1c2 : w6.cell? ⟨w2.heap.size, 2, none⟩ = some (.int .i64 l4) := (hcw6 _ _ j0lc).trans j0c2
          have j1c3 : w6.cell? ⟨w2.heap.size, 3, none⟩ = some (.int .i64 t4) := (hcw6 _ _ j0lc).trans j0c3
          have j1lx : w3.heap.size < w6.heap.size := hsw6 _ j0lx
          have j1x0 : w6.cell? ⟨w3.heap.size, 0, none⟩ = some (.int .i64 n1) := (hcw6 _ _ j0lx).trans j0x0
          have j1x1 : w6.cell? ⟨w3.heap.size, 1, none⟩ = some (.int .i64 m1) := (hcw6 _ _ j0lx).trans j0x1
          have j1x2 : w6.cell? ⟨w3.heap.size, 2, none⟩ = some (.int .i64 l1) := (hcw6 _ _ j0lx).trans j0x2
          have j1x3 : w6.cell? ⟨w3.heap.size, 3, none⟩ = some (.int .i64 t1) := (hcw6 _ _ j0lx).trans j0x3
          clear hcw6 hfw6 hsw6 j0a0 j0a1 j0a2 j0a3 j0b0 j0b1 j0b2 j0b3 j0c0 j0c1 j0c2 j0c3 j0x0 j0x1 j0x2 j0x3
          go_wp2_with fail
          refine wp_region_held_drew (S := (fun W => ((W.cell? ⟨w1.heap.size, 0, none⟩ = some (.int .i64 n0) ∧ W.cell? ⟨w1.heap.size, 1, none⟩ = some (.int .i64 m0) ∧ W.cell? ⟨w1.heap.size, 2, none⟩ = some (.int .i64 l0) ∧ W.cell? ⟨w1.heap.size, 3, none⟩ = some (.int .i64 t0)) ∧ w1.heap.size < W.heap.size))) (by kernel_rfl) ?_ (fun hHeld => ?_)
          · (try dsimp only); ((first | ((repeat (first | (with_reducible assumption) | (with_reducible refine hd_4 ?_ (by with_reducible assumption)) | (with_reducible refine hd_4 ?_ (bel_drew (Below.refl _ _))) | (with_reducible exact hd_4_re (by with_reducible assumption) (by first | omega | (simp; done) | (simp; omega))) | (with_reducible refine hd_4 ?_ (bel_one _ _)) | (with_reducible refine hd_4_set ?_ (by first | omega | (simp; done) | (simp; omega)) _))); done) | (refine ⟨⟨?_, ?_, ?_, ?_⟩, ?_⟩ <;> first | (go_keep; done) | (simp; done) | (simp; omega) | omega)))
          refine wpAnyH_take (i := 0) (v := ?_) (by simp only [List.getElem?_toArray, List.getElem?_cons_zero, List.getElem?_cons_succ]; rfl) (by kernel_rfl) (by kernel_rfl) (by kernel_rfl) (by intro _ _ _ h; exact h) (Or.inl ⟨by rfl, ?_⟩) (by assumption) ?_
          rotate_left
          · (intro w9 hSw; (try dsimp only at hSw); go_simp <;> with_reducible rfl)
          try simp only [Act.put, List.setIfInBounds_toArray, List.set_cons_zero, List.set_cons_succ]
          refine wpAnyH_take (i := 2) (v := ?_) (by simp only [List.getElem?_toArray, List.getElem?_cons_zero, List.getElem?_cons_succ]; rfl) (by kernel_rfl) (by kernel_rfl) (by kernel_rfl) (by intro _ _ _ h; exact h) (Or.inl ⟨by rfl, ?_⟩) (by assumption) ?_
          rotate_left
          · (intro w9 hSw; (try dsimp only at hSw); go_simp <;> with_reducible rfl)
          try simp only [Act.put, List.setIfInBounds_toArray, List.set_cons_zero, List.set_cons_succ]
          refine wpAnyH_ready (rs := [1]) (by kernel_rfl) (by simp) ?_
          refine AllReadyH.cons (by simp only [List.getElem?_toArray, List.getElem?_cons_zero, List.getElem?_cons_succ]; rfl) (fun K hK => ?_) AllReadyH.nil
          go_simp
          (go_at_call 25; refine (implaggok_any _ _ _ _ _).mono ?_; rintro e w20 ⟨rfl, hb⟩; obtain ⟨hc, hf, hs⟩ := bcell hb)
          (try go_wp2_with fail)
          refine hK.out _ _ ?_ (fun hHeld2 => ?_)
          · (try dsimp only); ((first | ((repeat (first | (with_reducible assumption) | (with_reducible refine hd_4 ?_ (by with_reducible assumption)) | (with_reducible refine hd_4 ?_ (bel_drew (Below.refl _ _))) | (with_reducible exact hd_4_re (by with_reducible assumption) (by first | omega | (simp; done) | (simp; omega))) | (with_reducible refine hd_4 ?_ (bel_one _ _)) | (with_reducible refine hd_4_set ?_ (by first | omega | (simp; done) | (simp; omega)) _))); done) | (refine ⟨⟨?_, ?_, ?_, ?_⟩, ?_⟩ <;> first | (go_keep; done) | (simp; done) | (simp; omega) | omega)))
          clear hK K hHeld
          have hHeld := hHeld2
          clear hHeld2
          try simp only [Act.put, List.setIfInBounds_toArray, List.set_cons_zero, List.set_cons_succ]
          refine wpAnyH_ready (rs := [3]) (by kernel_rfl) (by simp) ?_
          refine AllReadyH.cons (by simp only [List.getElem?_toArray, List.getElem?_cons_zero, List.getElem?_cons_succ]; rfl) (fun K hK => ?_) AllReadyH.nil
          go_simp
          (go_at_call 24; refine (specaggok_any _ _ _ _ _).mono ?_; rintro e w21 ⟨rfl, hb⟩; obtain ⟨hc, hf, hs⟩ := bcell hb)
          (try go_wp2_with fail)
          refine hK.out _ _ ?_ (fun hHeld2 => ?_)
          · (try dsimp only); ((first | ((repeat (first | (with_reducible assumption) | (with_reducible refine hd_4 ?_ (by with_reducible assumption)) | (with_reducible refine hd_4 ?_ (bel_drew (Below.refl _ _))) | (with_reducible exact hd_4_re (by with_reducible assumption) (by first | omega | (simp; done) | (simp; omega))) | (with_reducible refine hd_4 ?_ (bel_one _ _)) | (with_reducible refine hd_4_set ?_ (by first | omega | (simp; done) | (simp; omega)) _))); done) | (refine ⟨⟨?_, ?_, ?_, ?_⟩, ?_⟩ <;> first | (go_keep; done) | (simp; done) | (simp; omega) | omega)))
          clear hK K hHeld
          have hHeld := hHeld2
          clear hHeld2
          try simp only [Act.put, List.setIfInBounds_toArray, List.set_cons_zero, List.set_cons_succ]
          refine wpAnyH_take (i := 4) (v := ?_) (by simp only [List.getElem?_toArray, List.getElem?_cons_zero, List.getElem?_cons_succ]; rfl) (by kernel_rfl) (by kernel_rfl) (by kernel_rfl) (by intro _ _ _ h; exact h) (Or.inl ⟨by rfl, ?_⟩) (by assumption) ?_
          rotate_left
          · (intro w9 hSw; (try dsimp only at hSw); go_simp <;> with_reducible rfl)
          try simp only [Act.put, List.setIfInBounds_toArray, List.set_cons_zero, List.set_cons_succ]
          refine wpAnyH_take (i := 5) (v := ?_) (by simp only [List.getElem?_toArray, List.getElem?_cons_zero, List.getElem?_cons_succ]; rfl) (by kernel_rfl) (by kernel_rfl) (by kernel_rfl) (by intro _ _ _ h; exact h) (Or.inl ⟨by rfl, ?_⟩) (by assumption) ?_
          rotate_left
          · (intro w9 hSw; (try dsimp only at hSw); go_simp <;> with_reducible rfl)
          try simp only [Act.put, List.setIfInBounds_toArray, List.set_cons_zero, List.set_cons_succ]
          refine wpAnyH_ready (rs := [6]) (by kernel_rfl) (by simp) ?_
          refine AllReadyH.cons (by simp only [List.getElem?_toArray, List.getElem?_cons_zero, List.getElem?_cons_succ]; rfl) (fun K hK => ?_) AllReadyH.nil
          go_simp
          (go_at_call 14; refine (frok_any _).mono ?_; rintro e w22 ⟨rfl, hb⟩; obtain ⟨hc, hf, hs⟩ := bcell hb)
          (try go_wp2_with fail)
          refine hK.out _ _ ?_ (fun hHeld2 => ?_)
          · (try dsimp only); ((first | ((repeat (first | (with_reducible assumption) | (with_reducible refine hd_4 ?_ (by with_reducible assumption)) | (with_reducible refine hd_4 ?_ (bel_drew (Below.refl _ _))) | (with_reducible exact hd_4_re (by with_reducible assumption) (by first | omega | (simp; done) | (simp; omega))) | (with_reducible refine hd_4 ?_ (bel_one _ _)) | (with_reducible refine hd_4_set ?_ (by first | omega | (simp; done) | (simp; omega)) _))); done) | (refine ⟨⟨?_, ?_, ?_, ?_⟩, ?_⟩ <;> first | (go_keep; done) | (simp; done) | (simp; omega) | omega)))
          clear hK K hHeld
          have hHeld := hHeld2
          clear hHeld2
          try simp only [Act.put, List.setIfInBounds_toArray, List.set_cons_zero, List.set_cons_succ]
          refine wpAnyH_take (i := 7) (v := ?_) (by simp only [List.getElem?_toArray, List.getElem?_cons_zero, List.getElem?_cons_succ]; rfl) (by kernel_rfl) (by kernel_rfl) (by kernel_rfl) (by intro _ _ _ h; exact h) (Or.inl ⟨by rfl, ?_⟩) (by assumption) ?_
          rotate_left
          · (intro w9 hSw; (try dsimp only at hSw); go_simp <;> with_reducible rfl)
          try simp only [Act.put, List.setIfInBounds_toArray, List.set_cons_zero, List.set_cons_succ]
          refine wpAnyH_take (i := 8) (v := ?_) (by simp only [List.getElem?_toArray, List.getElem?_cons_zero, List.getElem?_cons_succ]; rfl) (by kernel_rfl) (by kernel_rfl) (by kernel_rfl) (by intro _ _ _ h; exact h) (Or.inl ⟨by rfl, ?_⟩) (by assumption) ?_
          rotate_left
          · (intro w9 hSw; (try dsimp only at hSw); go_simp <;> with_reducible rfl)
          try simp only [Act.put, List.setIfInBounds_toArray, List.set_cons_zero, List.set_cons_succ]
          refine wpAnyH_done (by kernel_rfl) ?_ _
          go_wp2
          go_ret
          refine ⟨?_, (by repeat (first | (with_reducible exact Below.refl _ _) | (with_reducible assumption) | (with_reducible refine bel_set ?_ (by first | (simp; done) | (simp; omega)) _) | (with_reducible refine bel_alloc ?_ _) | (with_reducible refine bel_drew ?_) | (with_reducible refine bel_drewN ?_ _) | (with_reducible refine bel_trans ?_ (by with_reducible assumption))))⟩
          first | rfl | exact ret_b (by simp <;> omega)
        · cases oC : okAgg n4 m4 l4 t4
          · obtain ⟨n1, m1, l1, t1, HX⟩ : ∃ n1 m1 l1 t1 : Int, Hid (bo n0 n2 n0 n2 (wrap64 (n0 + n2)) = n1 ∧ bo n0 n2 m0 m2 (wrap64 (m0 + m2)) = m1 ∧ bo n0 n2 l0 l2 (loI l0 l2) = l1 ∧ bo n0 n2 t0 t2 (hiI t0 t2) = t1) := ⟨_, _, _, _, hide ⟨rfl, rfl, rfl, rfl⟩⟩
            have ga0 : w2.cell? ⟨w1.heap.size, 0, none⟩ = some (.int .i64 n0) := (hb2.cell (p := ⟨w1.heap.size, 0, none⟩) (by simp <;> omega)).trans (by simp [go_sem])
            have ga1 : w2.cell? ⟨w1.heap.size, 1, none⟩ = some (.int .i64 m0) := (hb2.cell (p := ⟨w1.heap.size, 1, none⟩) (by simp <;> omega)).trans (by simp [go_sem])
            have ga2 : w2.cell? ⟨w1.heap.size, 2, none⟩ = some (.int .i64 l0) := (hb2.cell (p := ⟨w1.heap.size, 2, none⟩) (by simp <;> omega)).trans (by simp [go_sem])
            have ga3 : w2.cell? ⟨w1.heap.size, 3, none⟩ = some (.int .i64 t0) := (hb2.cell (p := ⟨w1.heap.size, 3, none⟩) (by simp <;> omega)).trans (by simp [go_sem])
            have gb0 : w2.cell? ⟨w1.heap.size + 1, 0, none⟩ = some (.int .i64 n2) := (hb2.cell (p := ⟨w1.heap.size + 1, 0, none⟩) (by simp <;> omega)).trans (by simp [go_sem])
            have gb1 : w2.cell? ⟨w1.heap.size + 1, 1, none⟩ = some (.int .i64 m2) := (hb2.cell (p := ⟨w1.heap.size + 1, 1, none⟩) (by simp <;> omega)).trans (by simp [go_sem])
            have gb2 : w2.cell? ⟨w1.heap.size + 1, 2, none⟩ = some (.int .i64 l2) := (hb2.cell (p := ⟨w1.heap.size + 1, 2, none⟩) (by simp <;> omega)).trans (by simp [go_sem])
            have gb3 : w2.cell? ⟨w1.heap.size + 1, 3, none⟩ = some (.int .i64 t2) := (hb2.cell (p := ⟨w1.heap.size + 1, 3, none⟩) (by simp <;> omega)).trans (by simp [go_sem])
            have y1 : w1.heap.size < w2.heap.size := by have h9 := hb2.size; simp at h9; omega
            have y2 : w1.heap.size + 1 < w2.heap.size := by have h9 := hb2.size; simp at h9; omega
            go_wp2_with fail
            refine (implboth_c _ HX).mono ?_
            rintro e w3 ⟨rfl, hb3⟩
            have y3 : w2.heap.size + 1 < w3.heap.size := by have h9 := hb3.size; simp at h9; omega
            have hbW : Below w2.heap.size w2 ((w2.alloc (.cells #[.int .i64 n4, .int .i64 m4, .int .i64 l4, .int .i64 t4] 33)).alloc (.cells #[.int .i64 n6, .int .i64 m6, .int .i64 l6, .int .i64 t6] 33)) := bel_alloc (bel_one _ _) _
            have pa0 : w3.cell? ⟨w1.heap.size, 0, none⟩ = some (.int .i64 n0) := (hb3.cell (p := ⟨w1.heap.size, 0, none⟩) (by simp <;> omega)).trans ((hbW.cell (p := ⟨w1.heap.size, 0, none⟩) (by simp <;> omega)).trans ga0)
            have pa1 : w3.cell? ⟨w1.heap.size, 1, none⟩ = some (.int .i64 m0) := (hb3.cell (p := ⟨w1.heap.size, 1, none⟩) (by simp <;> omega)).trans ((hbW.cell (p := ⟨w1.heap.size, 1, none⟩) (by simp <;> omega)).trans ga1)
            have pa2 : w3.cell? ⟨w1.heap.size, 2, none⟩ = some (.int .i64 l0) := (hb3.cell (p := ⟨w1.heap.size, 2, none⟩) (by simp <;> omega)).trans ((hbW.cell (p := ⟨w1.heap.size, 2, none⟩) (by simp <;> omega)).trans ga2)
            have pa3 : w3.cell? ⟨w1.heap.size, 3, none⟩ = some (.int .i64 t0) := (hb3.cell (p := ⟨w1.heap.size, 3, none⟩) (by simp <;> omega)).trans ((hbW.cell (p := ⟨w1.heap.size, 3, none⟩) (by simp <;> omega)).trans ga3)
            have pb0 : w3.cell? ⟨w1.heap.size + 1, 0, none⟩ = some (.int .i64 n2) := (hb3.cell (p := ⟨w1.heap.size + 1, 0, none⟩) (by simp <;> omega)).trans ((hbW.cell (p := ⟨w1.heap.size + 1, 0, none⟩) (by simp <;> omega)).trans gb0)
            have pb1 : w3.cell? ⟨w1.heap.size + 1, 1, none⟩ = some (.int .i64 m2) := (hb3.cell (p := ⟨w1.heap.size + 1, 1, none⟩) (by simp <;> omega)).trans ((hbW.cell (p := ⟨w1.heap.size + 1, 1, none⟩) (by simp <;> omega)).trans gb1)
            have pb2 : w3.cell? ⟨w1.heap.size + 1, 2, none⟩ = some (.int .i64 l2) := (hb3.cell (p := ⟨w1.heap.size + 1, 2, none⟩) (by simp <;> omega)).trans ((hbW.cell (p := ⟨w1.heap.size + 1, 2, none⟩) (by simp <;> omega)).trans gb2)
            have pb3 : w3.cell? ⟨w1.heap.size + 1, 3, none⟩ = some (.int .i64 t2) := (hb3.cell (p := ⟨w1.heap.size + 1, 3, none⟩) (by simp <;> omega)).trans ((hbW.cell (p := ⟨w1.heap.size + 1, 3, none⟩) (by simp <;> omega)).trans gb3)
            have pc0 : w3.cell? ⟨w2.heap.size, 0, none⟩ = some (.int .i64 n4) := (hb3.cell (p := ⟨w2.heap.size, 0, none⟩) (by simp <;> omega)).trans (by simp [go_sem])
            have pc1 : w3.cell? ⟨w2.heap.size, 1, none⟩ = some (.int .i64 m4) := (hb3.cell (p := ⟨w2.heap.size, 1, none⟩) (by simp <;> omega)).trans (by simp [go_sem])
            have pc2 : w3.cell? ⟨w2.heap.size, 2, none⟩ = some (.int .i64 l4) := (hb3.cell (p := ⟨w2.heap.size, 2, none⟩) (by simp <;> omega)).trans (by simp [go_sem])
            have pc3 : w3.cell? ⟨w2.heap.size, 3, none⟩ = some (.int .i64 t4) := (hb3.cell (p := ⟨w2.heap.size, 3, none⟩) (by simp <;> omega)).trans (by simp [go_sem])
            clear ga0 ga1 ga2 ga3 gb0 gb1 gb2 gb3
            have y4 : w1.heap.size < w3.heap.size := by omega
            have y5 : w1.heap.size + 1 < w3.heap.size := by omega
            have y6 : w2.heap.size < w3.heap.size := by omega
            go_wp2_with fail
            go_region_held3 (fun W => ((W.cell? ⟨w1.heap.size, 0, none⟩ = some (.int .i64 n0) ∧ W.cell? ⟨w1.heap.size, 1, none⟩ = some (.int .i64 m0) ∧ W.cell? ⟨w1.heap.size, 2, none⟩ = some (.int .i64 l0) ∧ W.cell? ⟨w1.heap.size, 3, none⟩ = some (.int .i64 t0) ∧ W.cell? ⟨w1.heap.size + 1, 0, none⟩ = some (.int .i64 n2) ∧ W.cell? ⟨w1.heap.size + 1, 1, none⟩ = some (.int .i64 m2) ∧ W.cell? ⟨w1.heap.size + 1, 2, none⟩ = some (.int .i64 l2) ∧ W.cell? ⟨w1.heap.size + 1, 3, none⟩ = some (.int .i64 t2) ∧ W.cell? ⟨w2.heap.size, 0, none⟩ = some (.int .i64 n4) ∧ W.cell? ⟨w2.heap.size, 1, none⟩ = some (.int .i64 m4) ∧ W.cell? ⟨w2.heap.size, 2, none⟩ = some (.int .i64 l4) ∧ W.cell? ⟨w2.heap.size, 3, none⟩ = some (.int .i64 t4) ∧ W.cell? ⟨w3.heap.size, 0, none⟩ = some (.int .i64 n1) ∧ W.cell? ⟨w3.heap.size, 1, none⟩ = some (.int .i64 m1) ∧ W.cell? ⟨w3.heap.size, 2, none⟩ = some (.int .i64 l1) ∧ W.cell? ⟨w3.heap.size, 3, none⟩ = some (.int .i64 t1)) ∧ w1.heap.size < W.heap.size ∧ w1.heap.size + 1 < W.heap.size ∧ w2.heap.size < W.heap.size ∧ w3.heap.size < W.heap.size)) ((first | ((repeat (first | (with_reducible assumption) | (with_reducible refine hd_4_4_4_4 ?_ (by with_reducible assumption)) | (with_reducible refine hd_4_4_4_4 ?_ (bel_drew (Below.refl _ _))) | (with_reducible exact hd_4_4_4_4_re (by with_reducible assumption) (by first | omega | (simp; done) | (simp; omega)) (by first | omega | (simp; done) | (simp; omega)) (by first | omega | (simp; done) | (simp; omega)) (by first | omega | (simp; done) | (simp; omega))) | (with_reducible refine hd_4_4_4_4 ?_ (bel_one _ _)) | (with_reducible refine hd_4_4_4_4_set ?_ (by first | omega | (simp; done) | (simp; omega)) (by first | omega | (simp; done) | (simp; omega)) (by first | omega | (simp; done) | (simp; omega)) (by first | omega | (simp; done) | (simp; omega)) _))); done) | (refine ⟨⟨?_, ?_, ?_, ?_, ?_, ?_, ?_, ?_, ?_, ?_, ?_, ?_, ?_, ?_, ?_, ?_⟩, ?_, ?_, ?_, ?_⟩ <;> first | (go_keep; done) | (simp; done) | (simp; omega) | omega)))
              (first
              | (go_at_call 28; refine (specboth_c _ HX).mono ?_; rintro e w4 ⟨rfl, hb⟩; obtain ⟨hc, hf, hs⟩ := bcell hb))
            have hX : Below (w3.alloc (.cells #[.int .i64 n1, .int .i64 m1, .int .i64 l1, .int .i64 t1] 33)).heap.size (w3.alloc (.cells #[.int .i64 n1, .int .i64 m1, .int .i64 l1, .int .i64 t1] 33)) w4 := (by repeat (first | (with_reducible exact Below.refl _ _) | (with_reducible assumption) | (with_reducible refine bel_set ?_ (by first | (simp; done) | (simp; omega)) _) | (with_reducible refine bel_alloc ?_ _) | (with_reducible refine bel_drew ?_) | (with_reducible refine bel_drewN ?_ _) | (with_reducible refine bel_trans ?_ (by with_reducible assumption))))
            clear hc hf hs
            have hbV : Below w3.heap.size w3 (w3.alloc (.cells #[.int .i64 n1, .int .i64 m1, .int .i64 l1, .int .i64 t1] 33)) := bel_one _ _
            have z3 : w3.heap.size < w4.heap.size := by have h9 := hX.size; simp at h9; omega
            have ia0 : w4.cell? ⟨w1.heap.size, 0, none⟩ = some (.int .i64 n0) := (hX.cell (p := ⟨w1.heap.size, 0, none⟩) (by simp <;> omega)).trans ((hbV.cell (p := ⟨w1.heap.size, 0, none⟩) (by simp <;> omega)).trans pa0)
            have ia1 : w4.cell? ⟨w1.heap.size, 1, none⟩ = some (.int .i64 m0) := (hX.cell (p := ⟨w1.heap.size, 1, none⟩) (by simp <;> omega)).trans ((hbV.cell (p := ⟨w1.heap.size, 1, none⟩) (by simp <;> omega)).trans pa1)
            have ia2 : w4.cell? ⟨w1.heap.size, 2, none⟩ = some (.int .i64 l0) := (hX.cell (p := ⟨w1.heap.size, 2, none⟩) (by simp <;> omega)).trans ((hbV.cell (p := ⟨w1.heap.size, 2, none⟩) (by simp <;> omega)).trans pa2)
            have ia3 : w4.cell? ⟨w1.heap.size, 3, none⟩ = some (.int .i64 t0) := (hX.cell (p := ⟨w1.heap.size, 3, none⟩) (by simp <;> omega)).trans ((hbV.cell (p := ⟨w1.heap.size, 3, none⟩) (by simp <;> omega)).trans pa3)
            have ib0 : w4.cell? ⟨w1.heap.size + 1, 0, none⟩ = some (.int .i64 n2) := (hX.cell (p := ⟨w1.heap.size + 1, 0, none⟩) (by simp <;> omega)).trans ((hbV.cell (p := ⟨w1.heap.size + 1, 0, none⟩) (by simp <;> omega)).trans pb0)
            have ib1 : w4.cell? ⟨w1.heap.size + 1, 1, none⟩ = some (.int .i64 m2) := (hX.cell (p := ⟨w1.heap.size + 1, 1, none⟩) (by simp <;> omega)).trans ((hbV.cell (p := ⟨w1.heap.size + 1, 1, none⟩) (by simp <;> omega)).trans pb1)
            have ib2 : w4.cell? ⟨w1.heap.size + 1, 2, none⟩ = some (.int .i64 l2) := (hX.cell (p := ⟨w1.heap.size + 1, 2, none⟩) (by simp <;> omega)).trans ((hbV.cell (p := ⟨w1.heap.size + 1, 2, none⟩) (by simp <;> omega)).trans pb2)
            have ib3 : w4.cell? ⟨w1.heap.size + 1, 3, none⟩ = some (.int .i64 t2) := (hX.cell (p := ⟨w1.heap.size + 1, 3, none⟩) (by simp <;> omega)).trans ((hbV.cell (p := ⟨w1.heap.size + 1, 3, none⟩) (by simp <;> omega)).trans pb3)
            have ic0 : w4.cell? ⟨w2.heap.size, 0, none⟩ = some (.int .i64 n4) := (hX.cell (p := ⟨w2.heap.size, 0, none⟩) (by simp <;> omega)).trans ((hbV.cell (p := ⟨w2.heap.size, 0, none⟩) (by simp <;> omega)).trans pc0)
            have ic1 : w4.cell? ⟨w2.heap.size, 1, none⟩ = some (.int .i64 m4) := (hX.cell (p := ⟨w2.heap.size, 1, none⟩) (by simp <;> omega)).trans ((hbV.cell (p := ⟨w2.heap.size, 1, none⟩) (by simp <;> omega)).trans pc1)
            have ic2 : w4.cell? ⟨w2.heap.size, 2, none⟩ = some (.int .i64 l4) := (hX.cell (p := ⟨w2.heap.size, 2, none⟩) (by simp <;> omega)).trans ((hbV.cell (p := ⟨w2.heap.size, 2, none⟩) (by simp <;> omega)).trans pc2)
            have ic3 : w4.cell? ⟨w2.heap.size, 3, none⟩ = some (.int .i64 t4) := (hX.cell (p := ⟨w2.heap.size, 3, none⟩) (by simp <;> omega)).trans ((hbV.cell (p := ⟨w2.heap.size, 3, none⟩) (by simp <;> omega)).trans pc3)
            have ix0 : w4.cell? ⟨w3.heap.size, 0, none⟩ = some (.int .i64 n1) := (hX.cell (p := ⟨w3.heap.size, 0, none⟩) (by simp)).trans (by simp [go_sem])
            have ix1 : w4.cell? ⟨w3.heap.size, 1, none⟩ = some (.int .i64 m1) := (hX.cell (p := ⟨w3.heap.size, 1, none⟩) (by simp)).trans (by simp [go_sem])
            have ix2 : w4.cell? ⟨w3.heap.size, 2, none⟩ = some (.int .i64 l1) := (hX.cell (p := ⟨w3.heap.size, 2, none⟩) (by simp)).trans (by simp [go_sem])
            have ix3 : w4.cell? ⟨w3.heap.size, 3, none⟩ = some (.int .i64 t1) := (hX.cell (p := ⟨w3.heap.size, 3, none⟩) (by simp)).trans (by simp [go_sem])
            clear pa0 pa1 pa2 pa3 pb0 pb1 pb2 pb3 pc0 pc1 pc2 pc3
            have v1 : w1.heap.size < w4.heap.size := by omega
            have v2 : w1.heap.size + 1 < w4.heap.size := by omega
            have v3 : w2.heap.size < w4.heap.size := by omega
            have hbF : Below w.heap.size w w4 := bel_trans (bel_trans (bel_trans (bel_trans (bel_alloc (bel_alloc hb1 _) _) hb2) (bel_trans hbW hb3)) hbV) hX
            clear hb1 hb2 hb3 hbW hbV hX
            go_wp2_with fail
            refine (specaggok_any _ _ _ _ _).mono ?_
            rintro e w5 ⟨rfl, hbw5⟩
            obtain ⟨hcw5, hfw5, hsw5⟩ := bcell hbw5
            have j0la : w1.heap.size < w5.heap.size := hsw5 _ v1
            have j0a0 : w5.cell? ⟨w1.heap.size, 0, none⟩ = some (.int .i64 n0) := (hcw5 _ _ v1).trans ia0
            have j0a1 : w5.cell? ⟨w1.heap.size, 1, none⟩ = some (.int .i64 m0) := (hcw5 _ _ v1).trans ia1
            have j0a2 : w5.cell? ⟨w1.heap.size, 2, none⟩ = some (.int .i64 l0) := (hcw5 _ _ v1).trans ia2
            have j0a3 : w5.cell? ⟨w1.heap.size, 3, none⟩ = some (.int .i64 t0) := (hcw5 _ _ v1).trans ia3
            have j0lb : w1.heap.size + 1 < w5.heap.size := hsw5 _ v2
            have j0b0 : w5.cell? ⟨w1.heap.size + 1, 0, none⟩ = some (.int .i64 n2) := (hcw5 _ _ v2).trans ib0
            have j0b1 : w5.cell? ⟨w1.heap.size + 1, 1, none⟩ = some (.int .i64 m2) := (hcw5 _ _ v2).trans ib1
            have j0b2 : w5.cell? ⟨w1.heap.size + 1, 2, none⟩ = some (.int .i64 l2) := (hcw5 _ _ v2).trans ib2
            have j0b3 : w5.cell? ⟨w1.heap.size + 1, 3, none⟩ = some (.int .i64 t2) := (hcw5 _ _ v2).trans ib3
            have j0lc : w2.heap.size < w5.heap.size := hsw5 _ v3
            have j0c0 : w5.cell? ⟨w2.heap.size, 0, none⟩ = some (.int .i64 n4) := (hcw5 _ _ v3).trans ic0
            have j0c1 : w5.cell? ⟨w2.heap.size, 1, none⟩ = some (.int .i64 m4) := (hcw5 _ _ v3).trans ic1
            have j0c2 : w5.cell? ⟨w2.heap.size, 2, none⟩ = some (.int .i64 l4) := (hcw5 _ _ v3).trans ic2
            have j0c3 : w5.cell? ⟨w2.heap.size, 3, none⟩ = some (.int .i64 t4) := (hcw5 _ _ v3).trans ic3
            have j0lx : w3.heap.size < w5.heap.size := hsw5 _ z3
            have j0x0 : w5.cell? ⟨w3.heap.size, 0, none⟩ = some (.int .i64 n1) := (hcw5 _ _ z3).trans ix0
            have j0x1 : w5.cell? ⟨w3.heap.size, 1, none⟩ = some (.int .i64 m1) := (hcw5 _ _ z3).trans ix1
            have j0x2 : w5.cell? ⟨w3.heap.size, 2, none⟩ = some (.int .i64 l1) := (hcw5 _ _ z3).trans ix2
            have j0x3 : w5.cell? ⟨w3.heap.size, 3, none⟩ = some (.int .i64 t1) := (hcw5 _ _ z3).trans ix3
            clear hcw5 hfw5 hsw5 ia0 ia1 ia2 ia3 ib0 ib1 ib2 ib3 ic0 ic1 ic2 ic3 ix0 ix1 ix2 ix3
            go_wp2_with fail
            refine (specaggok_any _ _ _ _ _).mono ?_
            rintro e w6 ⟨rfl, hbw6⟩
            obtain ⟨hcw6, hfw6, hsw6⟩ := bcell hbw6
            have j1la : w1.heap.size < w6.heap.size := hsw6 _ j0la
            have j1a0 : w6.cell? ⟨w1.heap.size, 0, none⟩ = some (.int .i64 n0) := (hcw6 _ _ j0la).trans j0a0
            have j1a1 : w6.cell? ⟨w1.heap.size, 1, none⟩ = some (.int .i64 m0) := (hcw6 _ _ j0la).trans j0a1
            have j1a2 : w6.cell? ⟨w1.heap.size, 2, none⟩ = some (.int .i64 l0) := (hcw6 _ _ j0la).trans j0a2
            have j1a3 : w6.cell? ⟨w1.heap.size, 3, none⟩ = some (.int .i64 t0) := (hcw6 _ _ j0la).trans j0a3
            have j1lb : w1.heap.size + 1 < w6.heap.size := hsw6 _ j0lb
            have j1b0 : w6.cell? ⟨w1.heap.size + 1, 0, none⟩ = some (.int .i64 n2) := (hcw6 _ _ j0lb).trans j0b0
            have j1b1 : w6.cell? ⟨w1.heap.size + 1, 1, none⟩ = some (.int .i64 m2) := (hcw6 _ _ j0lb).trans j0b1
            have j1b2 : w6.cell? ⟨w1.heap.size + 1, 2, none⟩ = some (.int .i64 l2) := (hcw6 _ _ j0lb).trans j0b2
            have j1b3 : w6.cell? ⟨w1.heap.size + 1, 3, none⟩ = some (.int .i64 t2) := (hcw6 _ _ j0lb).trans j0b3
            have j1lc : w2.heap.size < w6.heap.size := hsw6 _ j0lc
            have j1c0 : w6.cell? ⟨w2.heap.size, 0, none⟩ = some (.int .i64 n4) := (hcw6 _ _ j0lc).trans j0c0
            have j1c1 : w6.cell? ⟨w2.heap.size, 1, none⟩ = some (.int .i64 m4) := (hcw6 _ _ j0lc).trans j0c1
            have j1c2 : w6.cell? ⟨w2.heap.size, 2, none⟩ = some (.int .i64 l4) := (hcw6 _ _ j0lc).trans j0c2
            have j1c3 : w6.cell? ⟨w2.heap.size, 3, none⟩ = some (.int .i64 t4) := (hcw6 _ _ j0lc).trans j0c3
            have j1lx : w3.heap.size < w6.heap.size := hsw6 _ j0lx
            have j1x0 : w6.cell? ⟨w3.heap.size, 0, none⟩ = some (.int .i64 n1) := (hcw6 _ _ j0lx).trans j0x0
            have j1x1 : w6.cell? ⟨w3.heap.size, 1, none⟩ = some (.int .i64 m1) := (hcw6 _ _ j0lx).trans j0x1
            have j1x2 : w6.cell? ⟨w3.heap.size, 2, none⟩ = some (.int .i64 l1) := (hcw6 _ _ j0lx).trans j0x2
            have j1x3 : w6.cell? ⟨w3.heap.size, 3, none⟩ = some (.int .i64 t1) := (hcw6 _ _ j0lx).trans j0x3
            clear hcw6 hfw6 hsw6 j0a0 j0a1 j0a2 j0a3 j0b0 j0b1 j0b2 j0b3 j0c0 j0c1 j0c2 j0c3 j0x0 j0x1 j0x2 j0x3
            go_wp2_with fail
            refine (specaggok_any _ _ _ _ _).mono ?_
            rintro e w7 ⟨rfl, hbw7⟩
            obtain ⟨hcw7, hfw7, hsw7⟩ := bcell hbw7
            have j2la : w1.heap.size < w7.heap.size := hsw7 _ j1la
            have j2a0 : w7.cell? ⟨w1.heap.size, 0, none⟩ = some (.int .i64 n0) := (hcw7 _ _ j1la).trans j1a0
            have j2a1 : w7.cell? ⟨w1.heap.size, 1, none⟩ = some (.int .i64 m0) := (hcw7 _ _ j1la).trans j1a1
            have j2a2 : w7.cell? ⟨w1.heap.size, 2, none⟩ = some (.int .i64 l0) := (hcw7 _ _ j1la).trans j1a2
            have j2a3 : w7.cell? ⟨w1.heap.size, 3, none⟩ = some (.int .i64 t0) := (hcw7 _ _ j1la).trans j1a3
            have j2lb : w1.heap.size + 1 < w7.heap.size := hsw7 _ j1lb
            have j2b0 : w7.cell? ⟨w1.heap.size + 1, 0, none⟩ = some (.int .i64 n2) := (hcw7 _ _ j1lb).trans j1b0
            have j2b1 : w7.cell? ⟨w1.heap.size + 1, 1, none⟩ = some (.int .i64 m2) := (hcw7 _ _ j1lb).trans j1b1
            have j2b2 : w7.cell? ⟨w1.heap.size + 1, 2, none⟩ = some (.int .i64 l2) := (hcw7 _ _ j1lb).trans j1b2
            have j2b3 : w7.cell? ⟨w1.heap.size + 1, 3, none⟩ = some (.int .i64 t2) := (hcw7 _ _ j1lb).trans j1b3
            have j2lc : w2.heap.size < w7.heap.size := hsw7 _ j1lc
            have j2c0 : w7.cell? ⟨w2.heap.size, 0, none⟩ = some (.int .i64 n4) := (hcw7 _ _ j1lc).trans j1c0
            have j2c1 : w7.cell? ⟨w2.heap.size, 1, none⟩ = some (.int .i64 m4) := (hcw7 _ _ j1lc).trans j1c1
            have j2c2 : w7.cell? ⟨w2.heap.size, 2, none⟩ = some (.int .i64 l4) := (hcw7 _ _ j1lc).trans j1c2
            have j2c3 : w7.cell? ⟨w2.heap.size, 3, none⟩ = some (.int .i64 t4) := (hcw7 _ _ j1lc).trans j1c3
            have j2lx : w3.heap.size < w7.heap.size := hsw7 _ j1lx
            have j2x0 : w7.cell? ⟨w3.heap.size, 0, none⟩ = some (.int .i64 n1) := (hcw7 _ _ j1lx).trans j1x0
            have j2x1 : w7.cell? ⟨w3.heap.size, 1, none⟩ = some (.int .i64 m1) := (hcw7 _ _ j1lx).trans j1x1
            have j2x2 : w7.cell? ⟨w3.heap.size, 2, none⟩ = some (.int .i64 l1) := (hcw7 _ _ j1lx).trans j1x2
            have j2x3 : w7.cell? ⟨w3.heap.size, 3, none⟩ = some (.int .i64 t1) := (hcw7 _ _ j1lx).trans j1x3
            clear hcw7 hfw7 hsw7 j1a0 j1a1 j1a2 j1a3 j1b0 j1b1 j1b2 j1b3 j1c0 j1c1 j1c2 j1c3 j1x0 j1x1 j1x2 j1x3
            go_wp2_with fail
            refine wp_region_held_drew (S := (fun W => ((W.cell? ⟨w1.heap.size, 0, none⟩ = some (.int .i64 n0) ∧ W.cell? ⟨w1.heap.size, 1, none⟩ = some (.int .i64 m0) ∧ W.cell? ⟨w1.heap.size, 2, none⟩ = some (.int .i64 l0) ∧ W.cell? ⟨w1.heap.size, 3, none⟩ = some (.int .i64 t0)) ∧ w1.heap.size < W.heap.size))) (by kernel_rfl) ?_ (fun hHeld => ?_)
            · (try dsimp only); ((first | ((repeat (first | (with_reducible assumption) | (with_reducible refine hd_4 ?_ (by with_reducible assumption)) | (with_reducible refine hd_4 ?_ (bel_drew (Below.refl _ _))) | (with_reducible exact hd_4_re (by with_reducible assumption) (by first | omega | (simp; done) | (simp; omega))) | (with_reducible refine hd_4 ?_ (bel_one _ _)) | (with_reducible refine hd_4_set ?_ (by first | omega | (simp; done) | (simp; omega)) _))); done) | (refine ⟨⟨?_, ?_, ?_, ?_⟩, ?_⟩ <;> first | (go_keep; done) | (simp; done) | (simp; omega) | omega)))
            refine wpAnyH_take (i := 0) (v := ?_) (by simp only [List.getElem?_toArray, List.getElem?_cons_zero, List.getElem?_cons_succ]; rfl) (by kernel_rfl) (by kernel_rfl) (by kernel_rfl) (by intro _ _ _ h; exact h) (Or.inl ⟨by rfl, ?_⟩) (by assumption) ?_
            rotate_left
            · (intro w9 hSw; (try dsimp only at hSw); go_simp <;> with_reducible rfl)
            try simp only [Act.put, List.setIfInBounds_toArray, List.set_cons_zero, List.set_cons_succ]
            refine wpAnyH_take (i := 2) (v := ?_) (by simp only [List.getElem?_toArray, List.getElem?_cons_zero, List.getElem?_cons_succ]; rfl) (by kernel_rfl) (by kernel_rfl) (by kernel_rfl) (by intro _ _ _ h; exact h) (Or.inl ⟨by rfl, ?_⟩) (by assumption) ?_
            rotate_left
            · (intro w9 hSw; (try dsimp only at hSw); go_simp <;> with_reducible rfl)
            try simp only [Act.put, List.setIfInBounds_toArray, List.set_cons_zero, List.set_cons_succ]
            refine wpAnyH_ready (rs := [1]) (by kernel_rfl) (by simp) ?_
            refine AllReadyH.cons (by simp only [List.getElem?_toArray, List.getElem?_cons_zero, List.getElem?_cons_succ]; rfl) (fun K hK => ?_) AllReadyH.nil
            go_simp
            (go_at_call 25; refine (implaggok_any _ _ _ _ _).mono ?_; rintro e w20 ⟨rfl, hb⟩; obtain ⟨hc, hf, hs⟩ := bcell hb)
            (try go_wp2_with fail)
            refine hK.out _ _ ?_ (fun hHeld2 => ?_)
            · (try dsimp only); ((first | ((repeat (first | (with_reducible assumption) | (with_reducible refine hd_4 ?_ (by with_reducible assumption)) | (with_reducible refine hd_4 ?_ (bel_drew (Below.refl _ _))) | (with_reducible exact hd_4_re (by with_reducible assumption) (by first | omega | (simp; done) | (simp; omega))) | (with_reducible refine hd_4 ?_ (bel_one _ _)) | (with_reducible refine hd_4_set ?_ (by first | omega | (simp; done) | (simp; omega)) _))); done) | (refine ⟨⟨?_, ?_, ?_, ?_⟩, ?_⟩ <;> first | (go_keep; done) | (simp; done) | (simp; omega) | omega)))
            clear hK K hHeld
            have hHeld := hHeld2
            clear hHeld2
            try simp only [Act.put, List.setIfInBounds_toArray, List.set_cons_zero, List.set_cons_succ]
            refine wpAnyH_ready (rs := [3]) (by kernel_rfl) (by simp) ?_
            refine AllReadyH.cons (by simp only [List.getElem?_toArray, List.getElem?_cons_zero, List.getElem?_cons_succ]; rfl) (fun K hK => ?_) AllReadyH.nil
            go_simp
            (go_at_call 24; refine (specaggok_any _ _ _ _ _).mono ?_; rintro e w21 ⟨rfl, hb⟩; obtain ⟨hc, hf, hs⟩ := bcell hb)
            (try go_wp2_with fail)
            refine hK.out _ _ ?_ (fun hHeld2 => ?_)
            · (try dsimp only); ((first | ((repeat (first | (with_reducible assumption) | (with_reducible refine hd_4 ?_ (by with_reducible assumption)) | (with_reducible refine hd_4 ?_ (bel_drew (Below.refl _ _))) | (with_reducible exact hd_4_re (by with_reducible assumption) (by first | omega | (simp; done) | (simp; omega))) | (with_reducible refine hd_4 ?_ (bel_one _ _)) | (with_reducible refine hd_4_set ?_ (by first | omega | (simp; done) | (simp; omega)) _))); done) | (refine ⟨⟨?_, ?_, ?_, ?_⟩, ?_⟩ <;> first | (go_keep; done) | (simp; done) | (simp; omega) | omega)))
            clear hK K hHeld
            have hHeld := hHeld2
            clear hHeld2
            try simp only [Act.put, List.setIfInBounds_toArray, List.set_cons_zero, List.set_cons_succ]
            refine wpAnyH_take (i := 4) (v := ?_) (by simp only [List.getElem?_toArray, List.getElem?_cons_zero, List.getElem?_cons_succ]; rfl) (by kernel_rfl) (by kernel_rfl) (by kernel_rfl) (by intro _ _ _ h; exact h) (Or.inl ⟨by rfl, ?_⟩) (by assumption) ?_
            rotate_left
            · (intro w9 hSw; (try dsimp only at hSw); go_simp <;> with_reducible rfl)
            try simp only [Act.put, List.setIfInBounds_toArray, List.set_cons_zero, List.set_cons_succ]
            refine wpAnyH_take (i := 5) (v := ?_) (by simp only [List.getElem?_toArray, List.getElem?_cons_zero, List.getElem?_cons_succ]; rfl) (by kernel_rfl) (by kernel_rfl) (by kernel_rfl) (by intro _ _ _ h; exact h) (Or.inl ⟨by rfl, ?_⟩) (by assumption) ?_
            rotate_left
            · (intro w9 hSw; (try dsimp only at hSw); go_simp <;> with_reducible rfl)
            try simp only [Act.put, List.setIfInBounds_toArray, List.set_cons_zero, List.set_cons_succ]
            refine wpAnyH_ready (rs := [6]) (by kernel_rfl) (by simp) ?_
            refine AllReadyH.cons (by simp only [List.getElem?_toArray, List.getElem?_cons_zero, List.getElem?_cons_succ]; rfl) (fun K hK => ?_) AllReadyH.nil
            go_simp
            (go_at_call 14; refine (frok_any _).mono ?_; rintro e w22 ⟨rfl, hb⟩; obtain ⟨hc, hf, hs⟩ := bcell hb)
            (try go_wp2_with fail)
            refine hK.out _ _ ?_ (fun hHeld2 => ?_)
            · (try dsimp only); ((first | ((repeat (first | (with_reducible assumption) | (with_reducible refine hd_4 ?_ (by with_reducible assumption)) | (with_reducible refine hd_4 ?_ (bel_drew (Below.refl _ _))) | (with_reducible exact hd_4_re (by with_reducible assumption) (by first | omega | (simp; done) | (simp; omega))) | (with_reducible refine hd_4 ?_ (bel_one _ _)) | (with_reducible refine hd_4_set ?_ (by first | omega | (simp; done) | (simp; omega)) _))); done) | (refine ⟨⟨?_, ?_, ?_, ?_⟩, ?_⟩ <;> first | (go_keep; done) | (simp; done) | (simp; omega) | omega)))
            clear hK K hHeld
            have hHeld := hHeld2
            clear hHeld2
            try simp only [Act.put, List.setIfInBounds_toArray, List.set_cons_zero, List.set_cons_succ]
            refine wpAnyH_take (i := 7) (v := ?_) (by simp only [List.getElem?_toArray, List.getElem?_cons_zero, List.getElem?_cons_succ]; rfl) (by kernel_rfl) (by kernel_rfl) (by kernel_rfl) (by intro _ _ _ h; exact h) (Or.inl ⟨by rfl, ?_⟩) (by assumption) ?_
            rotate_left
            · (intro w9 hSw; (try dsimp only at hSw); go_simp <;> with_reducible rfl)
            try simp only [Act.put, List.setIfInBounds_toArray, List.set_cons_zero, List.set_cons_succ]
            refine wpAnyH_take (i := 8) (v := ?_) (by simp only [List.getElem?_toArray, List.getElem?_cons_zero, List.getElem?_cons_succ]; rfl) (by kernel_rfl) (by kernel_rfl) (by kernel_rfl) (by intro _ _ _ h; exact h) (Or.inl ⟨by rfl, ?_⟩) (by assumption) ?_
            rotate_left
            · (intro w9 hSw; (try dsimp only at hSw); go_simp <;> with_reducible rfl)
            try simp only [Act.put, List.setIfInBounds_toArray, List.set_cons_zero, List.set_cons_succ]
            refine wpAnyH_done (by kernel_rfl) ?_ _
            go_wp2
            go_ret
            refine ⟨?_, (by repeat (first | (with_reducible exact Below.refl _ _) | (with_reducible assumption) | (with_reducible refine bel_set ?_ (by first | (simp; done) | (simp; omega)) _) | (with_reducible refine bel_alloc ?_ _) | (with_reducible refine bel_drew ?_) | (with_reducible refine bel_drewN ?_ _) | (with_reducible refine bel_trans ?_ (by with_reducible assumption))))⟩
            first | rfl | exact ret_b (by simp <;> omega)
          · obtain ⟨n1, m1, l1, t1, n5, m5, l5, t5, n7, m7, l7, t7, x1, x2, y1, z1, y2, u1, u2, oX⟩ := laws_both (Kn.of_ok oA ba2) (Kn.of_ok oB bb2) (Kn.of_ok oC bc2)
            have HX := hide x1
            have HBA := hide x2
            have HXC := hide y1
            have HBC := hide z1
            have HAZ := hide y2
            have HA0 := hide u1
            have H0A := hide u2
            clear x1 x2 y1 z1 y2 u1 u2 ba1 ba2 bb1 bb2 bc1 bc2
            have ga0 : w2.cell? ⟨w1.heap.size, 0, none⟩ = some (.int .i64 n0) := (hb2.cell (p := ⟨w1.heap.size, 0, none⟩) (by simp <;> omega)).trans (by simp [go_sem])
            have ga1 : w2.cell? ⟨w1.heap.size, 1, none⟩ = some (.int .i64 m0) := (hb2.cell (p := ⟨w1.heap.size, 1, none⟩) (by simp <;> omega)).trans (by simp [go_sem])
            have ga2 : w2.cell? ⟨w1.heap.size, 2, none⟩ = some (.int .i64 l0) := (hb2.cell (p := ⟨w1.heap.size, 2, none⟩) (by simp <;> omega)).trans (by simp [go_sem])
            have ga3 : w2.cell? ⟨w1.heap.size, 3, none⟩ = some (.int .i64 t0) := (hb2.cell (p := ⟨w1.heap.size, 3, none⟩) (by simp <;> omega)).trans (by simp [go_sem])
            have gb0 : w2.cell? ⟨w1.heap.size + 1, 0, none⟩ = some (.int .i64 n2) := (hb2.cell (p := ⟨w1.heap.size + 1, 0, none⟩) (by simp <;> omega)).trans (by simp [go_sem])
            have gb1 : w2.cell? ⟨w1.heap.size + 1, 1, none⟩ = some (.int .i64 m2) := (hb2.cell (p := ⟨w1.heap.size + 1, 1, none⟩) (by simp <;> omega)).trans (by simp [go_sem])
            have gb2 : w2.cell? ⟨w1.heap.size + 1, 2, none⟩ = some (.int .i64 l2) := (hb2.cell (p := ⟨w1.heap.size + 1, 2, none⟩) (by simp <;> omega)).trans (by simp [go_sem])
            have gb3 : w2.cell? ⟨w1.heap.size + 1, 3, none⟩ = some (.int .i64 t2) := (hb2.cell (p := ⟨w1.heap.size + 1, 3, none⟩) (by simp <;> omega)).trans (by simp [go_sem])
            have y1 : w1.heap.size < w2.heap.size := by have h9 := hb2.size; simp at h9; omega
            have y2 : w1.heap.size + 1 < w2.heap.size := by have h9 := hb2.size; simp at h9; omega
            go_wp2_with fail
            refine (implboth_c _ HX).mono ?_
            rintro e w3 ⟨rfl, hb3⟩
            have y3 : w2.heap.size + 1 < w3.heap.size := by have h9 := hb3.size; simp at h9; omega
            have hbW : Below w2.heap.size w2 ((w2.alloc (.cells #[.int .i64 n4, .int .i64 m4, .int .i64 l4, .int .i64 t4] 33)).alloc (.cells #[.int .i64 n6, .int .i64 m6, .int .i64 l6, .int .i64 t6] 33)) := bel_alloc (bel_one _ _) _
            have pa0 : w3.cell? ⟨w1.heap.size, 0, none⟩ = some (.int .i64 n0) := (hb3.cell (p := ⟨w1.heap.size, 0, none⟩) (by simp <;> omega)).trans ((hbW.cell (p := ⟨w1.heap.size, 0, none⟩) (by simp <;> omega)).trans ga0)
            have pa1 : w3.cell? ⟨w1.heap.size, 1, none⟩ = some (.int .i64 m0) := (hb3.cell (p := ⟨w1.heap.size, 1, none⟩) (by simp <;> omega)).trans ((hbW.cell (p := ⟨w1.heap.size, 1, none⟩) (by simp <;> omega)).trans ga1)
            have pa2 : w3.cell? ⟨w1.heap.size, 2, none⟩ = some (.int .i64 l0) := (hb3.cell (p := ⟨w1.heap.size, 2, none⟩) (by simp <;> omega)).trans ((hbW.cell (p := ⟨w1.heap.size, 2, none⟩) (by simp <;> omega)).trans ga2)
            have pa3 : w3.cell? ⟨w1.heap.size, 3, none⟩ = some (.int .i64 t0) := (hb3.cell (p := ⟨w1.heap.size, 3, none⟩) (by simp <;> omega)).trans ((hbW.cell (p := ⟨w1.heap.size, 3, none⟩) (by simp <;> omega)).trans ga3)
            have pb0 : w3.cell? ⟨w1.heap.size + 1, 0, none⟩ = some (.int .i64 n2) := (hb3.cell (p := ⟨w1.heap.size + 1, 0, none⟩) (by simp <;> omega)).trans ((hbW.cell (p := ⟨w1.heap.size + 1, 0, none⟩) (by simp <;> omega)).trans gb0)
            have pb1 : w3.cell? ⟨w1.heap.size + 1, 1, none⟩ = some (.int .i64 m2) := (hb3.cell (p := ⟨w1.heap.size + 1, 1, none⟩) (by simp <;> omega)).trans ((hbW.cell (p := ⟨w1.heap.size + 1, 1, none⟩) (by simp <;> omega)).trans gb1)
            have pb2 : w3.cell? ⟨w1.heap.size + 1, 2, none⟩ = some (.int .i64 l2) := (hb3.cell (p := ⟨w1.heap.size + 1, 2, none⟩) (by simp <;> omega)).trans ((hbW.cell (p := ⟨w1.heap.size + 1, 2, none⟩) (by simp <;> omega)).trans gb2)
            have pb3 : w3.cell? ⟨w1.heap.size + 1, 3, none⟩ = some (.int .i64 t2) := (hb3.cell (p := ⟨w1.heap.size + 1, 3, none⟩) (by simp <;> omega)).trans ((hbW.cell (p := ⟨w1.heap.size + 1, 3, none⟩) (by simp <;> omega)).trans gb3)
            have pc0 : w3.cell? ⟨w2.heap.size, 0, none⟩ = some (.int .i64 n4) := (hb3.cell (p := ⟨w2.heap.size, 0, none⟩) (by simp <;> omega)).trans (by simp [go_sem])
            have pc1 : w3.cell? ⟨w2.heap.size, 1, none⟩ = some (.int .i64 m4) := (hb3.cell (p := ⟨w2.heap.size, 1, none⟩) (by simp <;> omega)).trans (by simp [go_sem])
            have pc2 : w3.cell? ⟨w2.heap.size, 2, none⟩ = some (.int .i64 l4) := (hb3.cell (p := ⟨w2.heap.size, 2, none⟩) (by simp <;> omega)).trans (by simp [go_sem])
            have pc3 : w3.cell? ⟨w2.heap.size, 3, none⟩ = some (.int .i64 t4) := (hb3.cell (p := ⟨w2.heap.size, 3, none⟩) (by simp <;> omega)).trans (by simp [go_sem])
            clear ga0 ga1 ga2 ga3 gb0 gb1 gb2 gb3
            have y4 : w1.heap.size < w3.heap.size := by omega
            have y5 : w1.heap.size + 1 < w3.heap.size := by omega
            have y6 : w2.heap.size < w3.heap.size := by omega
            go_wp2_with fail
            go_region_held3 (fun W => ((W.cell? ⟨w1.heap.size, 0, none⟩ = some (.int .i64 n0) ∧ W.cell? ⟨w1.heap.size, 1, none⟩ = some (.int .i64 m0) ∧ W.cell? ⟨w1.heap.size, 2, none⟩ = some (.int .i64 l0) ∧ W.cell? ⟨w1.heap.size, 3, none⟩ = some (.int .i64 t0) ∧ W.cell? ⟨w1.heap.size + 1, 0, none⟩ = some (.int .i64 n2) ∧ W.cell? ⟨w1.heap.size + 1, 1, none⟩ = some (.int .i64 m2) ∧ W.cell? ⟨w1.heap.size + 1, 2, none⟩ = some (.int .i64 l2) ∧ W.cell? ⟨w1.heap.size + 1, 3, none⟩ = some (.int .i64 t2) ∧ W.cell? ⟨w2.heap.size, 0, none⟩ = some (.int .i64 n4) ∧ W.cell? ⟨w2.heap.size, 1, none⟩ = some (.int .i64 m4) ∧ W.cell? ⟨w2.heap.size, 2, none⟩ = some (.int .i64 l4) ∧ W.cell? ⟨w2.heap.size, 3, none⟩ = some (.int .i64 t4) ∧ W.cell? ⟨w3.heap.size, 0, none⟩ = some (.int .i64 n1) ∧ W.cell? ⟨w3.heap.size, 1, none⟩ = some (.int .i64 m1) ∧ W.cell? ⟨w3.heap.size, 2, none⟩ = some (.int .i64 l1) ∧ W.cell? ⟨w3.heap.size, 3, none⟩ = some (.int .i64 t1)) ∧ w1.heap.size < W.heap.size ∧ w1.heap.size + 1 < W.heap.size ∧ w2.heap.size < W.heap.size ∧ w3.heap.size < W.heap.size)) ((first | ((repeat (first | (with_reducible assumption) | (with_reducible refine hd_4_4_4_4 ?_ (by with_reducible assumption)) | (with_reducible refine hd_4_4_4_4 ?_ (bel_drew (Below.refl _ _))) | (with_reducible exact hd_4_4_4_4_re (by with_reducible assumption) (by first | omega | (simp; done) | (simp; omega)) (by first | omega | (simp; done) | (simp; omega)) (by first | omega | (simp; done) | (simp; omega)) (by first | omega | (simp; done) | (simp; omega))) | (with_reducible refine hd_4_4_4_4 ?_ (bel_one _ _)) | (with_reducible refine hd_4_4_4_4_set ?_ (by first | omega | (simp; done) | (simp; omega)) (by first | omega | (simp; done) | (simp; omega)) (by first | omega | (simp; done) | (simp; omega)) (by first | omega | (simp; done) | (simp; omega)) _))); done) | (refine ⟨⟨?_, ?_, ?_, ?_, ?_, ?_, ?_, ?_, ?_, ?_, ?_, ?_, ?_, ?_, ?_, ?_⟩, ?_, ?_, ?_, ?_⟩ <;> first | (go_keep; done) | (simp; done) | (simp; omega) | omega)))
              (first
              | (go_at_call 28; refine (specboth_c _ HX).mono ?_; rintro e w4 ⟨rfl, hb⟩; obtain ⟨hc, hf, hs⟩ := bcell hb))
            have hX : Below (w3.alloc (.cells #[.int .i64 n1, .int .i64 m1, .int .i64 l1, .int .i64 t1] 33)).heap.size (w3.alloc (.cells #[.int .i64 n1, .int .i64 m1, .int .i64 l1, .int .i64 t1] 33)) w4 := (by repeat (first | (with_reducible exact Below.refl _ _) | (with_reducible assumption) | (with_reducible refine bel_set ?_ (by first | (simp; done) | (simp; omega)) _) | (with_reducible refine bel_alloc ?_ _) | (with_reducible refine bel_drew ?_) | (with_reducible refine bel_drewN ?_ _) | (with_reducible refine bel_trans ?_ (by with_reducible assumption))))
            clear hc hf hs
            have hbV : Below w3.heap.size w3 (w3.alloc (.cells #[.int .i64 n1, .int .i64 m1, .int .i64 l1, .int .i64 t1] 33)) := bel_one _ _
            have z3 : w3.heap.size < w4.heap.size := by have h9 := hX.size; simp at h9; omega
            have ia0 : w4.cell? ⟨w1.heap.size, 0, none⟩ = some (.int .i64 n0) := (hX.cell (p := ⟨w1.heap.size, 0, none⟩) (by simp <;> omega)).trans ((hbV.cell (p := ⟨w1.heap.size, 0, none⟩) (by simp <;> omega)).trans pa0)
            have ia1 : w4.cell? ⟨w1.heap.size, 1, none⟩ = some (.int .i64 m0) := (hX.cell (p := ⟨w1.heap.size, 1, none⟩) (by simp <;> omega)).trans ((hbV.cell (p := ⟨w1.heap.size, 1, none⟩) (by simp <;> omega)).trans pa1)
            have ia2 : w4.cell? ⟨w1.heap.size, 2, none⟩ = some (.int .i64 l0) := (hX.cell (p := ⟨w1.heap.size, 2, none⟩) (by simp <;> omega)).trans ((hbV.cell (p := ⟨w1.heap.size, 2, none⟩) (by simp <;> omega)).trans pa2)
            have ia3 : w4.cell? ⟨w1.heap.size, 3, none⟩ = some (.int .i64 t0) := (hX.cell (p := ⟨w1.heap.size, 3, none⟩) (by simp <;> omega)).trans ((hbV.cell (p := ⟨w1.heap.size, 3, none⟩) (by simp <;> omega)).trans pa3)
            have ib0 : w4.cell? ⟨w1.heap.size + 1, 0, none⟩ = some (.int .i64 n2) := (hX.cell (p := ⟨w1.heap.size + 1, 0, none⟩) (by simp <;> omega)).trans ((hbV.cell (p := ⟨w1.heap.size + 1, 0, none⟩) (by simp <;> omega)).trans pb0)
            have ib1 : w4.cell? ⟨w1.heap.size + 1, 1, none⟩ = some (.int .i64 m2) := (hX.cell (p := ⟨w1.heap.size + 1, 1, none⟩) (by simp <;> omega)).trans ((hbV.cell (p := ⟨w1.heap.size + 1, 1, none⟩) (by simp <;> omega)).trans pb1)
            have ib2 : w4.cell? ⟨w1.heap.size + 1, 2, none⟩ = some (.int .i64 l2) := (hX.cell (p := ⟨w1.heap.size + 1, 2, none⟩) (by simp <;> omega)).trans ((hbV.cell (p := ⟨w1.heap.size + 1, 2, none⟩) (by simp <;> omega)).trans pb2)
            have ib3 : w4.cell? ⟨w1.heap.size + 1, 3, none⟩ = some (.int .i64 t2) := (hX.cell (p := ⟨w1.heap.size + 1, 3, none⟩) (by simp <;> omega)).trans ((hbV.cell (p := ⟨w1.heap.size + 1, 3, none⟩) (by simp <;> omega)).trans pb3)
            have ic0 : w4.cell? ⟨w2.heap.size, 0, none⟩ = some (.int .i64 n4) := (hX.cell (p := ⟨w2.heap.size, 0, none⟩) (by simp <;> omega)).trans ((hbV.cell (p := ⟨w2.heap.size, 0, none⟩) (by simp <;> omega)).trans pc0)
            have ic1 : w4.cell? ⟨w2.heap.size, 1, none⟩ = some (.int .i64 m4) := (hX.cell (p := ⟨w2.heap.size, 1, none⟩) (by simp <;> omega)).trans ((hbV.cell (p := ⟨w2.heap.size, 1, none⟩) (by simp <;> omega)).trans pc1)
            have ic2 : w4.cell? ⟨w2.heap.size, 2, none⟩ = some (.int .i64 l4) := (hX.cell (p := ⟨w2.heap.size, 2, none⟩) (by simp <;> omega)).trans ((hbV.cell (p := ⟨w2.heap.size, 2, none⟩) (by simp <;> omega)).trans pc2)
            have ic3 : w4.cell? ⟨w2.heap.size, 3, none⟩ = some (.int .i64 t4) := (hX.cell (p := ⟨w2.heap.size, 3, none⟩) (by simp <;> omega)).trans ((hbV.cell (p := ⟨w2.heap.size, 3, none⟩) (by simp <;> omega)).trans pc3)
            have ix0 : w4.cell? ⟨w3.heap.size, 0, none⟩ = some (.int .i64 n1) := (hX.cell (p := ⟨w3.heap.size, 0, none⟩) (by simp)).trans (by simp [go_sem])
            have ix1 : w4.cell? ⟨w3.heap.size, 1, none⟩ = some (.int .i64 m1) := (hX.cell (p := ⟨w3.heap.size, 1, none⟩) (by simp)).trans (by simp [go_sem])
            have ix2 : w4.cell? ⟨w3.heap.size, 2, none⟩ = some (.int .i64 l1) := (hX.cell (p := ⟨w3.heap.size, 2, none⟩) (by simp)).trans (by simp [go_sem])
            have ix3 : w4.cell? ⟨w3.heap.size, 3, none⟩ = some (.int .i64 t1) := (hX.cell (p := ⟨w3.heap.size, 3, none⟩) (by simp)).trans (by simp [go_sem])
            clear pa0 pa1 pa2 pa3 pb0 pb1 pb2 pb3 pc0 pc1 pc2 pc3
            have v1 : w1.heap.size < w4.heap.size := by omega
            have v2 : w1.heap.size + 1 < w4.heap.size := by omega
            have v3 : w2.heap.size < w4.heap.size := by omega
            have hbF : Below w.heap.size w w4 := bel_trans (bel_trans (bel_trans (bel_trans (bel_alloc (bel_alloc hb1 _) _) hb2) (bel_trans hbW hb3)) hbV) hX
            clear hb1 hb2 hb3 hbW hbV hX
            go_wp2_with fail
            refine (specaggok_any _ _ _ _ _).mono ?_
            rintro e w5 ⟨rfl, hbw5⟩
            obtain ⟨hcw5, hfw5, hsw5⟩ := bcell hbw5
            have j0la : w1.heap.size < w5.heap.size := hsw5 _ v1
            have j0a0 : w5.cell? ⟨w1.heap.size, 0, none⟩ = some (.int .i64 n0) := (hcw5 _ _ v1).trans ia0
            have j0a1 : w5.cell? ⟨w1.heap.size, 1, none⟩ = some (.int .i64 m0) := (hcw5 _ _ v1).trans ia1
            have j0a2 : w5.cell? ⟨w1.heap.size, 2, none⟩ = some (.int .i64 l0) := (hcw5 _ _ v1).trans ia2
            have j0a3 : w5.cell? ⟨w1.heap.size, 3, none⟩ = some (.int .i64 t0) := (hcw5 _ _ v1).trans ia3
            have j0lb : w1.heap.size + 1 < w5.heap.size := hsw5 _ v2
            have j0b0 : w5.cell? ⟨w1.heap.size + 1, 0, none⟩ = some (.int .i64 n2) := (hcw5 _ _ v2).trans ib0
            have j0b1 : w5.cell? ⟨w1.heap.size + 1, 1, none⟩ = some (.int .i64 m2) := (hcw5 _ _ v2).trans ib1
            have j0b2 : w5.cell? ⟨w1.heap.size + 1, 2, none⟩ = some (.int .i64 l2) := (hcw5 _ _ v2).trans ib2
            have j0b3 : w5.cell? ⟨w1.heap.size + 1, 3, none⟩ = some (.int .i64 t2) := (hcw5 _ _ v2).trans ib3
            have j0lc : w2.heap.size < w5.heap.size := hsw5 _ v3
            have j0c0 : w5.cell? ⟨w2.heap.size, 0, none⟩ = some (.int .i64 n4) := (hcw5 _ _ v3).trans ic0
            have j0c1 : w5.cell? ⟨w2.heap.size, 1, none⟩ = some (.int .i64 m4) := (hcw5 _ _ v3).trans ic1
            have j0c2 : w5.cell? ⟨w2.heap.size, 2, none⟩ = some (.int .i64 l4) := (hcw5 _ _ v3).trans ic2
            have j0c3 : w5.cell? ⟨w2.heap.size, 3, none⟩ = some (.int .i64 t4) := (hcw5 _ _ v3).trans ic3
            have j0lx : w3.heap.size < w5.heap.size := hsw5 _ z3
            have j0x0 : w5.cell? ⟨w3.heap.size, 0, none⟩ = some (.int .i64 n1) := (hcw5 _ _ z3).trans ix0
            have j0x1 : w5.cell? ⟨w3.heap.size, 1, none⟩ = some (.int .i64 m1) := (hcw5 _ _ z3).trans ix1
            have j0x2 : w5.cell? ⟨w3.heap.size, 2, none⟩ = some (.int .i64 l1) := (hcw5 _ _ z3).trans ix2
            have j0x3 : w5.cell? ⟨w3.heap.size, 3, none⟩ = some (.int .i64 t1) := (hcw5 _ _ z3).trans ix3
            clear hcw5 hfw5 hsw5 ia0 ia1 ia2 ia3 ib0 ib1 ib2 ib3 ic0 ic1 ic2 ic3 ix0 ix1 ix2 ix3
            go_wp2_with fail
            refine (specaggok_any _ _ _ _ _).mono ?_
            rintro e w6 ⟨rfl, hbw6⟩
            obtain ⟨hcw6, hfw6, hsw6⟩ := bcell hbw6
            have j1la : w1.heap.size < w6.heap.size := hsw6 _ j0la
            have j1a0 : w6.cell? ⟨w1.heap.size, 0, none⟩ = some (.int .i64 n0) := (hcw6 _ _ j0la).trans j0a0
            have j1a1 : w6.cell? ⟨w1.heap.size, 1, none⟩ = some (.int .i64 m0) := (hcw6 _ _ j0la).trans j0a1
            have j1a2 : w6.cell? ⟨w1.heap.size, 2, none⟩ = some (.int .i64 l0) := (hcw6 _ _ j0la).trans j0a2
            have j1a3 : w6.cell? ⟨w1.heap.size, 3, none⟩ = some (.int .i64 t0) := (hcw6 _ _ j0la).trans j0a3
            have j1lb : w1.heap.size + 1 < w6.heap.size := hsw6 _ j0lb
            have j1b0 : w6.cell? ⟨w1.heap.size + 1, 0, none⟩ = some (.int .i64 n2) := (hcw6 _ _ j0lb).trans j0b0
            have j1b1 : w6.cell? ⟨w1.heap.size + 1, 1, none⟩ = some (.int .i64 m2) := (hcw6 _ _ j0lb).trans j0b1
            have j1b2 : w6.cell? ⟨w1.heap.size + 1, 2, none⟩ = some (.int .i64 l2) := (hcw6 _ _ j0lb).trans j0b2
            have j1b3 : w6.cell? ⟨w1.heap.size + 1, 3, none⟩ = some (.int .i64 t2) := (hcw6 _ _ j0lb).trans j0b3
            have j1lc : w2.heap.size < w6.heap.size := hsw6 _ j0lc
            have j1c0 : w6.cell? ⟨w2.heap.size, 0, none⟩ = some (.int .i64 n4) := (hcw6 _ _ j0lc).trans j0c0
            have j1c1 : w6.cell? ⟨w2.heap.size, 1, none⟩ = some (.int .i64 m4) := (hcw6 _ _ j0lc).trans j0c1
            have j1c2 : w6.cell? ⟨w2.heap.size, 2, none⟩ = some (.int .i64 l4) := (hcw6 _ _ j0lc).trans j0c2
            have j1c3 : w6.cell? ⟨w2.heap.size, 3, none⟩ = some (.int .i64 t4) := (hcw6 _ _ j0lc).trans j0c3
            have j1lx : w3.heap.size < w6.heap.size := hsw6 _ j0lx
            have j1x0 : w6.cell? ⟨w3.heap.size, 0, none⟩ = some (.int .i64 n1) := (hcw6 _ _ j0lx).trans j0x0
            have j1x1 : w6.cell? ⟨w3.heap.size, 1, none⟩ = some (.int .i64 m1) := (hcw6 _ _ j0lx).trans j0x1
            have j1x2 : w6.cell? ⟨w3.heap.size, 2, none⟩ = some (.int .i64 l1) := (hcw6 _ _ j0lx).trans j0x2
            have j1x3 : w6.cell? ⟨w3.heap.size, 3, none⟩ = some (.int .i64 t1) := (hcw6 _ _ j0lx).trans j0x3
            clear hcw6 hfw6 hsw6 j0a0 j0a1 j0a2 j0a3 j0b0 j0b1 j0b2 j0b3 j0c0 j0c1 j0c2 j0c3 j0x0 j0x1 j0x2 j0x3
            go_wp2_with fail
            refine (specaggok_any _ _ _ _ _).mono ?_
            rintro e w7 ⟨rfl, hbw7⟩
            obtain ⟨hcw7, hfw7, hsw7⟩ := bcell hbw7
            have j2la : w1.heap.size < w7.heap.size := hsw7 _ j1la
            have j2a0 : w7.cell? ⟨w1.heap.size, 0, none⟩ = some (.int .i64 n0) := (hcw7 _ _ j1la).trans j1a0
            have j2a1 : w7.cell? ⟨w1.heap.size, 1, none⟩ = some (.int .i64 m0) := (hcw7 _ _ j1la).trans j1a1
            have j2a2 : w7.cell? ⟨w1.heap.size, 2, none⟩ = some (.int .i64 l0) := (hcw7 _ _ j1la).trans j1a2
            have j2a3 : w7.cell? ⟨w1.heap.size, 3, none⟩ = some (.int .i64 t0) := (hcw7 _ _ j1la).trans j1a3
            have j2lb : w1.heap.size + 1 < w7.heap.size := hsw7 _ j1lb
            have j2b0 : w7.cell? ⟨w1.heap.size + 1, 0, none⟩ = some (.int .i64 n2) := (hcw7 _ _ j1lb).trans j1b0
            have j2b1 : w7.cell? ⟨w1.heap.size + 1, 1, none⟩ = some (.int .i64 m2) := (hcw7 _ _ j1lb).trans j1b1
            have j2b2 : w7.cell? ⟨w1.heap.size + 1, 2, none⟩ = some (.int .i64 l2) := (hcw7 _ _ j1lb).trans j1b2
            have j2b3 : w7.cell? ⟨w1.heap.size + 1, 3, none⟩ = some (.int .i64 t2) := (hcw7 _ _ j1lb).trans j1b3
            have j2lc : w2.heap.size < w7.heap.size := hsw7 _ j1lc
            have j2c0 : w7.cell? ⟨w2.heap.size, 0, none⟩ = some (.int .i64 n4) := (hcw7 _ _ j1lc).trans j1c0
            have j2c1 : w7.cell? ⟨w2.heap.size, 1, none⟩ = some (.int .i64 m4) := (hcw7 _ _ j1lc).trans j1c1
            have j2c2 : w7.cell? ⟨w2.heap.size, 2, none⟩ = some (.int .i64 l4) := (hcw7 _ _ j1lc).trans j1c2
            have j2c3 : w7.cell? ⟨w2.heap.size, 3, none⟩ = some (.int .i64 t4) := (hcw7 _ _ j1lc).trans j1c3
            have j2lx : w3.heap.size < w7.heap.size := hsw7 _ j1lx
            have j2x0 : w7.cell? ⟨w3.heap.size, 0, none⟩ = some (.int .i64 n1) := (hcw7 _ _ j1lx).trans j1x0
            have j2x1 : w7.cell? ⟨w3.heap.size, 1, none⟩ = some (.int .i64 m1) := (hcw7 _ _ j1lx).trans j1x1
            have j2x2 : w7.cell? ⟨w3.heap.size, 2, none⟩ = some (.int .i64 l1) := (hcw7 _ _ j1lx).trans j1x2
            have j2x3 : w7.cell? ⟨w3.heap.size, 3, none⟩ = some (.int .i64 t1) := (hcw7 _ _ j1lx).trans j1x3
            clear hcw7 hfw7 hsw7 j1a0 j1a1 j1a2 j1a3 j1b0 j1b1 j1b2 j1b3 j1c0 j1c1 j1c2 j1c3 j1x0 j1x1 j1x2 j1x3
            go_wp2_with fail
            refine wp_region_held_drew (S := (fun W => ((W.cell? ⟨w1.heap.size, 0, none⟩ = some (.int .i64 n0) ∧ W.cell? ⟨w1.heap.size, 1, none⟩ = some (.int .i64 m0) ∧ W.cell? ⟨w1.heap.size, 2, none⟩ = some (.int .i64 l0) ∧ W.cell? ⟨w1.heap.size, 3, none⟩ = some (.int .i64 t0) ∧ W.cell? ⟨w1.heap.size + 1, 0, none⟩ = some (.int .i64 n2) ∧ W.cell? ⟨w1.heap.size + 1, 1, none⟩ = some (.int .i64 m2) ∧ W.cell? ⟨w1.heap.size + 1, 2, none⟩ = some (.int .i64 l2) ∧ W.cell? ⟨w1.heap.size + 1, 3, none⟩ = some (.int .i64 t2) ∧ W.cell? ⟨w2.heap.size, 0, none⟩ = some (.int .i64 n4) ∧ W.cell? ⟨w2.heap.size, 1, none⟩ = some (.int .i64 m4) ∧ W.cell? ⟨w2.heap.size, 2, none⟩ = some (.int .i64 l4) ∧ W.cell? ⟨w2.heap.size, 3, none⟩ = some (.int .i64 t4) ∧ W.cell? ⟨w3.heap.size, 0, none⟩ = some (.int .i64 n1) ∧ W.cell? ⟨w3.heap.size, 1, none⟩ = some (.int .i64 m1) ∧ W.cell? ⟨w3.heap.size, 2, none⟩ = some (.int .i64 l1) ∧ W.cell? ⟨w3.heap.size, 3, none⟩ = some (.int .i64 t1)) ∧ w1.heap.size < W.heap.size ∧ w1.heap.size + 1 < W.heap.size ∧ w2.heap.size < W.heap.size ∧ w3.heap.size < W.heap.size))) (by kernel_rfl) ?_ (fun hHeld => ?_)
            · (try dsimp only); ((first | ((repeat (first | (with_reducible assumption) | (with_reducible refine hd_4_4_4_4 ?_ (by with_reducible assumption)) | (with_reducible refine hd_4_4_4_4 ?_ (bel_drew (Below.refl _ _))) | (with_reducible exact hd_4_4_4_4_re (by with_reducible assumption) (by first | omega | (simp; done) | (simp; omega)) (by first | omega | (simp; done) | (simp; omega)) (by first | omega | (simp; done) | (simp; omega)) (by first | omega | (simp; done) | (simp; omega))) | (with_reducible refine hd_4_4_4_4 ?_ (bel_one _ _)) | (with_reducible refine hd_4_4_4_4_set ?_ (by first | omega | (simp; done) | (simp; omega)) (by first | omega | (simp; done) | (simp; omega)) (by first | omega | (simp; done) | (simp; omega)) (by first | omega | (simp; done) | (simp; omega)) _))); done) | (refine ⟨⟨?_, ?_, ?_, ?_, ?_, ?_, ?_, ?_, ?_, ?_, ?_, ?_, ?_, ?_, ?_, ?_⟩, ?_, ?_, ?_, ?_⟩ <;> first | (go_keep; done) | (simp; done) | (simp; omega) | omega)))
            refine wpAnyH_take (i := 0) (v := ?_) (by simp only [List.getElem?_toArray, List.getElem?_cons_zero, List.getElem?_cons_succ]; rfl) (by kernel_rfl) (by kernel_rfl) (by kernel_rfl) (by intro _ _ _ h; exact h) (Or.inl ⟨by rfl, ?_⟩) (by assumption) ?_
            rotate_left
            · (intro w9 hSw; (try dsimp only at hSw); go_simp <;> with_reducible rfl)
            try simp only [Act.put, List.setIfInBounds_toArray, List.set_cons_zero, List.set_cons_succ]
            refine wpAnyH_take (i := 1) (v := ?_) (by simp only [List.getElem?_toArray, List.getElem?_cons_zero, List.getElem?_cons_succ]; rfl) (by kernel_rfl) (by kernel_rfl) (by kernel_rfl) (by intro _ _ _ h; exact h) (Or.inl ⟨by rfl, ?_⟩) (by assumption) ?_
            rotate_left
            · (intro w9 hSw; (try dsimp only at hSw); go_simp <;> with_reducible rfl)
            try simp only [Act.put, List.setIfInBounds_toArray, List.set_cons_zero, List.set_cons_succ]
            refine wpAnyH_take (i := 2) (v := ?_) (by simp only [List.getElem?_toArray, List.getElem?_cons_zero, List.getElem?_cons_succ]; rfl) (by kernel_rfl) (by kernel_rfl) (by kernel_rfl) (by intro _ _ _ h; exact h) (Or.inl ⟨by rfl, ?_⟩) (by assumption) ?_
            rotate_left
            · (intro w9 hSw; (try dsimp only at hSw); go_simp <;> with_reducible rfl)
            try simp only [Act.put, List.setIfInBounds_toArray, List.set_cons_zero, List.set_cons_succ]
            refine wpAnyH_ready (rs := [3]) (by kernel_rfl) (by simp) ?_
            refine AllReadyH.cons (by simp only [List.getElem?_toArray, List.getElem?_cons_zero, List.getElem?_cons_succ]; rfl) (fun K hK => ?_) AllReadyH.nil
            go_simp
            (go_at_call 26; refine (implboth_c _ HBA).mono ?_; rintro e w30 ⟨rfl, hb⟩; obtain ⟨hc, hf, hs⟩ := bcell hb)
            (try go_wp2_with fail)
            refine hK.out _ _ ?_ (fun hHeld2 => ?_)
            · (try dsimp only); ((first | ((repeat (first | (with_reducible assumption) | (with_reducible refine hd_4_4_4_4 ?_ (by with_reducible assumption)) | (with_reducible refine hd_4_4_4_4 ?_ (bel_drew (Below.refl _ _))) | (with_reducible exact hd_4_4_4_4_re (by with_reducible assumption) (by first | omega | (simp; done) | (simp; omega)) (by first | omega | (simp; done) | (simp; omega)) (by first | omega | (simp; done) | (simp; omega)) (by first | omega | (simp; done) | (simp; omega))) | (with_reducible refine hd_4_4_4_4 ?_ (bel_one _ _)) | (with_reducible refine hd_4_4_4_4_set ?_ (by first | omega | (simp; done) | (simp; omega)) (by first | omega | (simp; done) | (simp; omega)) (by first | omega | (simp; done) | (simp; omega)) (by first | omega | (simp; done) | (simp; omega)) _))); done) | (refine ⟨⟨?_, ?_, ?_, ?_, ?_, ?_, ?_, ?_, ?_, ?_, ?_, ?_, ?_, ?_, ?_, ?_⟩, ?_, ?_, ?_, ?_⟩ <;> first | (go_keep; done) | (simp; done) | (simp; omega) | omega)))
            clear hK K hHeld
            have hHeld := hHeld2
            clear hHeld2
            try simp only [Act.put, List.setIfInBounds_toArray, List.set_cons_zero, List.set_cons_succ]
            refine wpAnyH_take (i := 4) (v := ?_) (by simp only [List.getElem?_toArray, List.getElem?_cons_zero, List.getElem?_cons_succ]; rfl) (by kernel_rfl) (by kernel_rfl) (by kernel_rfl) (by intro _ _ _ h; exact h) (Or.inl ⟨by rfl, ?_⟩) (by assumption) ?_
            rotate_left
            · (intro w9 hSw; (try dsimp only at hSw); go_simp <;> with_reducible rfl)
            try simp only [Act.put, List.setIfInBounds_toArray, List.set_cons_zero, List.set_cons_succ]
            refine wpAnyH_take (i := 5) (v := ?_) (by simp only [List.getElem?_toArray, List.getElem?_cons_zero, List.getElem?_cons_succ]; rfl) (by kernel_rfl) (by kernel_rfl) (by kernel_rfl) (by intro _ _ _ h; exact h) (Or.inl ⟨by rfl, ?_⟩) (by assumption) ?_
            rotate_left
            · (intro w9 hSw; (try dsimp only at hSw); go_simp <;> with_reducible rfl)
            try simp only [Act.put, List.setIfInBounds_toArray, List.set_cons_zero, List.set_cons_succ]
            refine wpAnyH_take (i := 6) (v := ?_) (by simp only [List.getElem?_toArray, List.getElem?_cons_zero, List.getElem?_cons_succ]; rfl) (by kernel_rfl) (by kernel_rfl) (by kernel_rfl) (by intro _ _ _ h; exact h) (Or.inl ⟨by rfl, ?_⟩) (by assumption) ?_
            rotate_left
            · (intro w9 hSw; (try dsimp only at hSw); go_simp <;> with_reducible rfl)
            try simp only [Act.put, List.setIfInBounds_toArray, List.set_cons_zero, List.set_cons_succ]
            refine wpAnyH_take (i := 7) (v := ?_) (by simp only [List.getElem?_toArray, List.getElem?_cons_zero, List.getElem?_cons_succ]; rfl) (by kernel_rfl) (by kernel_rfl) (by kernel_rfl) (by intro _ _ _ h; exact h) (Or.inl ⟨by rfl, ?_⟩) (by assumption) ?_
            rotate_left
            · (intro w9 hSw; (try dsimp only at hSw); go_simp <;> with_reducible rfl)
            try simp only [Act.put, List.setIfInBounds_toArray, List.set_cons_zero, List.set_cons_succ]
            refine wpAnyH_take (i := 9) (v := ?_) (by simp only [List.getElem?_toArray, List.getElem?_cons_zero, List.getElem?_cons_succ]; rfl) (by kernel_rfl) (by kernel_rfl) (by kernel_rfl) (by intro _ _ _ h; exact h) (Or.inl ⟨by rfl, ?_⟩) (by assumption) ?_
            rotate_left
            · (intro w9 hSw; (try dsimp only at hSw); go_simp <;> with_reducible rfl)
            try simp only [Act.put, List.setIfInBounds_toArray, List.set_cons_zero, List.set_cons_succ]
            refine wpAnyH_take (i := 10) (v := ?_) (by simp only [List.getElem?_toArray, List.getElem?_cons_zero, List.getElem?_cons_succ]; rfl) (by kernel_rfl) (by kernel_rfl) (by kernel_rfl) (by intro _ _ _ h; exact h) (Or.inl ⟨by rfl, ?_⟩) (by assumption) ?_
            rotate_left
            · (intro w9 hSw; (try dsimp only at hSw); go_simp <;> with_reducible rfl)
            try simp only [Act.put, List.setIfInBounds_toArray, List.set_cons_zero, List.set_cons_succ]
            refine wpAnyH_take (i := 11) (v := ?_) (by simp only [List.getElem?_toArray, List.getElem?_cons_zero, List.getElem?_cons_succ]; rfl) (by kernel_rfl) (by kernel_rfl) (by kernel_rfl) (by intro _ _ _ h; exact h) (Or.inl ⟨by rfl, ?_⟩) (by assumption) ?_
            rotate_left
            · (intro w9 hSw; (try dsimp only at hSw); go_simp <;> with_reducible rfl)
            try simp only [Act.put, List.setIfInBounds_toArray, List.set_cons_zero, List.set_cons_succ]
            refine wpAnyH_ready (rs := [8]) (by kernel_rfl) (by simp) ?_
            refine AllReadyH.cons (by simp only [List.getElem?_toArray, List.getElem?_cons_zero, List.getElem?_cons_succ]; rfl) (fun K hK => ?_) AllReadyH.nil
            go_simp
            (go_at_call 26; refine (implboth_c _ HXC).mono ?_; rintro e w31 ⟨rfl, hb⟩; obtain ⟨hc, hf, hs⟩ := bcell hb)
            (try go_wp2_with fail)
            refine hK.out _ _ ?_ (fun hHeld2 => ?_)
            · (try dsimp only); ((first | ((repeat (first | (with_reducible assumption) | (with_reducible refine hd_4_4_4_4 ?_ (by with_reducible assumption)) | (with_reducible refine hd_4_4_4_4 ?_ (bel_drew (Below.refl _ _))) | (with_reducible exact hd_4_4_4_4_re (by with_reducible assumption) (by first | omega | (simp; done) | (simp; omega)) (by first | omega | (simp; done) | (simp; omega)) (by first | omega | (simp; done) | (simp; omega)) (by first | omega | (simp; done) | (simp; omega))) | (with_reducible refine hd_4_4_4_4 ?_ (bel_one _ _)) | (with_reducible refine hd_4_4_4_4_set ?_ (by first | omega | (simp; done) | (simp; omega)) (by first | omega | (simp; done) | (simp; omega)) (by first | omega | (simp; done) | (simp; omega)) (by first | omega | (simp; done) | (simp; omega)) _))); done) | (refine ⟨⟨?_, ?_, ?_, ?_, ?_, ?_, ?_, ?_, ?_, ?_, ?_, ?_, ?_, ?_, ?_, ?_⟩, ?_, ?_, ?_, ?_⟩ <;> first | (go_keep; done) | (simp; done) | (simp; omega) | omega)))
            clear hK K hHeld
            have hHeld := hHeld2
            clear hHeld2
            try simp only [Act.put, List.setIfInBounds_toArray, List.set_cons_zero, List.set_cons_succ]
            refine wpAnyH_ready (rs := [12]) (by kernel_rfl) (by simp) ?_
            refine AllReadyH.cons (by simp only [List.getElem?_toArray, List.getElem?_cons_zero, List.getElem?_cons_succ]; rfl) (fun K hK => ?_) AllReadyH.nil
            go_simp
            (go_at_call 26; refine (implboth_c _ HBC).mono ?_; rintro e w32 ⟨rfl, hb⟩; obtain ⟨hc, hf, hs⟩ := bcell hb)
            (try go_wp2_with fail)
            refine hK.out _ _ ?_ (fun hHeld2 => ?_)
            · (try dsimp only); ((first | ((repeat (first | (with_reducible assumption) | (with_reducible refine hd_4_4_4_4 ?_ (by with_reducible assumption)) | (with_reducible refine hd_4_4_4_4 ?_ (bel_drew (Below.refl _ _))) | (with_reducible exact hd_4_4_4_4_re (by with_reducible assumption) (by first | omega | (simp; done) | (simp; omega)) (by first | omega | (simp; done) | (simp; omega)) (by first | omega | (simp; done) | (simp; omega)) (by first | omega | (simp; done) | (simp; omega))) | (with_reducible refine hd_4_4_4_4 ?_ (bel_one _ _)) | (with_reducible refine hd_4_4_4_4_set ?_ (by first | omega | (simp; done) | (simp; omega)) (by first | omega | (simp; done) | (simp; omega)) (by first | omega | (simp; done) | (simp; omega)) (by first | omega | (simp; done) | (simp; omega)) _))); done) | (refine ⟨⟨?_, ?_, ?_, ?_, ?_, ?_, ?_, ?_, ?_, ?_, ?_, ?_, ?_, ?_, ?_, ?_⟩, ?_, ?_, ?_, ?_⟩ <;> first | (go_keep; done) | (simp; done) | (simp; omega) | omega)))
            clear hK K hHeld
            have hHeld := hHeld2
            clear hHeld2
            try simp only [Act.put, List.setIfInBounds_toArray, List.set_cons_zero, List.set_cons_succ]
            refine wpAnyH_ready (rs := [13]) (by kernel_rfl) (by simp) ?_
            refine AllReadyH.cons (by simp only [List.getElem?_toArray, List.getElem?_cons_zero, List.getElem?_cons_succ]; rfl) (fun K hK => ?_) AllReadyH.nil
            go_simp
            (go_at_call 26; refine (implboth_c _ HAZ).mono ?_; rintro e w33 ⟨rfl, hb⟩; obtain ⟨hc, hf, hs⟩ := bcell hb)
            (try go_wp2_with fail)
            refine hK.out _ _ ?_ (fun hHeld2 => ?_)
            · (try dsimp only); ((first | ((repeat (first | (with_reducible assumption) | (with_reducible refine hd_4_4_4_4 ?_ (by with_reducible assumption)) | (with_reducible refine hd_4_4_4_4 ?_ (bel_drew (Below.refl _ _))) | (with_reducible exact hd_4_4_4_4_re (by with_reducible assumption) (by first | omega | (simp; done) | (simp; omega)) (by first | omega | (simp; done) | (simp; omega)) (by first | omega | (simp; done) | (simp; omega)) (by first | omega | (simp; done) | (simp; omega))) | (with_reducible refine hd_4_4_4_4 ?_ (bel_one _ _)) | (with_reducible refine hd_4_4_4_4_set ?_ (by first | omega | (simp; done) | (simp; omega)) (by first | omega | (simp; done) | (simp; omega)) (by first | omega | (simp; done) | (simp; omega)) (by first | omega | (simp; done) | (simp; omega)) _))); done) | (refine ⟨⟨?_, ?_, ?_, ?_, ?_, ?_, ?_, ?_, ?_, ?_, ?_, ?_, ?_, ?_, ?_, ?_⟩, ?_, ?_, ?_, ?_⟩ <;> first | (go_keep; done) | (simp; done) | (simp; omega) | omega)))
            clear hK K hHeld
            have hHeld := hHeld2
            clear hHeld2
            try simp only [Act.put, List.setIfInBounds_toArray, List.set_cons_zero, List.set_cons_succ]
            refine wpAnyH_take (i := 14) (v := ?_) (by simp only [List.getElem?_toArray, List.getElem?_cons_zero, List.getElem?_cons_succ]; rfl) (by kernel_rfl) (by kernel_rfl) (by kernel_rfl) (by intro _ _ _ h; exact h) (Or.inl ⟨by rfl, ?_⟩) (by assumption) ?_
            rotate_left
            · (intro w9 hSw; (try dsimp only at hSw); go_simp <;> with_reducible rfl)
            try simp only [Act.put, List.setIfInBounds_toArray, List.set_cons_zero, List.set_cons_succ]
            refine wpAnyH_take (i := 15) (v := ?_) (by simp only [List.getElem?_toArray, List.getElem?_cons_zero, List.getElem?_cons_succ]; rfl) (by kernel_rfl) (by kernel_rfl) (by kernel_rfl) (by intro _ _ _ h; exact h) (Or.inl ⟨by rfl, ?_⟩) (by assumption) ?_
            rotate_left
            · (intro w9 hSw; (try dsimp only at hSw); go_simp <;> with_reducible rfl)
            try simp only [Act.put, List.setIfInBounds_toArray, List.set_cons_zero, List.set_cons_succ]
            refine wpAnyH_take (i := 16) (v := ?_) (by simp only [List.getElem?_toArray, List.getElem?_cons_zero, List.getElem?_cons_succ]; rfl) (by kernel_rfl) (by kernel_rfl) (by kernel_rfl) (by intro _ _ _ h; exact h) (Or.inl ⟨by rfl, ?_⟩) (by assumption) ?_
            rotate_left
            · (intro w9 hSw; (try dsimp only at hSw); go_simp <;> with_reducible rfl)
            try simp only [Act.put, List.setIfInBounds_toArray, List.set_cons_zero, List.set_cons_succ]
            refine wpAnyH_take (i := 17) (v := ?_) (by simp only [List.getElem?_toArray, List.getElem?_cons_zero, List.getElem?_cons_succ]; rfl) (by kernel_rfl) (by kernel_rfl) (by kernel_rfl) (by intro _ _ _ h; exact h) (Or.inl ⟨by rfl, ?_⟩) (by assumption) ?_
            rotate_left
            · (intro w9 hSw; (try dsimp only at hSw); go_simp <;> with_reducible rfl)
            try simp only [Act.put, List.setIfInBounds_toArray, List.set_cons_zero, List.set_cons_succ]
            refine wpAnyH_take (i := 18) (v := ?_) (by simp only [List.getElem?_toArray, List.getElem?_cons_zero, List.getElem?_cons_succ]; rfl) (by kernel_rfl) (by kernel_rfl) (by kernel_rfl) (by intro _ _ _ h; exact h) (Or.inl ⟨by rfl, ?_⟩) (by assumption) ?_
            rotate_left
            · (intro w9 hSw; (try dsimp only at hSw); go_simp <;> with_reducible rfl)
            try simp only [Act.put, List.setIfInBounds_toArray, List.set_cons_zero, List.set_cons_succ]
            refine wpAnyH_take (i := 20) (v := ?_) (by simp only [List.getElem?_toArray, List.getElem?_cons_zero, List.getElem?_cons_succ]; rfl) (by kernel_rfl) (by kernel_rfl) (by kernel_rfl) (by intro _ _ _ h; exact h) (Or.inl ⟨by rfl, ?_⟩) (by assumption) ?_
            rotate_left
            · (intro w9 hSw; (try dsimp only at hSw); go_simp <;> with_reducible rfl)
            try simp only [Act.put, List.setIfInBounds_toArray, List.set_cons_zero, List.set_cons_succ]
            refine wpAnyH_ready (rs := [19]) (by kernel_rfl) (by simp) ?_
            refine AllReadyH.cons (by simp only [List.getElem?_toArray, List.getElem?_cons_zero, List.getElem?_cons_succ]; rfl) (fun K hK => ?_) AllReadyH.nil
            go_simp
            (go_at_call 26; refine (implboth_c _ HA0).mono ?_; rintro e w34 ⟨rfl, hb⟩; obtain ⟨hc, hf, hs⟩ := bcell hb)
            (try go_wp2_with fail)
            refine hK.out _ _ ?_ (fun hHeld2 => ?_)
            · (try dsimp only); ((first | ((repeat (first | (with_reducible assumption) | (with_reducible refine hd_4_4_4_4 ?_ (by with_reducible assumption)) | (with_reducible refine hd_4_4_4_4 ?_ (bel_drew (Below.refl _ _))) | (with_reducible exact hd_4_4_4_4_re (by with_reducible assumption) (by first | omega | (simp; done) | (simp; omega)) (by first | omega | (simp; done) | (simp; omega)) (by first | omega | (simp; done) | (simp; omega)) (by first | omega | (simp; done) | (simp; omega))) | (with_reducible refine hd_4_4_4_4 ?_ (bel_one _ _)) | (with_reducible refine hd_4_4_4_4_set ?_ (by first | omega | (simp; done) | (simp; omega)) (by first | omega | (simp; done) | (simp; omega)) (by first | omega | (simp; done) | (simp; omega)) (by first | omega | (simp; done) | (simp; omega)) _))); done) | (refine ⟨⟨?_, ?_, ?_, ?_, ?_, ?_, ?_, ?_, ?_, ?_, ?_, ?_, ?_, ?_, ?_, ?_⟩, ?_, ?_, ?_, ?_⟩ <;> first | (go_keep; done) | (simp; done) | (simp; omega) | omega)))
            clear hK K hHeld
            have hHeld := hHeld2
            clear hHeld2
            try simp only [Act.put, List.setIfInBounds_toArray, List.set_cons_zero, List.set_cons_succ]
            refine wpAnyH_take (i := 21) (v := ?_) (by simp only [List.getElem?_toArray, List.getElem?_cons_zero, List.getElem?_cons_succ]; rfl) (by kernel_rfl) (by kernel_rfl) (by kernel_rfl) (by intro _ _ _ h; exact h) (Or.inl ⟨by rfl, ?_⟩) (by assumption) ?_
            rotate_left
            · (intro w9 hSw; (try dsimp only at hSw); go_simp <;> with_reducible rfl)
            try simp only [Act.put, List.setIfInBounds_toArray, List.set_cons_zero, List.set_cons_succ]
            refine wpAnyH_take (i := 22) (v := ?_) (by simp only [List.getElem?_toArray, List.getElem?_cons_zero, List.getElem?_cons_succ]; rfl) (by kernel_rfl) (by kernel_rfl) (by kernel_rfl) (by intro _ _ _ h; exact h) (Or.inl ⟨by rfl, ?_⟩) (by assumption) ?_
            rotate_left
            · (intro w9 hSw; (try dsimp only at hSw); go_simp <;> with_reducible rfl)
            try simp only [Act.put, List.setIfInBounds_toArray, List.set_cons_zero, List.set_cons_succ]
            refine wpAnyH_take (i := 23) (v := ?_) (by simp only [List.getElem?_toArray, List.getElem?_cons_zero, List.getElem?_cons_succ]; rfl) (by kernel_rfl) (by kernel_rfl) (by kernel_rfl) (by intro _ _ _ h; exact h) (Or.inl ⟨by rfl, ?_⟩) (by assumption) ?_
            rotate_left
            · (intro w9 hSw; (try dsimp only at hSw); go_simp <;> with_reducible rfl)
            try simp only [Act.put, List.setIfInBounds_toArray, List.set_cons_zero, List.set_cons_succ]
            refine wpAnyH_take (i := 24) (v := ?_) (by simp only [List.getElem?_toArray, List.getElem?_cons_zero, List.getElem?_cons_succ]; rfl) (by kernel_rfl) (by kernel_rfl) (by kernel_rfl) (by intro _ _ _ h; exact h) (Or.inl ⟨by rfl, ?_⟩) (by assumption) ?_
            rotate_left
            · (intro w9 hSw; (try dsimp only at hSw); go_simp <;> with_reducible rfl)
            try simp only [Act.put, List.setIfInBounds_toArray, List.set_cons_zero, List.set_cons_succ]
            refine wpAnyH_take (i := 25) (v := ?_) (by simp only [List.getElem?_toArray, List.getElem?_cons_zero, List.getElem?_cons_succ]; rfl) (by kernel_rfl) (by kernel_rfl) (by kernel_rfl) (by intro _ _ _ h; exact h) (Or.inl ⟨by rfl, ?_⟩) (by assumption) ?_
            rotate_left
            · (intro w9 hSw; (try dsimp only at hSw); go_simp <;> with_reducible rfl)
            try simp only [Act.put, List.setIfInBounds_toArray, List.set_cons_zero, List.set_cons_succ]
            refine wpAnyH_take (i := 27) (v := ?_) (by simp only [List.getElem?_toArray, List.getElem?_cons_zero, List.getElem?_cons_succ]; rfl) (by kernel_rfl) (by kernel_rfl) (by kernel_rfl) (by intro _ _ _ h; exact h) (Or.inl ⟨by rfl, ?_⟩) (by assumption) ?_
            rotate_left
            · (intro w9 hSw; (try dsimp only at hSw); go_simp <;> with_reducible rfl)
            try simp only [Act.put, List.setIfInBounds_toArray, List.set_cons_zero, List.set_cons_succ]
            refine wpAnyH_ready (rs := [26]) (by kernel_rfl) (by simp) ?_
            refine AllReadyH.cons (by simp only [List.getElem?_toArray, List.getElem?_cons_zero, List.getElem?_cons_succ]; rfl) (fun K hK => ?_) AllReadyH.nil
            go_simp
            (go_at_call 26; refine (implboth_c _ H0A).mono ?_; rintro e w35 ⟨rfl, hb⟩; obtain ⟨hc, hf, hs⟩ := bcell hb)
            (try go_wp2_with fail)
            refine hK.out _ _ ?_ (fun hHeld2 => ?_)
            · (try dsimp only); ((first | ((repeat (first | (with_reducible assumption) | (with_reducible refine hd_4_4_4_4 ?_ (by with_reducible assumption)) | (with_reducible refine hd_4_4_4_4 ?_ (bel_drew (Below.refl _ _))) | (with_reducible exact hd_4_4_4_4_re (by with_reducible assumption) (by first | omega | (simp; done) | (simp; omega)) (by first | omega | (simp; done) | (simp; omega)) (by first | omega | (simp; done) | (simp; omega)) (by first | omega | (simp; done) | (simp; omega))) | (with_reducible refine hd_4_4_4_4 ?_ (bel_one _ _)) | (with_reducible refine hd_4_4_4_4_set ?_ (by first | omega | (simp; done) | (simp; omega)) (by first | omega | (simp; done) | (simp; omega)) (by first | omega | (simp; done) | (simp; omega)) (by first | omega | (simp; done) | (simp; omega)) _))); done) | (refine ⟨⟨?_, ?_, ?_, ?_, ?_, ?_, ?_, ?_, ?_, ?_, ?_, ?_, ?_, ?_, ?_, ?_⟩, ?_, ?_, ?_, ?_⟩ <;> first | (go_keep; done) | (simp; done) | (simp; omega) | omega)))
            clear hK K hHeld
            have hHeld := hHeld2
            clear hHeld2
            try simp only [Act.put, List.setIfInBounds_toArray, List.set_cons_zero, List.set_cons_succ]
            refine wpAnyH_take (i := 28) (v := ?_) (by simp only [List.getElem?_toArray, List.getElem?_cons_zero, List.getElem?_cons_succ]; rfl) (by kernel_rfl) (by kernel_rfl) (by kernel_rfl) (by intro _ _ _ h; exact h) (Or.inl ⟨by rfl, ?_⟩) (by assumption) ?_
            rotate_left
            · (intro w9 hSw; (try dsimp only at hSw); go_simp <;> with_reducible rfl)
            try simp only [Act.put, List.setIfInBounds_toArray, List.set_cons_zero, List.set_cons_succ]
            refine wpAnyH_take (i := 29) (v := ?_) (by simp only [List.getElem?_toArray, List.getElem?_cons_zero, List.getElem?_cons_succ]; rfl) (by kernel_rfl) (by kernel_rfl) (by kernel_rfl) (by intro _ _ _ h; exact h) (Or.inl ⟨by rfl, ?_⟩) (by assumption) ?_
            rotate_left
            · (intro w9 hSw; (try dsimp only at hSw); go_simp <;> with_reducible rfl)
            try simp only [Act.put, List.setIfInBounds_toArray, List.set_cons_zero, List.set_cons_succ]
            refine wpAnyH_take (i := 30) (v := ?_) (by simp only [List.getElem?_toArray, List.getElem?_cons_zero, List.getElem?_cons_succ]; rfl) (by kernel_rfl) (by kernel_rfl) (by kernel_rfl) (by intro _ _ _ h; exact h) (Or.inl ⟨by rfl, ?_⟩) (by assumption) ?_
            rotate_left
            · (intro w9 hSw; (try dsimp only at hSw); go_simp <;> with_reducible rfl)
            try simp only [Act.put, List.setIfInBounds_toArray, List.set_cons_zero, List.set_cons_succ]
            refine wpAnyH_take (i := 31) (v := ?_) (by simp only [List.getElem?_toArray, List.getElem?_cons_zero, List.getElem?_cons_succ]; rfl) (by kernel_rfl) (by kernel_rfl) (by kernel_rfl) (by intro _ _ _ h; exact h) (Or.inl ⟨by rfl, ?_⟩) (by assumption) ?_
            rotate_left
            · (intro w9 hSw; (try dsimp only at hSw); go_simp <;> with_reducible rfl)
            try simp only [Act.put, List.setIfInBounds_toArray, List.set_cons_zero, List.set_cons_succ]
            refine wpAnyH_ready (rs := [32]) (by kernel_rfl) (by simp) ?_
            refine AllReadyH.cons (by simp only [List.getElem?_toArray, List.getElem?_cons_zero, List.getElem?_cons_succ]; rfl) (fun K hK => ?_) AllReadyH.nil
            go_simp
            (go_at_call 25; refine (implaggok_any _ _ _ _ _).mono ?_; rintro e w36 ⟨rfl, hb⟩; obtain ⟨hc, hf, hs⟩ := bcell hb)
            (try go_wp2_with fail)
            refine hK.out _ _ ?_ (fun hHeld2 => ?_)
            · (try dsimp only); ((first | ((repeat (first | (with_reducible assumption) | (with_reducible refine hd_4_4_4_4 ?_ (by with_reducible assumption)) | (with_reducible refine hd_4_4_4_4 ?_ (bel_drew (Below.refl _ _))) | (with_reducible exact hd_4_4_4_4_re (by with_reducible assumption) (by first | omega | (simp; done) | (simp; omega)) (by first | omega | (simp; done) | (simp; omega)) (by first | omega | (simp; done) | (simp; omega)) (by first | omega | (simp; done) | (simp; omega))) | (with_reducible refine hd_4_4_4_4 ?_ (bel_one _ _)) | (with_reducible refine hd_4_4_4_4_set ?_ (by first | omega | (simp; done) | (simp; omega)) (by first | omega | (simp; done) | (simp; omega)) (by first | omega | (simp; done) | (simp; omega)) (by first | omega | (simp; done) | (simp; omega)) _))); done) | (refine ⟨⟨?_, ?_, ?_, ?_, ?_, ?_, ?_, ?_, ?_, ?_, ?_, ?_, ?_, ?_, ?_, ?_⟩, ?_, ?_, ?_, ?_⟩ <;> first | (go_keep; done) | (simp; done) | (simp; omega) | omega)))
            clear hK K hHeld
            have hHeld := hHeld2
            clear hHeld2
            try simp only [Act.put, List.setIfInBounds_toArray, List.set_cons_zero, List.set_cons_succ]
            refine wpAnyH_take (i := 33) (v := ?_) (by simp only [List.getElem?_toArray, List.getElem?_cons_zero, List.getElem?_cons_succ]; rfl) (by kernel_rfl) (by kernel_rfl) (by kernel_rfl) (by intro _ _ _ h; exact h) (Or.inl ⟨by rfl, ?_⟩) (by assumption) ?_
            rotate_left
            · (intro w9 hSw; (try dsimp only at hSw); go_simp <;> with_reducible rfl)
            try simp only [Act.put, List.setIfInBounds_toArray, List.set_cons_zero, List.set_cons_succ]
            refine wpAnyH_take (i := 34) (v := ?_) (by simp only [List.getElem?_toArray, List.getElem?_cons_zero, List.getElem?_cons_succ]; rfl) (by kernel_rfl) (by kernel_rfl) (by kernel_rfl) (by intro _ _ _ h; exact h) (Or.inl ⟨by rfl, ?_⟩) (by assumption) ?_
            rotate_left
            · (intro w9 hSw; (try dsimp only at hSw); go_simp <;> with_reducible rfl)
            try simp only [Act.put, List.setIfInBounds_toArray, List.set_cons_zero, List.set_cons_succ]
            refine wpAnyH_done (by kernel_rfl) ?_ _
            go_wp2
            go_ret
            refine ⟨?_, (by repeat (first | (with_reducible exact Below.refl _ _) | (with_reducible assumption) | (with_reducible refine bel_set ?_ (by first | (simp; done) | (simp; omega)) _) | (with_reducible refine bel_alloc ?_ _) | (with_reducible refine bel_drew ?_) | (with_reducible refine bel_drewN ?_ _) | (with_reducible refine bel_trans ?_ (by with_reducible assumption))))⟩
            first | rfl | exact ret_b (by simp <;> omega)
    · go_enter Try.func7, Try.ntmps7
      go_wp2
      go_ret
      exact ⟨rfl, Below.refl _ _⟩
  · go_enter Try.func7, Try.ntmps7
    go_wp2
    go_ret
    exact ⟨rfl, Below.refl _ _⟩
end Go.Proofs.Ytbnhegfimdhddaa
