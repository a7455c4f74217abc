/- Proved here: the two laws on what is known of both and with one value more, walked: they answer true at every argument. -/
import Derived.Test.YteiomphjcoopnaaAddLaw
namespace Go.Proofs.Yteiomphjcoopnaa
open Go.ChangeShapes Go.WideShapes Go.ChangeAt Go.RowKit
set_option linter.unusedVariables false

theorem set4_cells {W : World} {B : Nat} {v0 v1 v2 v3 u0 u1 u2 u3 : Value} (h0 : W.cell? ⟨B, 0, none⟩ = some u0) (h1 : W.cell? ⟨B, 1, none⟩ = some u1) (h2 : W.cell? ⟨B, 2, none⟩ = some u2) (h3 : W.cell? ⟨B, 3, none⟩ = some u3) :
    ((((W.setCell ⟨B, 0, none⟩ v0).setCell ⟨B, 1, none⟩ v1).setCell ⟨B, 2, none⟩ v2).setCell ⟨B, 3, none⟩ v3).cell? ⟨B, 0, none⟩ = some v0 ∧ ((((W.setCell ⟨B, 0, none⟩ v0).setCell ⟨B, 1, none⟩ v1).setCell ⟨B, 2, none⟩ v2).setCell ⟨B, 3, none⟩ v3).cell? ⟨B, 1, none⟩ = some v1 ∧ ((((W.setCell ⟨B, 0, none⟩ v0).setCell ⟨B, 1, none⟩ v1).setCell ⟨B, 2, none⟩ v2).setCell ⟨B, 3, none⟩ v3).cell? ⟨B, 2, none⟩ = some v2 ∧ ((((W.setCell ⟨B, 0, none⟩ v0).setCell ⟨B, 1, none⟩ v1).setCell ⟨B, 2, none⟩ v2).setCell ⟨B, 3, none⟩ v3).cell? ⟨B, 3, none⟩ = some v3 := by
  obtain ⟨a0, a1⟩ := set2_cells (v0 := v0) (v1 := v1) h0 h1
  have o : ∀ (X : World) (i j : Nat) (v : Value), i ≠ j → (X.setCell ⟨B, i, none⟩ v).cell? ⟨B, j, none⟩ = X.cell? ⟨B, j, none⟩ := fun X i j v hij => World.cell?_setCell_other _ _ _ _ (by first | (simp; done) | (simp; omega))
  have b2 : ((W.setCell ⟨B, 0, none⟩ v0).setCell ⟨B, 1, none⟩ v1).cell? ⟨B, 2, none⟩ = some u2 := by rw [o _ 1 2 _ (by omega), o _ 0 2 _ (by omega)]; exact h2
  have b3 : ((W.setCell ⟨B, 0, none⟩ v0).setCell ⟨B, 1, none⟩ v1).cell? ⟨B, 3, none⟩ = some u3 := by rw [o _ 1 3 _ (by omega), o _ 0 3 _ (by omega)]; exact h3
  have c2 : (((W.setCell ⟨B, 0, none⟩ v0).setCell ⟨B, 1, none⟩ v1).setCell ⟨B, 2, none⟩ v2).cell? ⟨B, 2, none⟩ = some v2 := World.cell?_setCell_same' _ _ _ (by rw [b2]; rfl)
  have c3 : (((W.setCell ⟨B, 0, none⟩ v0).setCell ⟨B, 1, none⟩ v1).setCell ⟨B, 2, none⟩ v2).cell? ⟨B, 3, none⟩ = some u3 := by rw [o _ 2 3 _ (by omega)]; exact b3
  refine ⟨?_, ?_, ?_, World.cell?_setCell_same' _ _ _ (by rw [c3]; rfl)⟩
  · rw [o _ 3 0 _ (by omega), o _ 2 0 _ (by omega)]; exact a0
  · rw [o _ 3 1 _ (by omega), o _ 2 1 _ (by omega)]; exact a1
  · rw [o _ 3 2 _ (by omega)]; exact c2

theorem hd_4 {b0 o0x0 o0x1 o0x2 o0x3 : Nat} {v0x0 v0x1 v0x2 v0x3 : Value} {W W' : World} (h : ((W.cell? ⟨b0, o0x0, none⟩ = some (v0x0) ∧ W.cell? ⟨b0, o0x1, none⟩ = some (v0x1) ∧ W.cell? ⟨b0, o0x2, none⟩ = some (v0x2) ∧ W.cell? ⟨b0, o0x3, none⟩ = some (v0x3)) ∧ b0 < W.heap.size)) (hb : Below W.heap.size W W') : ((W'.cell? ⟨b0, o0x0, none⟩ = some (v0x0) ∧ W'.cell? ⟨b0, o0x1, none⟩ = some (v0x1) ∧ W'.cell? ⟨b0, o0x2, none⟩ = some (v0x2) ∧ W'.cell? ⟨b0, o0x3, none⟩ = some (v0x3)) ∧ b0 < W'.heap.size) := by
  obtain ⟨⟨h0, h1, h2, h3⟩, s0⟩ := h
  refine ⟨⟨?_, ?_, ?_, ?_⟩, Nat.lt_of_lt_of_le s0 hb.size⟩
  · rw [hb.cell s0]; exact h0
  · rw [hb.cell s0]; exact h1
  · rw [hb.cell s0]; exact h2
  · rw [hb.cell s0]; exact h3

theorem hd_4_set {b0 o0x0 o0x1 o0x2 o0x3 : Nat} {v0x0 v0x1 v0x2 v0x3 : Value} {W : World} {p : Addr} (h : ((W.cell? ⟨b0, o0x0, none⟩ = some (v0x0) ∧ W.cell? ⟨b0, o0x1, none⟩ = some (v0x1) ∧ W.cell? ⟨b0, o0x2, none⟩ = some (v0x2) ∧ W.cell? ⟨b0, o0x3, none⟩ = some (v0x3)) ∧ b0 < W.heap.size)) (p0 : p.block ≠ b0) (u : Value) : (((W.setCell p u).cell? ⟨b0, o0x0, none⟩ = some (v0x0) ∧ (W.setCell p u).cell? ⟨b0, o0x1, none⟩ = some (v0x1) ∧ (W.setCell p u).cell? ⟨b0, o0x2, none⟩ = some (v0x2) ∧ (W.setCell p u).cell? ⟨b0, o0x3, none⟩ = some (v0x3)) ∧ b0 < (W.setCell p u).heap.size) := by
  obtain ⟨⟨h0, h1, h2, h3⟩, s0⟩ := h
  have hb : W.heap.size ≤ (W.setCell p u).heap.size := by simp [World.setCell]
  refine ⟨⟨?_, ?_, ?_, ?_⟩, Nat.lt_of_lt_of_le s0 hb⟩
  · rw [cell_set_ne p0]; exact h0
  · rw [cell_set_ne p0]; exact h1
  · rw [cell_set_ne p0]; exact h2
  · rw [cell_set_ne p0]; exact h3

theorem hd_4_re {b0 o0x0 o0x1 o0x2 o0x3 : Nat} {v0x0 v0x1 v0x2 v0x3 : Value} {W : World} {o o' : Obj} (h : (((W.alloc o).cell? ⟨b0, o0x0, none⟩ = some (v0x0) ∧ (W.alloc o).cell? ⟨b0, o0x1, none⟩ = some (v0x1) ∧ (W.alloc o).cell? ⟨b0, o0x2, none⟩ = some (v0x2) ∧ (W.alloc o).cell? ⟨b0, o0x3, none⟩ = some (v0x3)) ∧ b0 < (W.alloc o).heap.size)) (p0 : b0 < W.heap.size) : (((W.alloc o').cell? ⟨b0, o0x0, none⟩ = some (v0x0) ∧ (W.alloc o').cell? ⟨b0, o0x1, none⟩ = some (v0x1) ∧ (W.alloc o').cell? ⟨b0, o0x2, none⟩ = some (v0x2) ∧ (W.alloc o').cell? ⟨b0, o0x3, none⟩ = some (v0x3)) ∧ b0 < (W.alloc o').heap.size) := by
  obtain ⟨⟨h0, h1, h2, h3⟩, s0⟩ := h
  have hb : Below W.heap.size (W.alloc o) (W.alloc o') := bel_re W o o'
  refine ⟨⟨?_, ?_, ?_, ?_⟩, Nat.lt_of_lt_of_le s0 hb.size⟩
  · rw [hb.cell p0]; exact h0
  · rw [hb.cell p0]; exact h1
  · rw [hb.cell p0]; exact h2
  · rw [hb.cell p0]; exact h3

theorem hd_4_4 {b0 b1 o0x0 o0x1 o0x2 o0x3 o1x0 o1x1 o1x2 o1x3 : Nat} {v0x0 v0x1 v0x2 v0x3 v1x0 v1x1 v1x2 v1x3 : Value} {W W' : World} (h : ((W.cell? ⟨b0, o0x0, none⟩ = some (v0x0) ∧ W.cell? ⟨b0, o0x1, none⟩ = some (v0x1) ∧ W.cell? ⟨b0, o0x2, none⟩ = some (v0x2) ∧ W.cell? ⟨b0, o0x3, none⟩ = some (v0x3) ∧ W.cell? ⟨b1, o1x0, none⟩ = some (v1x0) ∧ W.cell? ⟨b1, o1x1, none⟩ = some (v1x1) ∧ W.cell? ⟨b1, o1x2, none⟩ = some (v1x2) ∧ W.cell? ⟨b1, o1x3, none⟩ = some (v1x3)) ∧ b0 < W.heap.size ∧ b1 < W.heap.size)) (hb : Below W.heap.size W W') : ((W'.cell? ⟨b0, o0x0, none⟩ = some (v0x0) ∧ W'.cell? ⟨b0, o0x1, none⟩ = some (v0x1) ∧ W'.cell? ⟨b0, o0x2, none⟩ = some (v0x2) ∧ W'.cell? ⟨b0, o0x3, none⟩ = some (v0x3) ∧ W'.cell? ⟨b1, o1x0, none⟩ = some (v1x0) ∧ W'.cell? ⟨b1, o1x1, none⟩ = some (v1x1) ∧ W'.cell? ⟨b1, o1x2, none⟩ = some (v1x2) ∧ W'.cell? ⟨b1, o1x3, none⟩ = some (v1x3)) ∧ b0 < W'.heap.size ∧ b1 < W'.heap.size) := by
  obtain ⟨⟨h0, h1, h2, h3, h4, h5, h6, h7⟩, s0, s1⟩ := h
  refine ⟨⟨?_, ?_, ?_, ?_, ?_, ?_, ?_, ?_⟩, Nat.lt_of_lt_of_le s0 hb.size, Nat.lt_of_lt_of_le s1 hb.size⟩
  · rw [hb.cell s0]; exact h0
  · rw [hb.cell s0]; exact h1
  · rw [hb.cell s0]; exact h2
  · rw [hb.cell s0]; exact h3
  · rw [hb.cell s1]; exact h4
  · rw [hb.cell s1]; exact h5
  · rw [hb.cell s1]; exact h6
  · rw [hb.cell s1]; exact h7

theorem hd_4_4_set {b0 b1 o0x0 o0x1 o0x2 o0x3 o1x0 o1x1 o1x2 o1x3 : Nat} {v0x0 v0x1 v0x2 v0x3 v1x0 v1x1 v1x2 v1x3 : Value} {W : World} {p : Addr} (h : ((W.cell? ⟨b0, o0x0, none⟩ = some (v0x0) ∧ W.cell? ⟨b0, o0x1, none⟩ = some (v0x1) ∧ W.cell? ⟨b0, o0x2, none⟩ = some (v0x2) ∧ W.cell? ⟨b0, o0x3, none⟩ = some (v0x3) ∧ W.cell? ⟨b1, o1x0, none⟩ = some (v1x0) ∧ W.cell? ⟨b1, o1x1, none⟩ = some (v1x1) ∧ W.cell? ⟨b1, o1x2, none⟩ = some (v1x2) ∧ W.cell? ⟨b1, o1x3, none⟩ = some (v1x3)) ∧ b0 < W.heap.size ∧ b1 < W.heap.size)) (p0 : p.block ≠ b0) (p1 : p.block ≠ b1) (u : Value) : (((W.setCell p u).cell? ⟨b0, o0x0, none⟩ = some (v0x0) ∧ (W.setCell p u).cell? ⟨b0, o0x1, none⟩ = some (v0x1) ∧ (W.setCell p u).cell? ⟨b0, o0x2, none⟩ = some (v0x2) ∧ (W.setCell p u).cell? ⟨b0, o0x3, none⟩ = some (v0x3) ∧ (W.setCell p u).cell? ⟨b1, o1x0, none⟩ = some (v1x0) ∧ (W.setCell p u).cell? ⟨b1, o1x1, none⟩ = some (v1x1) ∧ (W.setCell p u).cell? ⟨b1, o1x2, none⟩ = some (v1x2) ∧ (W.setCell p u).cell? ⟨b1, o1x3, none⟩ = some (v1x3)) ∧ b0 < (W.setCell p u).heap.size ∧ b1 < (W.setCell p u).heap.size) := by
  obtain ⟨⟨h0, h1, h2, h3, h4, h5, h6, h7⟩, s0, s1⟩ := h
  have hb : W.heap.size ≤ (W.setCell p u).heap.size := by simp [World.setCell]
  refine ⟨⟨?_, ?_, ?_, ?_, ?_, ?_, ?_, ?_⟩, Nat.lt_of_lt_of_le s0 hb, Nat.lt_of_lt_of_le s1 hb⟩
  · rw [cell_set_ne p0]; exact h0
  · rw [cell_set_ne p0]; exact h1
  · rw [cell_set_ne p0]; exact h2
  · rw [cell_set_ne p0]; exact h3
  · rw [cell_set_ne p1]; exact h4
  · rw [cell_set_ne p1]; exact h5
  · rw [cell_set_ne p1]; exact h6
  · rw [cell_set_ne p1]; exact h7

theorem hd_4_4_re {b0 b1 o0x0 o0x1 o0x2 o0x3 o1x0 o1x1 o1x2 o1x3 : Nat} {v0x0 v0x1 v0x2 v0x3 v1x0 v1x1 v1x2 v1x3 : Value} {W : World} {o o' : Obj} (h : (((W.alloc o).cell? ⟨b0, o0x0, none⟩ = some (v0x0) ∧ (W.alloc o).cell? ⟨b0, o0x1, none⟩ = some (v0x1) ∧ (W.alloc o).cell? ⟨b0, o0x2, none⟩ = some (v0x2) ∧ (W.alloc o).cell? ⟨b0, o0x3, none⟩ = some (v0x3) ∧ (W.alloc o).cell? ⟨b1, o1x0, none⟩ = some (v1x0) ∧ (W.alloc o).cell? ⟨b1, o1x1, none⟩ = some (v1x1) ∧ (W.alloc o).cell? ⟨b1, o1x2, none⟩ = some (v1x2) ∧ (W.alloc o).cell? ⟨b1, o1x3, none⟩ = some (v1x3)) ∧ b0 < (W.alloc o).heap.size ∧ b1 < (W.alloc o).heap.size)) (p0 : b0 < W.heap.size) (p1 : b1 < W.heap.size) : (((W.alloc o').cell? ⟨b0, o0x0, none⟩ = some (v0x0) ∧ (W.alloc o').cell? ⟨b0, o0x1, none⟩ = some (v0x1) ∧ (W.alloc o').cell? ⟨b0, o0x2, none⟩ = some (v0x2) ∧ (W.alloc o').cell? ⟨b0, o0x3, none⟩ = some (v0x3) ∧ (W.alloc o').cell? ⟨b1, o1x0, none⟩ = some (v1x0) ∧ (W.alloc o').cell? ⟨b1, o1x1, none⟩ = some (v1x1) ∧ (W.alloc o').cell? ⟨b1, o1x2, none⟩ = some (v1x2) ∧ (W.alloc o').cell? ⟨b1, o1x3, none⟩ = some (v1x3)) ∧ b0 < (W.alloc o').heap.size ∧ b1 < (W.alloc o').heap.size) := by
  obtain ⟨⟨h0, h1, h2, h3, h4, h5, h6, h7⟩, s0, s1⟩ := h
  have hb : Below W.heap.size (W.alloc o) (W.alloc o') := bel_re W o o'
  refine ⟨⟨?_, ?_, ?_, ?_, ?_, ?_, ?_, ?_⟩, Nat.lt_of_lt_of_le s0 hb.size, Nat.lt_of_lt_of_le s1 hb.size⟩
  · rw [hb.cell p0]; exact h0
  · rw [hb.cell p0]; exact h1
  · rw [hb.cell p0]; exact h2
  · rw [hb.cell p0]; exact h3
  · rw [hb.cell p1]; exact h4
  · rw [hb.cell p1]; exact h5
  · rw [hb.cell p1]; exact h6
  · rw [hb.cell p1]; exact h7

theorem hd_4_4_4 {b0 b1 b2 o0x0 o0x1 o0x2 o0x3 o1x0 o1x1 o1x2 o1x3 o2x0 o2x1 o2x2 o2x3 : Nat} {v0x0 v0x1 v0x2 v0x3 v1x0 v1x1 v1x2 v1x3 v2x0 v2x1 v2x2 v2x3 : Value} {W W' : World} (h : ((W.cell? ⟨b0, o0x0, none⟩ = some (v0x0) ∧ W.cell? ⟨b0, o0x1, none⟩ = some (v0x1) ∧ W.cell? ⟨b0, o0x2, none⟩ = some (v0x2) ∧ W.cell? ⟨b0, o0x3, none⟩ = some (v0x3) ∧ W.cell? ⟨b1, o1x0, none⟩ = some (v1x0) ∧ W.cell? ⟨b1, o1x1, none⟩ = some (v1x1) ∧ W.cell? ⟨b1, o1x2, none⟩ = some (v1x2) ∧ W.cell? ⟨b1, o1x3, none⟩ = some (v1x3) ∧ W.cell? ⟨b2, o2x0, none⟩ = some (v2x0) ∧ W.cell? ⟨b2, o2x1, none⟩ = some (v2x1) ∧ W.cell? ⟨b2, o2x2, none⟩ = some (v2x2) ∧ W.cell? ⟨b2, o2x3, none⟩ = some (v2x3)) ∧ b0 < W.heap.size ∧ b1 < W.heap.size ∧ b2 < W.heap.size)) (hb : Below W.heap.size W W') : ((W'.cell? ⟨b0, o0x0, none⟩ = some (v0x0) ∧ W'.cell? ⟨b0, o0x1, none⟩ = some (v0x1) ∧ W'.cell? ⟨b0, o0x2, none⟩ = some (v0x2) ∧ W'.cell? ⟨b0, o0x3, none⟩ = some (v0x3) ∧ W'.cell? ⟨b1, o1x0, none⟩ = some (v1x0) ∧ W'.cell? ⟨b1, o1x1, none⟩ = some (v1x1) ∧ W'.cell? ⟨b1, o1x2, none⟩ = some (v1x2) ∧ W'.cell? ⟨b1, o1x3, none⟩ = some (v1x3) ∧ W'.cell? ⟨b2, o2x0, none⟩ = some (v2x0) ∧ W'.cell? ⟨b2, o2x1, none⟩ = some (v2x1) ∧ W'.cell? ⟨b2, o2x2, none⟩ = some (v2x2) ∧ W'.cell? ⟨b2, o2x3, none⟩ = some (v2x3)) ∧ b0 < W'.heap.size ∧ b1 < W'.heap.size ∧ b2 < W'.heap.size) := by
  obtain ⟨⟨h0, h1, h2, h3, h4, h5, h6, h7, h8, h9, h10, h11⟩, s0, s1, s2⟩ := h
  refine ⟨⟨?_, ?_, ?_, ?_, ?_, ?_, ?_, ?_, ?_, ?_, ?_, ?_⟩, Nat.lt_of_lt_of_le s0 hb.size, Nat.lt_of_lt_of_le s1 hb.size, Nat.lt_of_lt_of_le s2 hb.size⟩
  · rw [hb.cell s0]; exact h0
  · rw [hb.cell s0]; exact h1
  · rw [hb.cell s0]; exact h2
  · rw [hb.cell s0]; exact h3
  · rw [hb.cell s1]; exact h4
  · rw [hb.cell s1]; exact h5
  · rw [hb.cell s1]; exact h6
  · rw [hb.cell s1]; exact h7
  · rw [hb.cell s2]; exact h8
  · rw [hb.cell s2]; exact h9
  · rw [hb.cell s2]; exact h10
  · rw [hb.cell s2]; exact h11

theorem hd_4_4_4_set {b0 b1 b2 o0x0 o0x1 o0x2 o0x3 o1x0 o1x1 o1x2 o1x3 o2x0 o2x1 o2x2 o2x3 : Nat} {v0x0 v0x1 v0x2 v0x3 v1x0 v1x1 v1x2 v1x3 v2x0 v2x1 v2x2 v2x3 : Value} {W : World} {p : Addr} (h : ((W.cell? ⟨b0, o0x0, none⟩ = some (v0x0) ∧ W.cell? ⟨b0, o0x1, none⟩ = some (v0x1) ∧ W.cell? ⟨b0, o0x2, none⟩ = some (v0x2) ∧ W.cell? ⟨b0, o0x3, none⟩ = some (v0x3) ∧ W.cell? ⟨b1, o1x0, none⟩ = some (v1x0) ∧ W.cell? ⟨b1, o1x1, none⟩ = some (v1x1) ∧ W.cell? ⟨b1, o1x2, none⟩ = some (v1x2) ∧ W.cell? ⟨b1, o1x3, none⟩ = some (v1x3) ∧ W.cell? ⟨b2, o2x0, none⟩ = some (v2x0) ∧ W.cell? ⟨b2, o2x1, none⟩ = some (v2x1) ∧ W.cell? ⟨b2, o2x2, none⟩ = some (v2x2) ∧ W.cell? ⟨b2, o2x3, none⟩ = some (v2x3)) ∧ b0 < W.heap.size ∧ b1 < W.heap.size ∧ b2 < W.heap.size)) (p0 : p.block ≠ b0) (p1 : p.block ≠ b1) (p2 : p.block ≠ b2) (u : Value) : (((W.setCell p u).cell? ⟨b0, o0x0, none⟩ = some (v0x0) ∧ (W.setCell p u).cell? ⟨b0, o0x1, none⟩ = some (v0x1) ∧ (W.setCell p u).cell? ⟨b0, o0x2, none⟩ = some (v0x2) ∧ (W.setCell p u).cell? ⟨b0, o0x3, none⟩ = some (v0x3) ∧ (W.setCell p u).cell? ⟨b1, o1x0, none⟩ = some (v1x0) ∧ (W.setCell p u).cell? ⟨b1, o1x1, none⟩ = some (v1x1) ∧ (W.setCell p u).cell? ⟨b1, o1x2, none⟩ = some (v1x2) ∧ (W.setCell p u).cell? ⟨b1, o1x3, none⟩ = some (v1x3) ∧ (W.setCell p u).cell? ⟨b2, o2x0, none⟩ = some (v2x0) ∧ (W.setCell p u).cell? ⟨b2, o2x1, none⟩ = some (v2x1) ∧ (W.setCell p u).cell? ⟨b2, o2x2, none⟩ = some (v2x2) ∧ (W.setCell p u).cell? ⟨b2, o2x3, none⟩ = some (v2x3)) ∧ b0 < (W.setCell p u).heap.size ∧ b1 < (W.setCell p u).heap.size ∧ b2 < (W.setCell p u).heap.size) := by
  obtain ⟨⟨h0, h1, h2, h3, h4, h5, h6, h7, h8, h9, h10, h11⟩, s0, s1, s2⟩ := h
  have hb : W.heap.size ≤ (W.setCell p u).heap.size := by simp [World.setCell]
  refine ⟨⟨?_, ?_, ?_, ?_, ?_, ?_, ?_, ?_, ?_, ?_, ?_, ?_⟩, Nat.lt_of_lt_of_le s0 hb, Nat.lt_of_lt_of_le s1 hb, Nat.lt_of_lt_of_le s2 hb⟩
  · rw [cell_set_ne p0]; exact h0
  · rw [cell_set_ne p0]; exact h1
  · rw [cell_set_ne p0]; exact h2
  · rw [cell_set_ne p0]; exact h3
  · rw [cell_set_ne p1]; exact h4
  · rw [cell_set_ne p1]; exact h5
  · rw [cell_set_ne p1]; exact h6
  · rw [cell_set_ne p1]; exact h7
  · rw [cell_set_ne p2]; exact h8
  · rw [cell_set_ne p2]; exact h9
  · rw [cell_set_ne p2]; exact h10
  · rw [cell_set_ne p2]; exact h11

theorem hd_4_4_4_re {b0 b1 b2 o0x0 o0x1 o0x2 o0x3 o1x0 o1x1 o1x2 o1x3 o2x0 o2x1 o2x2 o2x3 : Nat} {v0x0 v0x1 v0x2 v0x3 v1x0 v1x1 v1x2 v1x3 v2x0 v2x1 v2x2 v2x3 : Value} {W : World} {o o' : Obj} (h : (((W.alloc o).cell? ⟨b0, o0x0, none⟩ = some (v0x0) ∧ (W.alloc o).cell? ⟨b0, o0x1, none⟩ = some (v0x1) ∧ (W.alloc o).cell? ⟨b0, o0x2, none⟩ = some (v0x2) ∧ (W.alloc o).cell? ⟨b0, o0x3, none⟩ = some (v0x3) ∧ (W.alloc o).cell? ⟨b1, o1x0, none⟩ = some (v1x0) ∧ (W.alloc o).cell? ⟨b1, o1x1, none⟩ = some (v1x1) ∧ (W.alloc o).cell? ⟨b1, o1x2, none⟩ = some (v1x2) ∧ (W.alloc o).cell? ⟨b1, o1x3, none⟩ = some (v1x3) ∧ (W.alloc o).cell? ⟨b2, o2x0, none⟩ = some (v2x0) ∧ (W.alloc o).cell? ⟨b2, o2x1, none⟩ = some (v2x1) ∧ (W.alloc o).cell? ⟨b2, o2x2, none⟩ = some (v2x2) ∧ (W.alloc o).cell? ⟨b2, o2x3, none⟩ = some (v2x3)) ∧ b0 < (W.alloc o).heap.size ∧ b1 < (W.alloc o).heap.size ∧ b2 < (W.alloc o).heap.size)) (p0 : b0 < W.heap.size) (p1 : b1 < W.heap.size) (p2 : b2 < W.heap.size) : (((W.alloc o').cell? ⟨b0, o0x0, none⟩ = some (v0x0) ∧ (W.alloc o').cell? ⟨b0, o0x1, none⟩ = some (v0x1) ∧ (W.alloc o').cell? ⟨b0, o0x2, none⟩ = some (v0x2) ∧ (W.alloc o').cell? ⟨b0, o0x3, none⟩ = some (v0x3) ∧ (W.alloc o').cell? ⟨b1, o1x0, none⟩ = some (v1x0) ∧ (W.alloc o').cell? ⟨b1, o1x1, none⟩ = some (v1x1) ∧ (W.alloc o').cell? ⟨b1, o1x2, none⟩ = some (v1x2) ∧ (W.alloc o').cell? ⟨b1, o1x3, none⟩ = some (v1x3) ∧ (W.alloc o').cell? ⟨b2, o2x0, none⟩ = some (v2x0) ∧ (W.alloc o').cell? ⟨b2, o2x1, none⟩ = some (v2x1) ∧ (W.alloc o').cell? ⟨b2, o2x2, none⟩ = some (v2x2) ∧ (W.alloc o').cell? ⟨b2, o2x3, none⟩ = some (v2x3)) ∧ b0 < (W.alloc o').heap.size ∧ b1 < (W.alloc o').heap.size ∧ b2 < (W.alloc o').heap.size) := by
  obtain ⟨⟨h0, h1, h2, h3, h4, h5, h6, h7, h8, h9, h10, h11⟩, s0, s1, s2⟩ := h
  have hb : Below W.heap.size (W.alloc o) (W.alloc o') := bel_re W o o'
  refine ⟨⟨?_, ?_, ?_, ?_, ?_, ?_, ?_, ?_, ?_, ?_, ?_, ?_⟩, Nat.lt_of_lt_of_le s0 hb.size, Nat.lt_of_lt_of_le s1 hb.size, Nat.lt_of_lt_of_le s2 hb.size⟩
  · rw [hb.cell p0]; exact h0
  · rw [hb.cell p0]; exact h1
  · rw [hb.cell p0]; exact h2
  · rw [hb.cell p0]; exact h3
  · rw [hb.cell p1]; exact h4
  · rw [hb.cell p1]; exact h5
  · rw [hb.cell p1]; exact h6
  · rw [hb.cell p1]; exact h7
  · rw [hb.cell p2]; exact h8
  · rw [hb.cell p2]; exact h9
  · rw [hb.cell p2]; exact h10
  · rw [hb.cell p2]; exact h11

set_option maxHeartbeats 4000000 in
theorem lawAggBoth (n s l m n' s' l' m' : Int) (w : World) : Calls Try.prog 4 #[.agg #[.int .i64 n, .int .i64 s, .int .i64 l, .int .i64 m], .agg #[.int .i64 n', .int .i64 s', .int .i64 l', .int .i64 m']] w fun e w' => e = .returned (.bool true) ∧ Below w.heap.size w w' := by
  go_enter Try.func4, Try.ntmps4
  go_wp2
  go_cut [5] (fun p W => ∃ B : Nat, p = .pointer (some ⟨B, 0, none⟩) ∧ (W.cell? ⟨B, 0, none⟩ = some (.int .i64 (bo n n' n n' (wrap64 (n + n')))) ∧ W.cell? ⟨B, 1, none⟩ = some (.int .i64 (bo n n' s s' (wrap64 (s + s')))) ∧ W.cell? ⟨B, 2, none⟩ = some (.int .i64 (bo n n' l l' (loI l l'))) ∧ W.cell? ⟨B, 3, none⟩ = some (.int .i64 (bo n n' m m' (hiI m m')))) ∧ B < W.heap.size ∧ ((W.cell? ⟨w.heap.size, 0, none⟩ = some (.int .i64 n) ∧ W.cell? ⟨w.heap.size, 1, none⟩ = some (.int .i64 s) ∧ W.cell? ⟨w.heap.size, 2, none⟩ = some (.int .i64 l) ∧ W.cell? ⟨w.heap.size, 3, none⟩ = some (.int .i64 m) ∧ W.cell? ⟨w.heap.size + 1, 0, none⟩ = some (.int .i64 n') ∧ W.cell? ⟨w.heap.size + 1, 1, none⟩ = some (.int .i64 s') ∧ W.cell? ⟨w.heap.size + 1, 2, none⟩ = some (.int .i64 l') ∧ W.cell? ⟨w.heap.size + 1, 3, none⟩ = some (.int .i64 m')) ∧ w.heap.size < W.heap.size ∧ w.heap.size + 1 < W.heap.size) ∧ Below w.heap.size w W)
  case first =>
    go_region_held3 (fun W => ((W.cell? ⟨w.heap.size, 0, none⟩ = some (.int .i64 n) ∧ W.cell? ⟨w.heap.size, 1, none⟩ = some (.int .i64 s) ∧ W.cell? ⟨w.heap.size, 2, none⟩ = some (.int .i64 l) ∧ W.cell? ⟨w.heap.size, 3, none⟩ = some (.int .i64 m) ∧ W.cell? ⟨w.heap.size + 1, 0, none⟩ = some (.int .i64 n') ∧ W.cell? ⟨w.heap.size + 1, 1, none⟩ = some (.int .i64 s') ∧ W.cell? ⟨w.heap.size + 1, 2, none⟩ = some (.int .i64 l') ∧ W.cell? ⟨w.heap.size + 1, 3, none⟩ = some (.int .i64 m')) ∧ w.heap.size < W.heap.size ∧ w.heap.size + 1 < W.heap.size)) ((first | ((repeat (first | (with_reducible assumption) | (with_reducible refine hd_4_4 ?_ (by with_reducible assumption)) | (with_reducible refine hd_4_4 ?_ (bel_drew (Below.refl _ _))) | (with_reducible exact hd_4_4_re (by with_reducible assumption) (by first | omega | (simp; done) | (simp; omega)) (by first | omega | (simp; done) | (simp; omega))) | (with_reducible refine hd_4_4 ?_ (bel_one _ _)) | (with_reducible refine hd_4_4_set ?_ (by first | omega | (simp; done) | (simp; omega)) (by first | omega | (simp; done) | (simp; omega)) _))); done) | (refine ⟨⟨?_, ?_, ?_, ?_, ?_, ?_, ?_, ?_⟩, ?_, ?_⟩ <;> first | (go_keep; done) | (simp; done) | (simp; omega) | omega)))
      (first
      | (go_at_call 11; refine (toAgg_any _ _ _ _ _).mono ?_; rintro e w' ⟨rfl, hb⟩; obtain ⟨hc, hf, hs⟩ := bcell hb; (try have hz0 : w.heap.size < w'.heap.size := (by have h9 := hb.size; (try simp at h9); omega)); (try have hz1 : w.heap.size + 1 < w'.heap.size := (by have h9 := hb.size; (try simp at h9); omega)); (try have hz2 : w.heap.size + 2 < w'.heap.size := (by have h9 := hb.size; (try simp at h9); omega)))
      | (go_at_call 13; refine (specboth_any _ _ _ _ _ _ _ _ _).mono ?_; rintro e w' ⟨rfl, hb⟩; obtain ⟨hc, hf, hs⟩ := bcell hb; (try have hz0 : w.heap.size < w'.heap.size := (by have h9 := hb.size; (try simp at h9); omega)); (try have hz1 : w.heap.size + 1 < w'.heap.size := (by have h9 := hb.size; (try simp at h9); omega)); (try have hz2 : w.heap.size + 2 < w'.heap.size := (by have h9 := hb.size; (try simp at h9); omega))))
    all_goals
      go_wp2
      go_meet
      refine ⟨_, rfl, ?_, ?_, by assumption, (by repeat (first | (with_reducible refine bel_set ?_ (by first | (simp; done) | (simp; omega)) _) | (with_reducible refine bel_alloc ?_ _) | (with_reducible exact Below.refl _ _) | (with_reducible assumption) | (with_reducible refine bel_drew ?_) | (with_reducible refine bel_drewN ?_ _) | (with_reducible refine bel_trans ?_ (by with_reducible assumption))))⟩
    all_goals first | (go_keep; done) | (simp; done) | (simp; omega) | omega | (refine ⟨?_, ?_, ?_, ?_⟩ <;> first | (go_keep; done) | (simp; done)) | exact set4_cells (u0 := .int .i64 0) (u1 := .int .i64 0) (u2 := .int .i64 0) (u3 := .int .i64 0) (by simp (maxDischargeDepth := 9) [go_sem, *]) (by simp (maxDischargeDepth := 9) [go_sem, *]) (by simp (maxDischargeDepth := 9) [go_sem, *]) (by simp (maxDischargeDepth := 9) [go_sem, *])
  case rest =>
    obtain ⟨B, rfl, ⟨hB0, hB1, hB2, hB3⟩, hBs, ⟨⟨hA0, hA1, hA2, hA3, hA4, hA5, hA6, hA7⟩, hs0, hs1⟩, hbw⟩ := hcut
    go_wp2
    go_cut [6] (fun p W => ∃ C : Nat, p = .pointer (some ⟨C, 0, none⟩) ∧ (W.cell? ⟨C, 0, none⟩ = some (.int .i64 (bo n n' n n' (wrap64 (n + n')))) ∧ W.cell? ⟨C, 1, none⟩ = some (.int .i64 (bo n n' s s' (wrap64 (s + s')))) ∧ W.cell? ⟨C, 2, none⟩ = some (.int .i64 (bo n n' l l' (loI l l'))) ∧ W.cell? ⟨C, 3, none⟩ = some (.int .i64 (bo n n' m m' (hiI m m')))) ∧ C < W.heap.size ∧ ((W.cell? ⟨w.heap.size, 0, none⟩ = some (.int .i64 n) ∧ W.cell? ⟨w.heap.size, 1, none⟩ = some (.int .i64 s) ∧ W.cell? ⟨w.heap.size, 2, none⟩ = some (.int .i64 l) ∧ W.cell? ⟨w.heap.size, 3, none⟩ = some (.int .i64 m) ∧ W.cell? ⟨w.heap.size + 1, 0, none⟩ = some (.int .i64 n') ∧ W.cell? ⟨w.heap.size + 1, 1, none⟩ = some (.int .i64 s') ∧ W.cell? ⟨w.heap.size + 1, 2, none⟩ = some (.int .i64 l') ∧ W.cell? ⟨w.heap.size + 1, 3, none⟩ = some (.int .i64 m') ∧ W.cell? ⟨B, 0, none⟩ = some (.int .i64 (bo n n' n n' (wrap64 (n + n')))) ∧ W.cell? ⟨B, 1, none⟩ = some (.int .i64 (bo n n' s s' (wrap64 (s + s')))) ∧ W.cell? ⟨B, 2, none⟩ = some (.int .i64 (bo n n' l l' (loI l l'))) ∧ W.cell? ⟨B, 3, none⟩ = some (.int .i64 (bo n n' m m' (hiI m m')))) ∧ w.heap.size < W.heap.size ∧ w.heap.size + 1 < W.heap.size ∧ B < W.heap.size) ∧ Below w.heap.size w W)
    case first =>
      go_region_held3 (fun W => ((W.cell? ⟨w.heap.size, 0, none⟩ = some (.int .i64 n) ∧ W.cell? ⟨w.heap.size, 1, none⟩ = some (.int .i64 s) ∧ W.cell? ⟨w.heap.size, 2, none⟩ = some (.int .i64 l) ∧ W.cell? ⟨w.heap.size, 3, none⟩ = some (.int .i64 m) ∧ W.cell? ⟨w.heap.size + 1, 0, none⟩ = some (.int .i64 n') ∧ W.cell? ⟨w.heap.size + 1, 1, none⟩ = some (.int .i64 s') ∧ W.cell? ⟨w.heap.size + 1, 2, none⟩ = some (.int .i64 l') ∧ W.cell? ⟨w.heap.size + 1, 3, none⟩ = some (.int .i64 m') ∧ W.cell? ⟨B, 0, none⟩ = some (.int .i64 (bo n n' n n' (wrap64 (n + n')))) ∧ W.cell? ⟨B, 1, none⟩ = some (.int .i64 (bo n n' s s' (wrap64 (s + s')))) ∧ W.cell? ⟨B, 2, none⟩ = some (.int .i64 (bo n n' l l' (loI l l'))) ∧ W.cell? ⟨B, 3, none⟩ = some (.int .i64 (bo n n' m m' (hiI m m')))) ∧ w.heap.size < W.heap.size ∧ w.heap.size + 1 < W.heap.size ∧ B < W.heap.size)) ((first | ((repeat (first | (with_reducible assumption) | (with_reducible refine hd_4_4_4 ?_ (by with_reducible assumption)) | (with_reducible refine hd_4_4_4 ?_ (bel_drew (Below.refl _ _))) | (with_reducible exact hd_4_4_4_re (by with_reducible assumption) (by first | omega | (simp; done) | (simp; omega)) (by first | omega | (simp; done) | (simp; omega)) (by first | omega | (simp; done) | (simp; omega))) | (with_reducible refine hd_4_4_4 ?_ (bel_one _ _)) | (with_reducible refine hd_4_4_4_set ?_ (by first | omega | (simp; done) | (simp; omega)) (by first | omega | (simp; done) | (simp; omega)) (by first | omega | (simp; done) | (simp; omega)) _))); done) | (refine ⟨⟨?_, ?_, ?_, ?_, ?_, ?_, ?_, ?_, ?_, ?_, ?_, ?_⟩, ?_, ?_, ?_⟩ <;> first | (go_keep; done) | (simp; done) | (simp; omega) | omega)))
        (first
        | (go_at_call 11; refine (toAgg_any _ _ _ _ _).mono ?_; rintro e w' ⟨rfl, hb⟩; obtain ⟨hc, hf, hs⟩ := bcell hb; (try have hz0 : w.heap.size < w'.heap.size := (by have h9 := hb.size; (try simp at h9); omega)); (try have hz1 : w.heap.size + 1 < w'.heap.size := (by have h9 := hb.size; (try simp at h9); omega)); (try have hz2 : B < w'.heap.size := (by have h9 := hb.size; (try simp at h9); omega)); (try have hz3 : wc.heap.size < w'.heap.size := (by have h9 := hb.size; (try simp at h9); omega)))
        | (go_at_call 14; refine (implboth_any _ _ _ _ _ _ _ _ _).mono ?_; rintro e w' ⟨rfl, hb⟩; obtain ⟨hc, hf, hs⟩ := bcell hb; (try have hz0 : w.heap.size < w'.heap.size := (by have h9 := hb.size; (try simp at h9); omega)); (try have hz1 : w.heap.size + 1 < w'.heap.size := (by have h9 := hb.size; (try simp at h9); omega)); (try have hz2 : B < w'.heap.size := (by have h9 := hb.size; (try simp at h9); omega)); (try have hz3 : wc.heap.size < w'.heap.size := (by have h9 := hb.size; (try simp at h9); omega))))
      all_goals
        go_wp2
        go_meet
        refine ⟨_, rfl, ?_, ?_, by assumption, (by repeat (first | (with_reducible refine bel_set ?_ (by first | (simp; done) | (simp; omega)) _) | (with_reducible refine bel_alloc ?_ _) | (with_reducible exact Below.refl _ _) | (with_reducible assumption) | (with_reducible refine bel_drew ?_) | (with_reducible refine bel_drewN ?_ _) | (with_reducible refine bel_trans ?_ (by with_reducible assumption))))⟩
      all_goals first | (go_keep; done) | (simp; done) | (simp; omega) | omega | (refine ⟨?_, ?_, ?_, ?_⟩ <;> first | (go_keep; done) | (simp; done)) | exact set4_cells (u0 := .int .i64 0) (u1 := .int .i64 0) (u2 := .int .i64 0) (u3 := .int .i64 0) (by simp (maxDischargeDepth := 9) [go_sem, *]) (by simp (maxDischargeDepth := 9) [go_sem, *]) (by simp (maxDischargeDepth := 9) [go_sem, *]) (by simp (maxDischargeDepth := 9) [go_sem, *])
    case rest =>
      obtain ⟨C, rfl, ⟨hC0, hC1, hC2, hC3⟩, hCs, ⟨⟨hD0, hD1, hD2, hD3, hD4, hD5, hD6, hD7, hD8, hD9, hD10, hD11⟩, ht0, ht1, ht2⟩, hbx⟩ := hcut
      go_wp2_with (first
    | (go_at_call 15; refine (eqAgg_any _ _ _ _ _).mono ?_; rintro e w' ⟨rfl, hb⟩; obtain ⟨hc, hf, hs⟩ := bcell hb))
      go_ret
      exact ⟨rfl, (by repeat (first | (with_reducible refine bel_set ?_ (by first | (simp; done) | (simp; omega)) _) | (with_reducible refine bel_alloc ?_ _) | (with_reducible exact Below.refl _ _) | (with_reducible assumption) | (with_reducible refine bel_drew ?_) | (with_reducible refine bel_drewN ?_ _) | (with_reducible refine bel_trans ?_ (by with_reducible assumption))))⟩

end Go.Proofs.Yteiomphjcoopnaa
