/- Proved here: the law on CkpOk returns true at every argument. -/
import Derived.Test.YthndkapaepmjpaaCkpS4
import Derived.Test.YthndkapaepmjpaaCkpI4
namespace Go.Proofs.Ythndkapaepmjpaa
open Go.ChangeShapes Go.WideShapes Go.ChangeAt Go.RowKit Go.Deep
set_option linter.unusedVariables false

theorem szCk_any (x : CkD) (a2 : Option Addr) (l2 c2 : Nat) (a3 : Option Addr) (l3 c3 : Nat) (a4 : Option Addr) (l4 c4 : Nat) (a6 : Option Addr) (l6 c6 : Nat) (a7 : Option Addr) (l7 c7 : Nat) (w : World) (h : CkIs w 0 a2 l2 a3 l3 a4 l4 a6 l6 a7 l7 x) : Calls Try.prog 13 #[.agg #[.int .i64 x.n, .bool x.op, .slice a2 l2 c2, .slice a3 l3 c3, .slice a4 l4 c4, .int .i64 x.sfn, .slice a6 l6 c6, .slice a7 l7 c7], .int .i64 1048576] w fun e w' => SzP 1048576 (l2 ≤ 1048576 ∧ l3 ≤ 1048576 ∧ (l4 ≤ 1048576 ∧ ∀ y ∈ x.sn, y.sm) ∧ l6 ≤ 1048576 ∧ (l7 ≤ 1048576 ∧ ∀ y ∈ x.ssn, y.sm)) e ∧ Below w.heap.size w w' := szCk_one x a2 l2 c2 a3 l3 c3 a4 l4 c4 a6 l6 c6 a7 l7 c7 1048576 w h.src h.tsk h.sn h.at_ h.ssn (by omega) (by omega)
theorem toCk_any (x : CkD) (a2 : Option Addr) (l2 c2 : Nat) (a3 : Option Addr) (l3 c3 : Nat) (a4 : Option Addr) (l4 c4 : Nat) (a6 : Option Addr) (l6 c6 : Nat) (a7 : Option Addr) (l7 c7 : Nat) (w : World) (h : CkIs w 0 a2 l2 a3 l3 a4 l4 a6 l6 a7 l7 x) (k : (l2 ≤ 1048576 ∧ l3 ≤ 1048576 ∧ (l4 ≤ 1048576 ∧ ∀ y ∈ x.sn, y.sm) ∧ l6 ≤ 1048576 ∧ (l7 ≤ 1048576 ∧ ∀ y ∈ x.ssn, y.sm))) : Calls Try.prog 15 #[.agg #[.int .i64 x.n, .bool x.op, .slice a2 l2 c2, .slice a3 l3 c3, .slice a4 l4 c4, .int .i64 x.sfn, .slice a6 l6 c6, .slice a7 l7 c7]] w fun e w' => ∃ a2' a3' a4' a6' a7', e = .returned (.agg #[.int .i64 x.n, .bool x.op, .slice a2' l2 l2, .slice a3' l3 l3, .slice a4' l4 l4, .int .i64 x.sfn, .slice a6' l6 l6, .slice a7' l7 l7]) ∧ CkIs w' w.heap.size a2' l2 a3' l3 a4' l4 a6' l6 a7' l7 x ∧ Below w.heap.size w w' :=
  (toCk_one x a2 l2 c2 a3 l3 c3 a4 l4 c4 a6 l6 c6 a7 l7 c7 w h.src h.tsk h.sn h.at_ h.ssn k.1 k.2.1 k.2.2.1 k.2.2.2.1 k.2.2.2.2).mono fun e w' ⟨b2, b3, b4, b6, b7, he, H2, H3, H4, H6, H7, hb⟩ => ⟨b2, b3, b4, b6, b7, he, ⟨H2, H3, H4, H6, H7⟩, hb⟩
theorem eqCk_any (B1 B2 : Nat) (x : CkD) (a2x a2y : Option Addr) (l2 c2x c2y : Nat) (a3x a3y : Option Addr) (l3 c3x c3y : Nat) (a4x a4y : Option Addr) (l4 c4x c4y : Nat) (a6x a6y : Option Addr) (l6 c6x c6y : Nat) (a7x a7y : Option Addr) (l7 c7x c7y : Nat) (w : World) (h1 : CkIs w B1 a2x l2 a3x l3 a4x l4 a6x l6 a7x l7 x) (h2 : CkIs w B2 a2y l2 a3y l3 a4y l4 a6y l6 a7y l7 x) : Calls Try.prog 10 #[.agg #[.int .i64 x.n, .bool x.op, .slice a2x l2 c2x, .slice a3x l3 c3x, .slice a4x l4 c4x, .int .i64 x.sfn, .slice a6x l6 c6x, .slice a7x l7 c7x], .agg #[.int .i64 x.n, .bool x.op, .slice a2y l2 c2y, .slice a3y l3 c3y, .slice a4y l4 c4y, .int .i64 x.sfn, .slice a6y l6 c6y, .slice a7y l7 c7y]] w fun e w' => e = .returned (.bool true) ∧ Below w.heap.size w w' := eqCk_one B1 B2 x a2x a2y l2 c2x c2y a3x a3y l3 c3x c3y a4x a4y l4 c4x c4y a6x a6y l6 c6x c6y a7x a7y l7 c7x c7y w h1.src h2.src h1.tsk h2.tsk h1.sn h2.sn h1.at_ h2.at_ h1.ssn h2.ssn
theorem hd_10_8 {b0 b1 o0x0 o0x1 o0x2 o0x3 o0x4 o0x5 o0x6 o0x7 o0x8 o0x9 o1x0 o1x1 o1x2 o1x3 o1x4 o1x5 o1x6 o1x7 : Nat} {v0x0 v0x1 v0x2 v0x3 v0x4 v0x5 v0x6 v0x7 v0x8 v0x9 v1x0 v1x1 v1x2 v1x3 v1x4 v1x5 v1x6 v1x7 : Value} {W W' : World} (h : ((W.cell? ⟨b0, o0x0, none⟩ = some (v0x0) ∧ W.cell? ⟨b0, o0x1, none⟩ = some (v0x1) ∧ W.cell? ⟨b0, o0x2, none⟩ = some (v0x2) ∧ W.cell? ⟨b0, o0x3, none⟩ = some (v0x3) ∧ W.cell? ⟨b0, o0x4, none⟩ = some (v0x4) ∧ W.cell? ⟨b0, o0x5, none⟩ = some (v0x5) ∧ W.cell? ⟨b0, o0x6, none⟩ = some (v0x6) ∧ W.cell? ⟨b0, o0x7, none⟩ = some (v0x7) ∧ W.cell? ⟨b0, o0x8, none⟩ = some (v0x8) ∧ W.cell? ⟨b0, o0x9, none⟩ = some (v0x9) ∧ W.cell? ⟨b1, o1x0, none⟩ = some (v1x0) ∧ W.cell? ⟨b1, o1x1, none⟩ = some (v1x1) ∧ W.cell? ⟨b1, o1x2, none⟩ = some (v1x2) ∧ W.cell? ⟨b1, o1x3, none⟩ = some (v1x3) ∧ W.cell? ⟨b1, o1x4, none⟩ = some (v1x4) ∧ W.cell? ⟨b1, o1x5, none⟩ = some (v1x5) ∧ W.cell? ⟨b1, o1x6, none⟩ = some (v1x6) ∧ W.cell? ⟨b1, o1x7, none⟩ = some (v1x7)) ∧ b0 < W.heap.size ∧ b1 < W.heap.size)) (hb : Below W.heap.size W W') : ((W'.cell? ⟨b0, o0x0, none⟩ = some (v0x0) ∧ W'.cell? ⟨b0, o0x1, none⟩ = some (v0x1) ∧ W'.cell? ⟨b0, o0x2, none⟩ = some (v0x2) ∧ W'.cell? ⟨b0, o0x3, none⟩ = some (v0x3) ∧ W'.cell? ⟨b0, o0x4, none⟩ = some (v0x4) ∧ W'.cell? ⟨b0, o0x5, none⟩ = some (v0x5) ∧ W'.cell? ⟨b0, o0x6, none⟩ = some (v0x6) ∧ W'.cell? ⟨b0, o0x7, none⟩ = some (v0x7) ∧ W'.cell? ⟨b0, o0x8, none⟩ = some (v0x8) ∧ W'.cell? ⟨b0, o0x9, none⟩ = some (v0x9) ∧ W'.cell? ⟨b1, o1x0, none⟩ = some (v1x0) ∧ W'.cell? ⟨b1, o1x1, none⟩ = some (v1x1) ∧ W'.cell? ⟨b1, o1x2, none⟩ = some (v1x2) ∧ W'.cell? ⟨b1, o1x3, none⟩ = some (v1x3) ∧ W'.cell? ⟨b1, o1x4, none⟩ = some (v1x4) ∧ W'.cell? ⟨b1, o1x5, none⟩ = some (v1x5) ∧ W'.cell? ⟨b1, o1x6, none⟩ = some (v1x6) ∧ W'.cell? ⟨b1, o1x7, none⟩ = some (v1x7)) ∧ b0 < W'.heap.size ∧ b1 < W'.heap.size) := by
  obtain ⟨⟨h0, h1, h2, h3, h4, h5, h6, h7, h8, h9, h10, h11, h12, h13, h14, h15, h16, h17⟩, s0, s1⟩ := h
  refine ⟨⟨?_, ?_, ?_, ?_, ?_, ?_, ?_, ?_, ?_, ?_, ?_, ?_, ?_, ?_, ?_, ?_, ?_, ?_⟩, Nat.lt_of_lt_of_le s0 hb.size, Nat.lt_of_lt_of_le s1 hb.size⟩
  · rw [hb.cell s0]; exact h0
  · rw [hb.cell s0]; exact h1
  · rw [hb.cell s0]; exact h2
  · rw [hb.cell s0]; exact h3
  · rw [hb.cell s0]; exact h4
  · rw [hb.cell s0]; exact h5
  · rw [hb.cell s0]; exact h6
  · rw [hb.cell s0]; exact h7
  · rw [hb.cell s0]; exact h8
  · rw [hb.cell s0]; exact h9
  · rw [hb.cell s1]; exact h10
  · rw [hb.cell s1]; exact h11
  · rw [hb.cell s1]; exact h12
  · rw [hb.cell s1]; exact h13
  · rw [hb.cell s1]; exact h14
  · rw [hb.cell s1]; exact h15
  · rw [hb.cell s1]; exact h16
  · rw [hb.cell s1]; exact h17

theorem hd_10_8_set {b0 b1 o0x0 o0x1 o0x2 o0x3 o0x4 o0x5 o0x6 o0x7 o0x8 o0x9 o1x0 o1x1 o1x2 o1x3 o1x4 o1x5 o1x6 o1x7 : Nat} {v0x0 v0x1 v0x2 v0x3 v0x4 v0x5 v0x6 v0x7 v0x8 v0x9 v1x0 v1x1 v1x2 v1x3 v1x4 v1x5 v1x6 v1x7 : Value} {W : World} {p : Addr} (h : ((W.cell? ⟨b0, o0x0, none⟩ = some (v0x0) ∧ W.cell? ⟨b0, o0x1, none⟩ = some (v0x1) ∧ W.cell? ⟨b0, o0x2, none⟩ = some (v0x2) ∧ W.cell? ⟨b0, o0x3, none⟩ = some (v0x3) ∧ W.cell? ⟨b0, o0x4, none⟩ = some (v0x4) ∧ W.cell? ⟨b0, o0x5, none⟩ = some (v0x5) ∧ W.cell? ⟨b0, o0x6, none⟩ = some (v0x6) ∧ W.cell? ⟨b0, o0x7, none⟩ = some (v0x7) ∧ W.cell? ⟨b0, o0x8, none⟩ = some (v0x8) ∧ W.cell? ⟨b0, o0x9, none⟩ = some (v0x9) ∧ W.cell? ⟨b1, o1x0, none⟩ = some (v1x0) ∧ W.cell? ⟨b1, o1x1, none⟩ = some (v1x1) ∧ W.cell? ⟨b1, o1x2, none⟩ = some (v1x2) ∧ W.cell? ⟨b1, o1x3, none⟩ = some (v1x3) ∧ W.cell? ⟨b1, o1x4, none⟩ = some (v1x4) ∧ W.cell? ⟨b1, o1x5, none⟩ = some (v1x5) ∧ W.cell? ⟨b1, o1x6, none⟩ = some (v1x6) ∧ W.cell? ⟨b1, o1x7, none⟩ = some (v1x7)) ∧ b0 < W.heap.size ∧ b1 < W.heap.size)) (p0 : p.block ≠ b0) (p1 : p.block ≠ b1) (u : Value) : (((W.setCell p u).cell? ⟨b0, o0x0, none⟩ = some (v0x0) ∧ (W.setCell p u).cell? ⟨b0, o0x1, none⟩ = some (v0x1) ∧ (W.setCell p u).cell? ⟨b0, o0x2, none⟩ = some (v0x2) ∧ (W.setCell p u).cell? ⟨b0, o0x3, none⟩ = some (v0x3) ∧ (W.setCell p u).cell? ⟨b0, o0x4, none⟩ = some (v0x4) ∧ (W.setCell p u).cell? ⟨b0, o0x5, none⟩ = some (v0x5) ∧ (W.setCell p u).cell? ⟨b0, o0x6, none⟩ = some (v0x6) ∧ (W.setCell p u).cell? ⟨b0, o0x7, none⟩ = some (v0x7) ∧ (W.setCell p u).cell? ⟨b0, o0x8, none⟩ = some (v0x8) ∧ (W.setCell p u).cell? ⟨b0, o0x9, none⟩ = some (v0x9) ∧ (W.setCell p u).cell? ⟨b1, o1x0, none⟩ = some (v1x0) ∧ (W.setCell p u).cell? ⟨b1, o1x1, none⟩ = some (v1x1) ∧ (W.setCell p u).cell? ⟨b1, o1x2, none⟩ = some (v1x2) ∧ (W.setCell p u).cell? ⟨b1, o1x3, none⟩ = some (v1x3) ∧ (W.setCell p u).cell? ⟨b1, o1x4, none⟩ = some (v1x4) ∧ (W.setCell p u).cell? ⟨b1, o1x5, none⟩ = some (v1x5) ∧ (W.setCell p u).cell? ⟨b1, o1x6, none⟩ = some (v1x6) ∧ (W.setCell p u).cell? ⟨b1, o1x7, none⟩ = some (v1x7)) ∧ b0 < (W.setCell p u).heap.size ∧ b1 < (W.setCell p u).heap.size) := by
  obtain ⟨⟨h0, h1, h2, h3, h4, h5, h6, h7, h8, h9, h10, h11, h12, h13, h14, h15, h16, h17⟩, s0, s1⟩ := h
  have hb : W.heap.size ≤ (W.setCell p u).heap.size := by simp [World.setCell]
  refine ⟨⟨?_, ?_, ?_, ?_, ?_, ?_, ?_, ?_, ?_, ?_, ?_, ?_, ?_, ?_, ?_, ?_, ?_, ?_⟩, Nat.lt_of_lt_of_le s0 hb, Nat.lt_of_lt_of_le s1 hb⟩
  · rw [cell_set_ne p0]; exact h0
  · rw [cell_set_ne p0]; exact h1
  · rw [cell_set_ne p0]; exact h2
  · rw [cell_set_ne p0]; exact h3
  · rw [cell_set_ne p0]; exact h4
  · rw [cell_set_ne p0]; exact h5
  · rw [cell_set_ne p0]; exact h6
  · rw [cell_set_ne p0]; exact h7
  · rw [cell_set_ne p0]; exact h8
  · rw [cell_set_ne p0]; exact h9
  · rw [cell_set_ne p1]; exact h10
  · rw [cell_set_ne p1]; exact h11
  · rw [cell_set_ne p1]; exact h12
  · rw [cell_set_ne p1]; exact h13
  · rw [cell_set_ne p1]; exact h14
  · rw [cell_set_ne p1]; exact h15
  · rw [cell_set_ne p1]; exact h16
  · rw [cell_set_ne p1]; exact h17

theorem hd_10_8_re {b0 b1 o0x0 o0x1 o0x2 o0x3 o0x4 o0x5 o0x6 o0x7 o0x8 o0x9 o1x0 o1x1 o1x2 o1x3 o1x4 o1x5 o1x6 o1x7 : Nat} {v0x0 v0x1 v0x2 v0x3 v0x4 v0x5 v0x6 v0x7 v0x8 v0x9 v1x0 v1x1 v1x2 v1x3 v1x4 v1x5 v1x6 v1x7 : Value} {W : World} {o o' : Obj} (h : (((W.alloc o).cell? ⟨b0, o0x0, none⟩ = some (v0x0) ∧ (W.alloc o).cell? ⟨b0, o0x1, none⟩ = some (v0x1) ∧ (W.alloc o).cell? ⟨b0, o0x2, none⟩ = some (v0x2) ∧ (W.alloc o).cell? ⟨b0, o0x3, none⟩ = some (v0x3) ∧ (W.alloc o).cell? ⟨b0, o0x4, none⟩ = some (v0x4) ∧ (W.alloc o).cell? ⟨b0, o0x5, none⟩ = some (v0x5) ∧ (W.alloc o).cell? ⟨b0, o0x6, none⟩ = some (v0x6) ∧ (W.alloc o).cell? ⟨b0, o0x7, none⟩ = some (v0x7) ∧ (W.alloc o).cell? ⟨b0, o0x8, none⟩ = some (v0x8) ∧ (W.alloc o).cell? ⟨b0, o0x9, none⟩ = some (v0x9) ∧ (W.alloc o).cell? ⟨b1, o1x0, none⟩ = some (v1x0) ∧ (W.alloc o).cell? ⟨b1, o1x1, none⟩ = some (v1x1) ∧ (W.alloc o).cell? ⟨b1, o1x2, none⟩ = some (v1x2) ∧ (W.alloc o).cell? ⟨b1, o1x3, none⟩ = some (v1x3) ∧ (W.alloc o).cell? ⟨b1, o1x4, none⟩ = some (v1x4) ∧ (W.alloc o).cell? ⟨b1, o1x5, none⟩ = some (v1x5) ∧ (W.alloc o).cell? ⟨b1, o1x6, none⟩ = some (v1x6) ∧ (W.alloc o).cell? ⟨b1, o1x7, none⟩ = some (v1x7)) ∧ b0 < (W.alloc o).heap.size ∧ b1 < (W.alloc o).heap.size)) (p0 : b0 < W.heap.size) (p1 : b1 < W.heap.size) : (((W.alloc o').cell? ⟨b0, o0x0, none⟩ = some (v0x0) ∧ (W.alloc o').cell? ⟨b0, o0x1, none⟩ = some (v0x1) ∧ (W.alloc o').cell? ⟨b0, o0x2, none⟩ = some (v0x2) ∧ (W.alloc o').cell? ⟨b0, o0x3, none⟩ = some (v0x3) ∧ (W.alloc o').cell? ⟨b0, o0x4, none⟩ = some (v0x4) ∧ (W.alloc o').cell? ⟨b0, o0x5, none⟩ = some (v0x5) ∧ (W.alloc o').cell? ⟨b0, o0x6, none⟩ = some (v0x6) ∧ (W.alloc o').cell? ⟨b0, o0x7, none⟩ = some (v0x7) ∧ (W.alloc o').cell? ⟨b0, o0x8, none⟩ = some (v0x8) ∧ (W.alloc o').cell? ⟨b0, o0x9, none⟩ = some (v0x9) ∧ (W.alloc o').cell? ⟨b1, o1x0, none⟩ = some (v1x0) ∧ (W.alloc o').cell? ⟨b1, o1x1, none⟩ = some (v1x1) ∧ (W.alloc o').cell? ⟨b1, o1x2, none⟩ = some (v1x2) ∧ (W.alloc o').cell? ⟨b1, o1x3, none⟩ = some (v1x3) ∧ (W.alloc o').cell? ⟨b1, o1x4, none⟩ = some (v1x4) ∧ (W.alloc o').cell? ⟨b1, o1x5, none⟩ = some (v1x5) ∧ (W.alloc o').cell? ⟨b1, o1x6, none⟩ = some (v1x6) ∧ (W.alloc o').cell? ⟨b1, o1x7, none⟩ = some (v1x7)) ∧ b0 < (W.alloc o').heap.size ∧ b1 < (W.alloc o').heap.size) := by
  obtain ⟨⟨h0, h1, h2, h3, h4, h5, h6, h7, h8, h9, h10, h11, h12, h13, h14, h15, h16, h17⟩, s0, s1⟩ := h
  have hb : Below W.heap.size (W.alloc o) (W.alloc o') := bel_re W o o'
  refine ⟨⟨?_, ?_, ?_, ?_, ?_, ?_, ?_, ?_, ?_, ?_, ?_, ?_, ?_, ?_, ?_, ?_, ?_, ?_⟩, Nat.lt_of_lt_of_le s0 hb.size, Nat.lt_of_lt_of_le s1 hb.size⟩
  · rw [hb.cell p0]; exact h0
  · rw [hb.cell p0]; exact h1
  · rw [hb.cell p0]; exact h2
  · rw [hb.cell p0]; exact h3
  · rw [hb.cell p0]; exact h4
  · rw [hb.cell p0]; exact h5
  · rw [hb.cell p0]; exact h6
  · rw [hb.cell p0]; exact h7
  · rw [hb.cell p0]; exact h8
  · rw [hb.cell p0]; exact h9
  · rw [hb.cell p1]; exact h10
  · rw [hb.cell p1]; exact h11
  · rw [hb.cell p1]; exact h12
  · rw [hb.cell p1]; exact h13
  · rw [hb.cell p1]; exact h14
  · rw [hb.cell p1]; exact h15
  · rw [hb.cell p1]; exact h16
  · rw [hb.cell p1]; exact h17

theorem hd_8_8 {b0 b1 o0x0 o0x1 o0x2 o0x3 o0x4 o0x5 o0x6 o0x7 o1x0 o1x1 o1x2 o1x3 o1x4 o1x5 o1x6 o1x7 : Nat} {v0x0 v0x1 v0x2 v0x3 v0x4 v0x5 v0x6 v0x7 v1x0 v1x1 v1x2 v1x3 v1x4 v1x5 v1x6 v1x7 : Value} {W W' : World} (h : ((W.cell? ⟨b0, o0x0, none⟩ = some (v0x0) ∧ W.cell? ⟨b0, o0x1, none⟩ = some (v0x1) ∧ W.cell? ⟨b0, o0x2, none⟩ = some (v0x2) ∧ W.cell? ⟨b0, o0x3, none⟩ = some (v0x3) ∧ W.cell? ⟨b0, o0x4, none⟩ = some (v0x4) ∧ W.cell? ⟨b0, o0x5, none⟩ = some (v0x5) ∧ W.cell? ⟨b0, o0x6, none⟩ = some (v0x6) ∧ W.cell? ⟨b0, o0x7, none⟩ = some (v0x7) ∧ W.cell? ⟨b1, o1x0, none⟩ = some (v1x0) ∧ W.cell? ⟨b1, o1x1, none⟩ = some (v1x1) ∧ W.cell? ⟨b1, o1x2, none⟩ = some (v1x2) ∧ W.cell? ⟨b1, o1x3, none⟩ = some (v1x3) ∧ W.cell? ⟨b1, o1x4, none⟩ = some (v1x4) ∧ W.cell? ⟨b1, o1x5, none⟩ = some (v1x5) ∧ W.cell? ⟨b1, o1x6, none⟩ = some (v1x6) ∧ W.cell? ⟨b1, o1x7, none⟩ = some (v1x7)) ∧ b0 < W.heap.size ∧ b1 < W.heap.size)) (hb : Below W.heap.size W W') : ((W'.cell? ⟨b0, o0x0, none⟩ = some (v0x0) ∧ W'.cell? ⟨b0, o0x1, none⟩ = some (v0x1) ∧ W'.cell? ⟨b0, o0x2, none⟩ = some (v0x2) ∧ W'.cell? ⟨b0, o0x3, none⟩ = some (v0x3) ∧ W'.cell? ⟨b0, o0x4, none⟩ = some (v0x4) ∧ W'.cell? ⟨b0, o0x5, none⟩ = some (v0x5) ∧ W'.cell? ⟨b0, o0x6, none⟩ = some (v0x6) ∧ W'.cell? ⟨b0, o0x7, none⟩ = some (v0x7) ∧ W'.cell? ⟨b1, o1x0, none⟩ = some (v1x0) ∧ W'.cell? ⟨b1, o1x1, none⟩ = some (v1x1) ∧ W'.cell? ⟨b1, o1x2, none⟩ = some (v1x2) ∧ W'.cell? ⟨b1, o1x3, none⟩ = some (v1x3) ∧ W'.cell? ⟨b1, o1x4, none⟩ = some (v1x4) ∧ W'.cell? ⟨b1, o1x5, none⟩ = some (v1x5) ∧ W'.cell? ⟨b1, o1x6, none⟩ = some (v1x6) ∧ W'.cell? ⟨b1, o1x7, none⟩ = some (v1x7)) ∧ b0 < W'.heap.size ∧ b1 < W'.heap.size) := by
  obtain ⟨⟨h0, h1, h2, h3, h4, h5, h6, h7, h8, h9, h10, h11, h12, h13, h14, h15⟩, s0, s1⟩ := h
  refine ⟨⟨?_, ?_, ?_, ?_, ?_, ?_, ?_, ?_, ?_, ?_, ?_, ?_, ?_, ?_, ?_, ?_⟩, Nat.lt_of_lt_of_le s0 hb.size, Nat.lt_of_lt_of_le s1 hb.size⟩
  · rw [hb.cell s0]; exact h0
  · rw [hb.cell s0]; exact h1
  · rw [hb.cell s0]; exact h2
  · rw [hb.cell s0]; exact h3
  · rw [hb.cell s0]; exact h4
  · rw [hb.cell s0]; exact h5
  · rw [hb.cell s0]; exact h6
  · rw [hb.cell s0]; exact h7
  · rw [hb.cell s1]; exact h8
  · rw [hb.cell s1]; exact h9
  · rw [hb.cell s1]; exact h10
  · rw [hb.cell s1]; exact h11
  · rw [hb.cell s1]; exact h12
  · rw [hb.cell s1]; exact h13
  · rw [hb.cell s1]; exact h14
  · rw [hb.cell s1]; exact h15

theorem hd_8_8_set {b0 b1 o0x0 o0x1 o0x2 o0x3 o0x4 o0x5 o0x6 o0x7 o1x0 o1x1 o1x2 o1x3 o1x4 o1x5 o1x6 o1x7 : Nat} {v0x0 v0x1 v0x2 v0x3 v0x4 v0x5 v0x6 v0x7 v1x0 v1x1 v1x2 v1x3 v1x4 v1x5 v1x6 v1x7 : Value} {W : World} {p : Addr} (h : ((W.cell? ⟨b0, o0x0, none⟩ = some (v0x0) ∧ W.cell? ⟨b0, o0x1, none⟩ = some (v0x1) ∧ W.cell? ⟨b0, o0x2, none⟩ = some (v0x2) ∧ W.cell? ⟨b0, o0x3, none⟩ = some (v0x3) ∧ W.cell? ⟨b0, o0x4, none⟩ = some (v0x4) ∧ W.cell? ⟨b0, o0x5, none⟩ = some (v0x5) ∧ W.cell? ⟨b0, o0x6, none⟩ = some (v0x6) ∧ W.cell? ⟨b0, o0x7, none⟩ = some (v0x7) ∧ W.cell? ⟨b1, o1x0, none⟩ = some (v1x0) ∧ W.cell? ⟨b1, o1x1, none⟩ = some (v1x1) ∧ W.cell? ⟨b1, o1x2, none⟩ = some (v1x2) ∧ W.cell? ⟨b1, o1x3, none⟩ = some (v1x3) ∧ W.cell? ⟨b1, o1x4, none⟩ = some (v1x4) ∧ W.cell? ⟨b1, o1x5, none⟩ = some (v1x5) ∧ W.cell? ⟨b1, o1x6, none⟩ = some (v1x6) ∧ W.cell? ⟨b1, o1x7, none⟩ = some (v1x7)) ∧ b0 < W.heap.size ∧ b1 < W.heap.size)) (p0 : p.block ≠ b0) (p1 : p.block ≠ b1) (u : Value) : (((W.setCell p u).cell? ⟨b0, o0x0, none⟩ = some (v0x0) ∧ (W.setCell p u).cell? ⟨b0, o0x1, none⟩ = some (v0x1) ∧ (W.setCell p u).cell? ⟨b0, o0x2, none⟩ = some (v0x2) ∧ (W.setCell p u).cell? ⟨b0, o0x3, none⟩ = some (v0x3) ∧ (W.setCell p u).cell? ⟨b0, o0x4, none⟩ = some (v0x4) ∧ (W.setCell p u).cell? ⟨b0, o0x5, none⟩ = some (v0x5) ∧ (W.setCell p u).cell? ⟨b0, o0x6, none⟩ = some (v0x6) ∧ (W.setCell p u).cell? ⟨b0, o0x7, none⟩ = some (v0x7) ∧ (W.setCell p u).cell? ⟨b1, o1x0, none⟩ = some (v1x0) ∧ (W.setCell p u).cell? ⟨b1, o1x1, none⟩ = some (v1x1) ∧ (W.setCell p u).cell? ⟨b1, o1x2, none⟩ = some (v1x2) ∧ (W.setCell p u).cell? ⟨b1, o1x3, none⟩ = some (v1x3) ∧ (W.setCell p u).cell? ⟨b1, o1x4, none⟩ = some (v1x4) ∧ (W.setCell p u).cell? ⟨b1, o1x5, none⟩ = some (v1x5) ∧ (W.setCell p u).cell? ⟨b1, o1x6, none⟩ = some (v1x6) ∧ (W.setCell p u).cell? ⟨b1, o1x7, none⟩ = some (v1x7)) ∧ b0 < (W.setCell p u).heap.size ∧ b1 < (W.setCell p u).heap.size) := by
  obtain ⟨⟨h0, h1, h2, h3, h4, h5, h6, h7, h8, h9, h10, h11, h12, h13, h14, h15⟩, s0, s1⟩ := h
  have hb : W.heap.size ≤ (W.setCell p u).heap.size := by simp [World.setCell]
  refine ⟨⟨?_, ?_, ?_, ?_, ?_, ?_, ?_, ?_, ?_, ?_, ?_, ?_, ?_, ?_, ?_, ?_⟩, Nat.lt_of_lt_of_le s0 hb, Nat.lt_of_lt_of_le s1 hb⟩
  · rw [cell_set_ne p0]; exact h0
  · rw [cell_set_ne p0]; exact h1
  · rw [cell_set_ne p0]; exact h2
  · rw [cell_set_ne p0]; exact h3
  · rw [cell_set_ne p0]; exact h4
  · rw [cell_set_ne p0]; exact h5
  · rw [cell_set_ne p0]; exact h6
  · rw [cell_set_ne p0]; exact h7
  · rw [cell_set_ne p1]; exact h8
  · rw [cell_set_ne p1]; exact h9
  · rw [cell_set_ne p1]; exact h10
  · rw [cell_set_ne p1]; exact h11
  · rw [cell_set_ne p1]; exact h12
  · rw [cell_set_ne p1]; exact h13
  · rw [cell_set_ne p1]; exact h14
  · rw [cell_set_ne p1]; exact h15

theorem hd_8_8_re {b0 b1 o0x0 o0x1 o0x2 o0x3 o0x4 o0x5 o0x6 o0x7 o1x0 o1x1 o1x2 o1x3 o1x4 o1x5 o1x6 o1x7 : Nat} {v0x0 v0x1 v0x2 v0x3 v0x4 v0x5 v0x6 v0x7 v1x0 v1x1 v1x2 v1x3 v1x4 v1x5 v1x6 v1x7 : Value} {W : World} {o o' : Obj} (h : (((W.alloc o).cell? ⟨b0, o0x0, none⟩ = some (v0x0) ∧ (W.alloc o).cell? ⟨b0, o0x1, none⟩ = some (v0x1) ∧ (W.alloc o).cell? ⟨b0, o0x2, none⟩ = some (v0x2) ∧ (W.alloc o).cell? ⟨b0, o0x3, none⟩ = some (v0x3) ∧ (W.alloc o).cell? ⟨b0, o0x4, none⟩ = some (v0x4) ∧ (W.alloc o).cell? ⟨b0, o0x5, none⟩ = some (v0x5) ∧ (W.alloc o).cell? ⟨b0, o0x6, none⟩ = some (v0x6) ∧ (W.alloc o).cell? ⟨b0, o0x7, none⟩ = some (v0x7) ∧ (W.alloc o).cell? ⟨b1, o1x0, none⟩ = some (v1x0) ∧ (W.alloc o).cell? ⟨b1, o1x1, none⟩ = some (v1x1) ∧ (W.alloc o).cell? ⟨b1, o1x2, none⟩ = some (v1x2) ∧ (W.alloc o).cell? ⟨b1, o1x3, none⟩ = some (v1x3) ∧ (W.alloc o).cell? ⟨b1, o1x4, none⟩ = some (v1x4) ∧ (W.alloc o).cell? ⟨b1, o1x5, none⟩ = some (v1x5) ∧ (W.alloc o).cell? ⟨b1, o1x6, none⟩ = some (v1x6) ∧ (W.alloc o).cell? ⟨b1, o1x7, none⟩ = some (v1x7)) ∧ b0 < (W.alloc o).heap.size ∧ b1 < (W.alloc o).heap.size)) (p0 : b0 < W.heap.size) (p1 : b1 < W.heap.size) : (((W.alloc o').cell? ⟨b0, o0x0, none⟩ = some (v0x0) ∧ (W.alloc o').cell? ⟨b0, o0x1, none⟩ = some (v0x1) ∧ (W.alloc o').cell? ⟨b0, o0x2, none⟩ = some (v0x2) ∧ (W.alloc o').cell? ⟨b0, o0x3, none⟩ = some (v0x3) ∧ (W.alloc o').cell? ⟨b0, o0x4, none⟩ = some (v0x4) ∧ (W.alloc o').cell? ⟨b0, o0x5, none⟩ = some (v0x5) ∧ (W.alloc o').cell? ⟨b0, o0x6, none⟩ = some (v0x6) ∧ (W.alloc o').cell? ⟨b0, o0x7, none⟩ = some (v0x7) ∧ (W.alloc o').cell? ⟨b1, o1x0, none⟩ = some (v1x0) ∧ (W.alloc o').cell? ⟨b1, o1x1, none⟩ = some (v1x1) ∧ (W.alloc o').cell? ⟨b1, o1x2, none⟩ = some (v1x2) ∧ (W.alloc o').cell? ⟨b1, o1x3, none⟩ = some (v1x3) ∧ (W.alloc o').cell? ⟨b1, o1x4, none⟩ = some (v1x4) ∧ (W.alloc o').cell? ⟨b1, o1x5, none⟩ = some (v1x5) ∧ (W.alloc o').cell? ⟨b1, o1x6, none⟩ = some (v1x6) ∧ (W.alloc o').cell? ⟨b1, o1x7, none⟩ = some (v1x7)) ∧ b0 < (W.alloc o').heap.size ∧ b1 < (W.alloc o').heap.size) := by
  obtain ⟨⟨h0, h1, h2, h3, h4, h5, h6, h7, h8, h9, h10, h11, h12, h13, h14, h15⟩, s0, s1⟩ := h
  have hb : Below W.heap.size (W.alloc o) (W.alloc o') := bel_re W o o'
  refine ⟨⟨?_, ?_, ?_, ?_, ?_, ?_, ?_, ?_, ?_, ?_, ?_, ?_, ?_, ?_, ?_, ?_⟩, Nat.lt_of_lt_of_le s0 hb.size, Nat.lt_of_lt_of_le s1 hb.size⟩
  · rw [hb.cell p0]; exact h0
  · rw [hb.cell p0]; exact h1
  · rw [hb.cell p0]; exact h2
  · rw [hb.cell p0]; exact h3
  · rw [hb.cell p0]; exact h4
  · rw [hb.cell p0]; exact h5
  · rw [hb.cell p0]; exact h6
  · rw [hb.cell p0]; exact h7
  · rw [hb.cell p1]; exact h8
  · rw [hb.cell p1]; exact h9
  · rw [hb.cell p1]; exact h10
  · rw [hb.cell p1]; exact h11
  · rw [hb.cell p1]; exact h12
  · rw [hb.cell p1]; exact h13
  · rw [hb.cell p1]; exact h14
  · rw [hb.cell p1]; exact h15

theorem specckpok_eq (s t k z p l e : Int) (b : Bool) (v r : Int) (x : CkD) (a2 : Option Addr) (l2 c2 : Nat) (a3 : Option Addr) (l3 c3 : Nat) (a4 : Option Addr) (l4 c4 : Nat) (a6 : Option Addr) (l6 c6 : Nat) (a7 : Option Addr) (l7 c7 : Nat) (B : Nat) (w : World) {ob : Bool} (h : CkIs w B a2 l2 a3 l3 a4 l4 a6 l6 a7 l7 x) (hsm : ∀ y ∈ x.sn, y.sm) (hV : Hid (okCk s t k z p l e v r x = ob)) : Calls Try.prog 14 #[.agg #[.int .i64 s, .int .i64 t, .int .i64 k, .int .i64 z, .int .i64 p, .int .i64 l, .int .i64 e, .bool b, .int .i64 v, .int .i64 r], .agg #[.int .i64 x.n, .bool x.op, .slice a2 l2 c2, .slice a3 l3 c3, .slice a4 l4 c4, .int .i64 x.sfn, .slice a6 l6 c6, .slice a7 l7 c7]] w fun e' w' => e' = .returned (.bool ob) ∧ Below w.heap.size w w' := by
  rw [← unhide hV]; exact specckpok_any s t k z p l e b v r x a2 l2 c2 a3 l3 c3 a4 l4 c4 a6 l6 c6 a7 l7 c7 B w h hsm
theorem implckpok_eq (s t k z p l e : Int) (b : Bool) (v r : Int) (x : CkD) (a2 : Option Addr) (l2 c2 : Nat) (a3 : Option Addr) (l3 c3 : Nat) (a4 : Option Addr) (l4 c4 : Nat) (a6 : Option Addr) (l6 c6 : Nat) (a7 : Option Addr) (l7 c7 : Nat) (B : Nat) (w : World) {ob : Bool} (h : CkIs w B a2 l2 a3 l3 a4 l4 a6 l6 a7 l7 x) (hsm : ∀ y ∈ x.sn, y.sm) (hV : Hid (okCk s t k z p l e v r x = ob)) : Calls Try.prog 16 #[.agg #[.int .i64 s, .int .i64 t, .int .i64 k, .int .i64 z, .int .i64 p, .int .i64 l, .int .i64 e, .bool b, .int .i64 v, .int .i64 r], .agg #[.int .i64 x.n, .bool x.op, .slice a2 l2 c2, .slice a3 l3 c3, .slice a4 l4 c4, .int .i64 x.sfn, .slice a6 l6 c6, .slice a7 l7 c7]] w fun e' w' => e' = .returned (.bool ob) ∧ Below w.heap.size w w' := by
  rw [← unhide hV]; exact implckpok_any s t k z p l e b v r x a2 l2 c2 a3 l3 c3 a4 l4 c4 a6 l6 c6 a7 l7 c7 B w h
set_option linter.unusedSimpArgs false in
set_option maxRecDepth 20000 in
set_option maxHeartbeats 8000000 in
theorem lawCkpOk (s t k z p l e : Int) (b : Bool) (v r : Int) (x : CkD) (a2 : Option Addr) (l2 c2 : Nat) (a3 : Option Addr) (l3 c3 : Nat) (a4 : Option Addr) (l4 c4 : Nat) (a6 : Option Addr) (l6 c6 : Nat) (a7 : Option Addr) (l7 c7 : Nat) (w : World) (h : CkIs w 0 a2 l2 a3 l3 a4 l4 a6 l6 a7 l7 x) : Calls Try.prog 4 #[.agg #[.int .i64 s, .int .i64 t, .int .i64 k, .int .i64 z, .int .i64 p, .int .i64 l, .int .i64 e, .bool b, .int .i64 v, .int .i64 r], .agg #[.int .i64 x.n, .bool x.op, .slice a2 l2 c2, .slice a3 l3 c3, .slice a4 l4 c4, .int .i64 x.sfn, .slice a6 l6 c6, .slice a7 l7 c7]] w fun e' w' => e' = .returned (.bool true) ∧ Below w.heap.size w w' := by
  have hbb : Below w.heap.size w ((w.alloc (.cells #[.int .i64 s, .int .i64 t, .int .i64 k, .int .i64 z, .int .i64 p, .int .i64 l, .int .i64 e, .bool b, .int .i64 v, .int .i64 r] 23)).alloc (.cells #[.int .i64 x.n, .bool x.op, .slice a2 l2 c2, .slice a3 l3 c3, .slice a4 l4 c4, .int .i64 x.sfn, .slice a6 l6 c6, .slice a7 l7 c7] 41)) := bel_alloc (bel_one _ _) _
  have h0 := h.below hbb
  go_enter Try.func4, Try.ntmps4
  go_wp2_with fail
  refine (szCk_any x a2 l2 c2 a3 l3 c3 a4 l4 c4 a6 l6 c6 a7 l7 c7 _ h0).mono ?_
  rintro e' w1 ⟨⟨rr, rfl, hr⟩, hb1⟩
  have z1 : w.heap.size + 1 < w1.heap.size := by have h9 := hb1.size; simp at h9; omega
  have z0 : w.heap.size < w1.heap.size := by omega
  have aj0 : w1.cell? ⟨w.heap.size, 0, none⟩ = some (.int .i64 s) := (hb1.cell (p := ⟨w.heap.size, 0, none⟩) (by simp <;> omega)).trans (by simp [go_sem])
  have aj1 : w1.cell? ⟨w.heap.size, 1, none⟩ = some (.int .i64 t) := (hb1.cell (p := ⟨w.heap.size, 1, none⟩) (by simp <;> omega)).trans (by simp [go_sem])
  have aj2 : w1.cell? ⟨w.heap.size, 2, none⟩ = some (.int .i64 k) := (hb1.cell (p := ⟨w.heap.size, 2, none⟩) (by simp <;> omega)).trans (by simp [go_sem])
  have aj3 : w1.cell? ⟨w.heap.size, 3, none⟩ = some (.int .i64 z) := (hb1.cell (p := ⟨w.heap.size, 3, none⟩) (by simp <;> omega)).trans (by simp [go_sem])
  have aj4 : w1.cell? ⟨w.heap.size, 4, none⟩ = some (.int .i64 p) := (hb1.cell (p := ⟨w.heap.size, 4, none⟩) (by simp <;> omega)).trans (by simp [go_sem])
  have aj5 : w1.cell? ⟨w.heap.size, 5, none⟩ = some (.int .i64 l) := (hb1.cell (p := ⟨w.heap.size, 5, none⟩) (by simp <;> omega)).trans (by simp [go_sem])
  have aj6 : w1.cell? ⟨w.heap.size, 6, none⟩ = some (.int .i64 e) := (hb1.cell (p := ⟨w.heap.size, 6, none⟩) (by simp <;> omega)).trans (by simp [go_sem])
  have aj7 : w1.cell? ⟨w.heap.size, 7, none⟩ = some (.bool b) := (hb1.cell (p := ⟨w.heap.size, 7, none⟩) (by simp <;> omega)).trans (by simp [go_sem])
  have aj8 : w1.cell? ⟨w.heap.size, 8, none⟩ = some (.int .i64 v) := (hb1.cell (p := ⟨w.heap.size, 8, none⟩) (by simp <;> omega)).trans (by simp [go_sem])
  have aj9 : w1.cell? ⟨w.heap.size, 9, none⟩ = some (.int .i64 r) := (hb1.cell (p := ⟨w.heap.size, 9, none⟩) (by simp <;> omega)).trans (by simp [go_sem])
  have at0 : w1.cell? ⟨w.heap.size + 1, 0, none⟩ = some (.int .i64 x.n) := (hb1.cell (p := ⟨w.heap.size + 1, 0, none⟩) (by simp <;> omega)).trans (by simp [go_sem])
  have at1 : w1.cell? ⟨w.heap.size + 1, 1, none⟩ = some (.bool x.op) := (hb1.cell (p := ⟨w.heap.size + 1, 1, none⟩) (by simp <;> omega)).trans (by simp [go_sem])
  have at2 : w1.cell? ⟨w.heap.size + 1, 2, none⟩ = some (.slice a2 l2 c2) := (hb1.cell (p := ⟨w.heap.size + 1, 2, none⟩) (by simp <;> omega)).trans (by simp [go_sem])
  have at3 : w1.cell? ⟨w.heap.size + 1, 3, none⟩ = some (.slice a3 l3 c3) := (hb1.cell (p := ⟨w.heap.size + 1, 3, none⟩) (by simp <;> omega)).trans (by simp [go_sem])
  have at4 : w1.cell? ⟨w.heap.size + 1, 4, none⟩ = some (.slice a4 l4 c4) := (hb1.cell (p := ⟨w.heap.size + 1, 4, none⟩) (by simp <;> omega)).trans (by simp [go_sem])
  have at5 : w1.cell? ⟨w.heap.size + 1, 5, none⟩ = some (.int .i64 x.sfn) := (hb1.cell (p := ⟨w.heap.size + 1, 5, none⟩) (by simp <;> omega)).trans (by simp [go_sem])
  have at6 : w1.cell? ⟨w.heap.size + 1, 6, none⟩ = some (.slice a6 l6 c6) := (hb1.cell (p := ⟨w.heap.size + 1, 6, none⟩) (by simp <;> omega)).trans (by simp [go_sem])
  have at7 : w1.cell? ⟨w.heap.size + 1, 7, none⟩ = some (.slice a7 l7 c7) := (hb1.cell (p := ⟨w.heap.size + 1, 7, none⟩) (by simp <;> omega)).trans (by simp [go_sem])
  have h1 := h0.below hb1
  rcases hr with rfl | ⟨hr0, hr1, hok⟩
  · go_wp2
    go_ret
    exact ⟨rfl, (by repeat (first | (with_reducible exact Below.refl _ _) | (with_reducible assumption) | (with_reducible refine bel_set ?_ (by first | (simp; done) | (simp; omega)) _) | (with_reducible refine bel_alloc ?_ _) | (with_reducible refine bel_drew ?_) | (with_reducible refine bel_drewN ?_ _) | (with_reducible refine bel_trans ?_ (by with_reducible assumption))))⟩
  · have hneg : ¬ rr < 0 := by omega
    obtain ⟨ob, hV0⟩ : ∃ ob, okCk s t k z p l e v r x = ob := ⟨_, rfl⟩
    have hV := hide hV0
    clear hV0
    have hsm := hok.2.2.1.2
    have hbF1 : Below w.heap.size w w1 := bel_trans hbb hb1
    clear hb1 hbb h0 h
    go_wp2_with fail
    go_region_held3 (fun W => ((W.cell? ⟨w.heap.size, 0, none⟩ = some (.int .i64 s) ∧ W.cell? ⟨w.heap.size, 1, none⟩ = some (.int .i64 t) ∧ W.cell? ⟨w.heap.size, 2, none⟩ = some (.int .i64 k) ∧ W.cell? ⟨w.heap.size, 3, none⟩ = some (.int .i64 z) ∧ W.cell? ⟨w.heap.size, 4, none⟩ = some (.int .i64 p) ∧ W.cell? ⟨w.heap.size, 5, none⟩ = some (.int .i64 l) ∧ W.cell? ⟨w.heap.size, 6, none⟩ = some (.int .i64 e) ∧ W.cell? ⟨w.heap.size, 7, none⟩ = some (.bool b) ∧ W.cell? ⟨w.heap.size, 8, none⟩ = some (.int .i64 v) ∧ W.cell? ⟨w.heap.size, 9, none⟩ = some (.int .i64 r) ∧ W.cell? ⟨w.heap.size + 1, 0, none⟩ = some (.int .i64 x.n) ∧ W.cell? ⟨w.heap.size + 1, 1, none⟩ = some (.bool x.op) ∧ W.cell? ⟨w.heap.size + 1, 2, none⟩ = some (.slice a2 l2 c2) ∧ W.cell? ⟨w.heap.size + 1, 3, none⟩ = some (.slice a3 l3 c3) ∧ W.cell? ⟨w.heap.size + 1, 4, none⟩ = some (.slice a4 l4 c4) ∧ W.cell? ⟨w.heap.size + 1, 5, none⟩ = some (.int .i64 x.sfn) ∧ W.cell? ⟨w.heap.size + 1, 6, none⟩ = some (.slice a6 l6 c6) ∧ W.cell? ⟨w.heap.size + 1, 7, none⟩ = some (.slice a7 l7 c7)) ∧ w.heap.size < W.heap.size ∧ w.heap.size + 1 < W.heap.size)) ((first | ((repeat (first | (with_reducible assumption) | (with_reducible refine hd_10_8 ?_ (by with_reducible assumption)) | (with_reducible refine hd_10_8 ?_ (bel_drew (Below.refl _ _))) | (with_reducible exact hd_10_8_re (by with_reducible assumption) (by first | omega | (simp; done) | (simp; omega)) (by first | omega | (simp; done) | (simp; omega))) | (with_reducible refine hd_10_8 ?_ (bel_one _ _)) | (with_reducible refine hd_10_8_set ?_ (by first | omega | (simp; done) | (simp; omega)) (by first | omega | (simp; done) | (simp; omega)) _))); done) | (refine ⟨⟨?_, ?_, ?_, ?_, ?_, ?_, ?_, ?_, ?_, ?_, ?_, ?_, ?_, ?_, ?_, ?_, ?_, ?_⟩, ?_, ?_⟩ <;> first | (go_keep; done) | (simp; done) | (simp; omega) | omega)))
      (first
      | (go_at_call 8; refine (toJob_any _ _ _ _ _ _ _ _ _ _ _).mono ?_; rintro e' w2 ⟨rfl, hb2⟩; obtain ⟨hc2, hf2, hs2⟩ := bcell hb2)
      | (go_at_call 15; refine (toCk_any x a2 l2 c2 a3 l3 c3 a4 l4 c4 a6 l6 c6 a7 l7 c7 _ (h1.below (by repeat (first | (with_reducible exact Below.refl _ _) | (with_reducible assumption) | (with_reducible refine bel_set ?_ (by first | (simp; done) | (simp; omega)) _) | (with_reducible refine bel_alloc ?_ _) | (with_reducible refine bel_drew ?_) | (with_reducible refine bel_drewN ?_ _) | (with_reducible refine bel_trans ?_ (by with_reducible assumption))))) hok).mono ?_; rintro e' w3 ⟨a2p, a3p, a4p, a6p, a7p, rfl, H1, hb3⟩; obtain ⟨hc3, hf3, hs3⟩ := bcell hb3)
      | (go_at_call 14; refine (specckpok_eq s t k z p l e b v r x a2p l2 l2 a3p l3 l3 a4p l4 l4 a6p l6 l6 a7p l7 l7 _ _ (H1.below (by repeat (first | (with_reducible exact Below.refl _ _) | (with_reducible assumption) | (with_reducible refine bel_set ?_ (by first | (simp; done) | (simp; omega)) _) | (with_reducible refine bel_alloc ?_ _) | (with_reducible refine bel_drew ?_) | (with_reducible refine bel_drewN ?_ _) | (with_reducible refine bel_trans ?_ (by with_reducible assumption))))) hsm hV).mono ?_; rintro e' w4 ⟨rfl, hb4⟩; obtain ⟨hc4, hf4, hs4⟩ := bcell hb4))
    have hB4 : Below w1.heap.size w1 w4 := (by repeat (first | (with_reducible exact Below.refl _ _) | (with_reducible assumption) | (with_reducible refine bel_set ?_ (by first | (simp; done) | (simp; omega)) _) | (with_reducible refine bel_alloc ?_ _) | (with_reducible refine bel_drew ?_) | (with_reducible refine bel_drewN ?_ _) | (with_reducible refine bel_trans ?_ (by with_reducible assumption))))
    clear hc2 hf2 hs2 hc3 hf3 hs3 hc4 hf4 hs4 hb2 hb3 hb4 H1
    have y1 : w.heap.size + 1 < w4.heap.size := Nat.lt_of_lt_of_le z1 hB4.size
    have y0 : w.heap.size < w4.heap.size := by omega
    have bj0 : w4.cell? ⟨w.heap.size, 0, none⟩ = some (.int .i64 s) := (hB4.cell (p := ⟨w.heap.size, 0, none⟩) (by first | exact z0 | exact z1)).trans aj0
    have bj1 : w4.cell? ⟨w.heap.size, 1, none⟩ = some (.int .i64 t) := (hB4.cell (p := ⟨w.heap.size, 1, none⟩) (by first | exact z0 | exact z1)).trans aj1
    have bj2 : w4.cell? ⟨w.heap.size, 2, none⟩ = some (.int .i64 k) := (hB4.cell (p := ⟨w.heap.size, 2, none⟩) (by first | exact z0 | exact z1)).trans aj2
    have bj3 : w4.cell? ⟨w.heap.size, 3, none⟩ = some (.int .i64 z) := (hB4.cell (p := ⟨w.heap.size, 3, none⟩) (by first | exact z0 | exact z1)).trans aj3
    have bj4 : w4.cell? ⟨w.heap.size, 4, none⟩ = some (.int .i64 p) := (hB4.cell (p := ⟨w.heap.size, 4, none⟩) (by first | exact z0 | exact z1)).trans aj4
    have bj5 : w4.cell? ⟨w.heap.size, 5, none⟩ = some (.int .i64 l) := (hB4.cell (p := ⟨w.heap.size, 5, none⟩) (by first | exact z0 | exact z1)).trans aj5
    have bj6 : w4.cell? ⟨w.heap.size, 6, none⟩ = some (.int .i64 e) := (hB4.cell (p := ⟨w.heap.size, 6, none⟩) (by first | exact z0 | exact z1)).trans aj6
    have bj7 : w4.cell? ⟨w.heap.size, 7, none⟩ = some (.bool b) := (hB4.cell (p := ⟨w.heap.size, 7, none⟩) (by first | exact z0 | exact z1)).trans aj7
    have bj8 : w4.cell? ⟨w.heap.size, 8, none⟩ = some (.int .i64 v) := (hB4.cell (p := ⟨w.heap.size, 8, none⟩) (by first | exact z0 | exact z1)).trans aj8
    have bj9 : w4.cell? ⟨w.heap.size, 9, none⟩ = some (.int .i64 r) := (hB4.cell (p := ⟨w.heap.size, 9, none⟩) (by first | exact z0 | exact z1)).trans aj9
    have bt0 : w4.cell? ⟨w.heap.size + 1, 0, none⟩ = some (.int .i64 x.n) := (hB4.cell (p := ⟨w.heap.size + 1, 0, none⟩) (by first | exact z0 | exact z1)).trans at0
    have bt1 : w4.cell? ⟨w.heap.size + 1, 1, none⟩ = some (.bool x.op) := (hB4.cell (p := ⟨w.heap.size + 1, 1, none⟩) (by first | exact z0 | exact z1)).trans at1
    have bt2 : w4.cell? ⟨w.heap.size + 1, 2, none⟩ = some (.slice a2 l2 c2) := (hB4.cell (p := ⟨w.heap.size + 1, 2, none⟩) (by first | exact z0 | exact z1)).trans at2
    have bt3 : w4.cell? ⟨w.heap.size + 1, 3, none⟩ = some (.slice a3 l3 c3) := (hB4.cell (p := ⟨w.heap.size + 1, 3, none⟩) (by first | exact z0 | exact z1)).trans at3
    have bt4 : w4.cell? ⟨w.heap.size + 1, 4, none⟩ = some (.slice a4 l4 c4) := (hB4.cell (p := ⟨w.heap.size + 1, 4, none⟩) (by first | exact z0 | exact z1)).trans at4
    have bt5 : w4.cell? ⟨w.heap.size + 1, 5, none⟩ = some (.int .i64 x.sfn) := (hB4.cell (p := ⟨w.heap.size + 1, 5, none⟩) (by first | exact z0 | exact z1)).trans at5
    have bt6 : w4.cell? ⟨w.heap.size + 1, 6, none⟩ = some (.slice a6 l6 c6) := (hB4.cell (p := ⟨w.heap.size + 1, 6, none⟩) (by first | exact z0 | exact z1)).trans at6
    have bt7 : w4.cell? ⟨w.heap.size + 1, 7, none⟩ = some (.slice a7 l7 c7) := (hB4.cell (p := ⟨w.heap.size + 1, 7, none⟩) (by first | exact z0 | exact z1)).trans at7
    clear aj0 aj1 aj2 aj3 aj4 aj5 aj6 aj7 aj8 aj9 at0 at1 at2 at3 at4 at5 at6 at7
    have h4 := h1.below hB4
    go_wp2_with fail
    refine (toCk_any x a2 l2 c2 a3 l3 c3 a4 l4 c4 a6 l6 c6 a7 l7 c7 _ h4 hok).mono ?_
    rintro e' w5 ⟨a2q, a3q, a4q, a6q, a7q, rfl, H2, hb5⟩
    have x1 : w.heap.size + 1 < w5.heap.size := Nat.lt_of_lt_of_le y1 hb5.size
    have x0 : w.heap.size < w5.heap.size := by omega
    have cj0 : w5.cell? ⟨w.heap.size, 0, none⟩ = some (.int .i64 s) := (hb5.cell (p := ⟨w.heap.size, 0, none⟩) (by first | exact y0 | exact y1)).trans bj0
    have cj1 : w5.cell? ⟨w.heap.size, 1, none⟩ = some (.int .i64 t) := (hb5.cell (p := ⟨w.heap.size, 1, none⟩) (by first | exact y0 | exact y1)).trans bj1
    have cj2 : w5.cell? ⟨w.heap.size, 2, none⟩ = some (.int .i64 k) := (hb5.cell (p := ⟨w.heap.size, 2, none⟩) (by first | exact y0 | exact y1)).trans bj2
    have cj3 : w5.cell? ⟨w.heap.size, 3, none⟩ = some (.int .i64 z) := (hb5.cell (p := ⟨w.heap.size, 3, none⟩) (by first | exact y0 | exact y1)).trans bj3
    have cj4 : w5.cell? ⟨w.heap.size, 4, none⟩ = some (.int .i64 p) := (hb5.cell (p := ⟨w.heap.size, 4, none⟩) (by first | exact y0 | exact y1)).trans bj4
    have cj5 : w5.cell? ⟨w.heap.size, 5, none⟩ = some (.int .i64 l) := (hb5.cell (p := ⟨w.heap.size, 5, none⟩) (by first | exact y0 | exact y1)).trans bj5
    have cj6 : w5.cell? ⟨w.heap.size, 6, none⟩ = some (.int .i64 e) := (hb5.cell (p := ⟨w.heap.size, 6, none⟩) (by first | exact y0 | exact y1)).trans bj6
    have cj7 : w5.cell? ⟨w.heap.size, 7, none⟩ = some (.bool b) := (hb5.cell (p := ⟨w.heap.size, 7, none⟩) (by first | exact y0 | exact y1)).trans bj7
    have cj8 : w5.cell? ⟨w.heap.size, 8, none⟩ = some (.int .i64 v) := (hb5.cell (p := ⟨w.heap.size, 8, none⟩) (by first | exact y0 | exact y1)).trans bj8
    have cj9 : w5.cell? ⟨w.heap.size, 9, none⟩ = some (.int .i64 r) := (hb5.cell (p := ⟨w.heap.size, 9, none⟩) (by first | exact y0 | exact y1)).trans bj9
    have ct0 : w5.cell? ⟨w.heap.size + 1, 0, none⟩ = some (.int .i64 x.n) := (hb5.cell (p := ⟨w.heap.size + 1, 0, none⟩) (by first | exact y0 | exact y1)).trans bt0
    have ct1 : w5.cell? ⟨w.heap.size + 1, 1, none⟩ = some (.bool x.op) := (hb5.cell (p := ⟨w.heap.size + 1, 1, none⟩) (by first | exact y0 | exact y1)).trans bt1
    have ct2 : w5.cell? ⟨w.heap.size + 1, 2, none⟩ = some (.slice a2 l2 c2) := (hb5.cell (p := ⟨w.heap.size + 1, 2, none⟩) (by first | exact y0 | exact y1)).trans bt2
    have ct3 : w5.cell? ⟨w.heap.size + 1, 3, none⟩ = some (.slice a3 l3 c3) := (hb5.cell (p := ⟨w.heap.size + 1, 3, none⟩) (by first | exact y0 | exact y1)).trans bt3
    have ct4 : w5.cell? ⟨w.heap.size + 1, 4, none⟩ = some (.slice a4 l4 c4) := (hb5.cell (p := ⟨w.heap.size + 1, 4, none⟩) (by first | exact y0 | exact y1)).trans bt4
    have ct5 : w5.cell? ⟨w.heap.size + 1, 5, none⟩ = some (.int .i64 x.sfn) := (hb5.cell (p := ⟨w.heap.size + 1, 5, none⟩) (by first | exact y0 | exact y1)).trans bt5
    have ct6 : w5.cell? ⟨w.heap.size + 1, 6, none⟩ = some (.slice a6 l6 c6) := (hb5.cell (p := ⟨w.heap.size + 1, 6, none⟩) (by first | exact y0 | exact y1)).trans bt6
    have ct7 : w5.cell? ⟨w.heap.size + 1, 7, none⟩ = some (.slice a7 l7 c7) := (hb5.cell (p := ⟨w.heap.size + 1, 7, none⟩) (by first | exact y0 | exact y1)).trans bt7
    clear bj0 bj1 bj2 bj3 bj4 bj5 bj6 bj7 bj8 bj9 bt0 bt1 bt2 bt3 bt4 bt5 bt6 bt7
    have h5 := h4.below hb5
    have hbX : Below w5.heap.size w5 (w5.alloc (.cells #[.int .i64 x.n, .bool x.op, .slice a2q l2 l2, .slice a3q l3 l3, .slice a4q l4 l4, .int .i64 x.sfn, .slice a6q l6 l6, .slice a7q l7 l7] 30)) := bel_one _ _
    have HX := H2.below hbX
    go_wp2_with fail
    go_region_held3 (fun W => ((W.cell? ⟨w.heap.size, 0, none⟩ = some (.int .i64 s) ∧ W.cell? ⟨w.heap.size, 1, none⟩ = some (.int .i64 t) ∧ W.cell? ⟨w.heap.size, 2, none⟩ = some (.int .i64 k) ∧ W.cell? ⟨w.heap.size, 3, none⟩ = some (.int .i64 z) ∧ W.cell? ⟨w.heap.size, 4, none⟩ = some (.int .i64 p) ∧ W.cell? ⟨w.heap.size, 5, none⟩ = some (.int .i64 l) ∧ W.cell? ⟨w.heap.size, 6, none⟩ = some (.int .i64 e) ∧ W.cell? ⟨w.heap.size, 7, none⟩ = some (.bool b) ∧ W.cell? ⟨w.heap.size, 8, none⟩ = some (.int .i64 v) ∧ W.cell? ⟨w.heap.size, 9, none⟩ = some (.int .i64 r) ∧ W.cell? ⟨w5.heap.size, 0, none⟩ = some (.int .i64 x.n) ∧ W.cell? ⟨w5.heap.size, 1, none⟩ = some (.bool x.op) ∧ W.cell? ⟨w5.heap.size, 2, none⟩ = some (.slice a2q l2 l2) ∧ W.cell? ⟨w5.heap.size, 3, none⟩ = some (.slice a3q l3 l3) ∧ W.cell? ⟨w5.heap.size, 4, none⟩ = some (.slice a4q l4 l4) ∧ W.cell? ⟨w5.heap.size, 5, none⟩ = some (.int .i64 x.sfn) ∧ W.cell? ⟨w5.heap.size, 6, none⟩ = some (.slice a6q l6 l6) ∧ W.cell? ⟨w5.heap.size, 7, none⟩ = some (.slice a7q l7 l7)) ∧ w.heap.size < W.heap.size ∧ w5.heap.size < W.heap.size)) ((first | ((repeat (first | (with_reducible assumption) | (with_reducible refine hd_10_8 ?_ (by with_reducible assumption)) | (with_reducible refine hd_10_8 ?_ (bel_drew (Below.refl _ _))) | (with_reducible exact hd_10_8_re (by with_reducible assumption) (by first | omega | (simp; done) | (simp; omega)) (by first | omega | (simp; done) | (simp; omega))) | (with_reducible refine hd_10_8 ?_ (bel_one _ _)) | (with_reducible refine hd_10_8_set ?_ (by first | omega | (simp; done) | (simp; omega)) (by first | omega | (simp; done) | (simp; omega)) _))); done) | (refine ⟨⟨?_, ?_, ?_, ?_, ?_, ?_, ?_, ?_, ?_, ?_, ?_, ?_, ?_, ?_, ?_, ?_, ?_, ?_⟩, ?_, ?_⟩ <;> first | (go_keep; done) | (simp; done) | (simp; omega) | omega)))
      (first
      | (go_at_call 8; refine (toJob_any _ _ _ _ _ _ _ _ _ _ _).mono ?_; rintro e' w6 ⟨rfl, hb6⟩; obtain ⟨hc6, hf6, hs6⟩ := bcell hb6)
      | (go_at_call 16; refine (implckpok_eq s t k z p l e b v r x a2q l2 l2 a3q l3 l3 a4q l4 l4 a6q l6 l6 a7q l7 l7 _ _ (HX.below (by repeat (first | (with_reducible exact Below.refl _ _) | (with_reducible assumption) | (with_reducible refine bel_set ?_ (by first | (simp; done) | (simp; omega)) _) | (with_reducible refine bel_alloc ?_ _) | (with_reducible refine bel_drew ?_) | (with_reducible refine bel_drewN ?_ _) | (with_reducible refine bel_trans ?_ (by with_reducible assumption))))) hsm hV).mono ?_; rintro e' w7 ⟨rfl, hb7⟩; obtain ⟨hc7, hf7, hs7⟩ := bcell hb7))
    have hB7 : Below (w5.alloc (.cells #[.int .i64 x.n, .bool x.op, .slice a2q l2 l2, .slice a3q l3 l3, .slice a4q l4 l4, .int .i64 x.sfn, .slice a6q l6 l6, .slice a7q l7 l7] 30)).heap.size (w5.alloc (.cells #[.int .i64 x.n, .bool x.op, .slice a2q l2 l2, .slice a3q l3 l3, .slice a4q l4 l4, .int .i64 x.sfn, .slice a6q l6 l6, .slice a7q l7 l7] 30)) w7 := (by repeat (first | (with_reducible exact Below.refl _ _) | (with_reducible assumption) | (with_reducible refine bel_set ?_ (by first | (simp; done) | (simp; omega)) _) | (with_reducible refine bel_alloc ?_ _) | (with_reducible refine bel_drew ?_) | (with_reducible refine bel_drewN ?_ _) | (with_reducible refine bel_trans ?_ (by with_reducible assumption))))
    clear hc6 hf6 hs6 hc7 hf7 hs7 hb6 hb7
    have v0 : w5.heap.size < w7.heap.size := by have h9 := hB7.size; simp at h9; omega
    have v1 : w.heap.size + 1 < w7.heap.size := by omega
    have e0 : w7.cell? ⟨w.heap.size + 1, 0, none⟩ = some (.int .i64 x.n) := (hB7.cell (p := ⟨w.heap.size + 1, 0, none⟩) (by simp <;> omega)).trans ((hbX.cell (p := ⟨w.heap.size + 1, 0, none⟩) x1).trans ct0)
    have e1 : w7.cell? ⟨w.heap.size + 1, 1, none⟩ = some (.bool x.op) := (hB7.cell (p := ⟨w.heap.size + 1, 1, none⟩) (by simp <;> omega)).trans ((hbX.cell (p := ⟨w.heap.size + 1, 1, none⟩) x1).trans ct1)
    have e2 : w7.cell? ⟨w.heap.size + 1, 2, none⟩ = some (.slice a2 l2 c2) := (hB7.cell (p := ⟨w.heap.size + 1, 2, none⟩) (by simp <;> omega)).trans ((hbX.cell (p := ⟨w.heap.size + 1, 2, none⟩) x1).trans ct2)
    have e3 : w7.cell? ⟨w.heap.size + 1, 3, none⟩ = some (.slice a3 l3 c3) := (hB7.cell (p := ⟨w.heap.size + 1, 3, none⟩) (by simp <;> omega)).trans ((hbX.cell (p := ⟨w.heap.size + 1, 3, none⟩) x1).trans ct3)
    have e4 : w7.cell? ⟨w.heap.size + 1, 4, none⟩ = some (.slice a4 l4 c4) := (hB7.cell (p := ⟨w.heap.size + 1, 4, none⟩) (by simp <;> omega)).trans ((hbX.cell (p := ⟨w.heap.size + 1, 4, none⟩) x1).trans ct4)
    have e5 : w7.cell? ⟨w.heap.size + 1, 5, none⟩ = some (.int .i64 x.sfn) := (hB7.cell (p := ⟨w.heap.size + 1, 5, none⟩) (by simp <;> omega)).trans ((hbX.cell (p := ⟨w.heap.size + 1, 5, none⟩) x1).trans ct5)
    have e6 : w7.cell? ⟨w.heap.size + 1, 6, none⟩ = some (.slice a6 l6 c6) := (hB7.cell (p := ⟨w.heap.size + 1, 6, none⟩) (by simp <;> omega)).trans ((hbX.cell (p := ⟨w.heap.size + 1, 6, none⟩) x1).trans ct6)
    have e7 : w7.cell? ⟨w.heap.size + 1, 7, none⟩ = some (.slice a7 l7 c7) := (hB7.cell (p := ⟨w.heap.size + 1, 7, none⟩) (by simp <;> omega)).trans ((hbX.cell (p := ⟨w.heap.size + 1, 7, none⟩) x1).trans ct7)
    have f0 : w7.cell? ⟨w5.heap.size, 0, none⟩ = some (.int .i64 x.n) := (hB7.cell (p := ⟨w5.heap.size, 0, none⟩) (by simp)).trans (by simp [go_sem])
    have f1 : w7.cell? ⟨w5.heap.size, 1, none⟩ = some (.bool x.op) := (hB7.cell (p := ⟨w5.heap.size, 1, none⟩) (by simp)).trans (by simp [go_sem])
    have f2 : w7.cell? ⟨w5.heap.size, 2, none⟩ = some (.slice a2q l2 l2) := (hB7.cell (p := ⟨w5.heap.size, 2, none⟩) (by simp)).trans (by simp [go_sem])
    have f3 : w7.cell? ⟨w5.heap.size, 3, none⟩ = some (.slice a3q l3 l3) := (hB7.cell (p := ⟨w5.heap.size, 3, none⟩) (by simp)).trans (by simp [go_sem])
    have f4 : w7.cell? ⟨w5.heap.size, 4, none⟩ = some (.slice a4q l4 l4) := (hB7.cell (p := ⟨w5.heap.size, 4, none⟩) (by simp)).trans (by simp [go_sem])
    have f5 : w7.cell? ⟨w5.heap.size, 5, none⟩ = some (.int .i64 x.sfn) := (hB7.cell (p := ⟨w5.heap.size, 5, none⟩) (by simp)).trans (by simp [go_sem])
    have f6 : w7.cell? ⟨w5.heap.size, 6, none⟩ = some (.slice a6q l6 l6) := (hB7.cell (p := ⟨w5.heap.size, 6, none⟩) (by simp)).trans (by simp [go_sem])
    have f7 : w7.cell? ⟨w5.heap.size, 7, none⟩ = some (.slice a7q l7 l7) := (hB7.cell (p := ⟨w5.heap.size, 7, none⟩) (by simp)).trans (by simp [go_sem])
    clear cj0 cj1 cj2 cj3 cj4 cj5 cj6 cj7 cj8 cj9 ct0 ct1 ct2 ct3 ct4 ct5 ct6 ct7
    have h7 := (h5.below hbX).below hB7
    have H7 := HX.below hB7
    have hbF : Below w.heap.size w w7 := bel_trans hbF1 (bel_trans hB4 (bel_trans hb5 (bel_trans hbX hB7)))
    clear hB4 hb5 hbX hB7 h1 h4 h5 H2 HX hbF1
    go_wp2_with fail
    go_region_held3 (fun W => ((W.cell? ⟨w.heap.size + 1, 0, none⟩ = some (.int .i64 x.n) ∧ W.cell? ⟨w.heap.size + 1, 1, none⟩ = some (.bool x.op) ∧ W.cell? ⟨w.heap.size + 1, 2, none⟩ = some (.slice a2 l2 c2) ∧ W.cell? ⟨w.heap.size + 1, 3, none⟩ = some (.slice a3 l3 c3) ∧ W.cell? ⟨w.heap.size + 1, 4, none⟩ = some (.slice a4 l4 c4) ∧ W.cell? ⟨w.heap.size + 1, 5, none⟩ = some (.int .i64 x.sfn) ∧ W.cell? ⟨w.heap.size + 1, 6, none⟩ = some (.slice a6 l6 c6) ∧ W.cell? ⟨w.heap.size + 1, 7, none⟩ = some (.slice a7 l7 c7) ∧ W.cell? ⟨w5.heap.size, 0, none⟩ = some (.int .i64 x.n) ∧ W.cell? ⟨w5.heap.size, 1, none⟩ = some (.bool x.op) ∧ W.cell? ⟨w5.heap.size, 2, none⟩ = some (.slice a2q l2 l2) ∧ W.cell? ⟨w5.heap.size, 3, none⟩ = some (.slice a3q l3 l3) ∧ W.cell? ⟨w5.heap.size, 4, none⟩ = some (.slice a4q l4 l4) ∧ W.cell? ⟨w5.heap.size, 5, none⟩ = some (.int .i64 x.sfn) ∧ W.cell? ⟨w5.heap.size, 6, none⟩ = some (.slice a6q l6 l6) ∧ W.cell? ⟨w5.heap.size, 7, none⟩ = some (.slice a7q l7 l7)) ∧ w.heap.size + 1 < W.heap.size ∧ w5.heap.size < W.heap.size)) ((first | ((repeat (first | (with_reducible assumption) | (with_reducible refine hd_8_8 ?_ (by with_reducible assumption)) | (with_reducible refine hd_8_8 ?_ (bel_drew (Below.refl _ _))) | (with_reducible exact hd_8_8_re (by with_reducible assumption) (by first | omega | (simp; done) | (simp; omega)) (by first | omega | (simp; done) | (simp; omega))) | (with_reducible refine hd_8_8 ?_ (bel_one _ _)) | (with_reducible refine hd_8_8_set ?_ (by first | omega | (simp; done) | (simp; omega)) (by first | omega | (simp; done) | (simp; omega)) _))); done) | (refine ⟨⟨?_, ?_, ?_, ?_, ?_, ?_, ?_, ?_, ?_, ?_, ?_, ?_, ?_, ?_, ?_, ?_⟩, ?_, ?_⟩ <;> first | (go_keep; done) | (simp; done) | (simp; omega) | omega)))
      (first
      | (go_at_call 15; refine (toCk_any x a2 l2 c2 a3 l3 c3 a4 l4 c4 a6 l6 c6 a7 l7 c7 _ (h7.below (by repeat (first | (with_reducible exact Below.refl _ _) | (with_reducible assumption) | (with_reducible refine bel_set ?_ (by first | (simp; done) | (simp; omega)) _) | (with_reducible refine bel_alloc ?_ _) | (with_reducible refine bel_drew ?_) | (with_reducible refine bel_drewN ?_ _) | (with_reducible refine bel_trans ?_ (by with_reducible assumption))))) hok).mono ?_; rintro e' w8 ⟨a2r, a3r, a4r, a6r, a7r, rfl, H3, hb8⟩; obtain ⟨hc8, hf8, hs8⟩ := bcell hb8)
      | (go_at_call 10; refine (eqCk_any _ _ x a2q a2r l2 l2 l2 a3q a3r l3 l3 l3 a4q a4r l4 l4 l4 a6q a6r l6 l6 l6 a7q a7r l7 l7 l7 _ (H7.below (by repeat (first | (with_reducible exact Below.refl _ _) | (with_reducible assumption) | (with_reducible refine bel_set ?_ (by first | (simp; done) | (simp; omega)) _) | (with_reducible refine bel_alloc ?_ _) | (with_reducible refine bel_drew ?_) | (with_reducible refine bel_drewN ?_ _) | (with_reducible refine bel_trans ?_ (by with_reducible assumption))))) (H3.below (by repeat (first | (with_reducible exact Below.refl _ _) | (with_reducible assumption) | (with_reducible refine bel_set ?_ (by first | (simp; done) | (simp; omega)) _) | (with_reducible refine bel_alloc ?_ _) | (with_reducible refine bel_drew ?_) | (with_reducible refine bel_drewN ?_ _) | (with_reducible refine bel_trans ?_ (by with_reducible assumption)))))).mono ?_; rintro e' w9 ⟨rfl, hb9⟩))
    go_wp2
    go_ret
    exact ⟨rfl, (by repeat (first | (with_reducible exact Below.refl _ _) | (with_reducible assumption) | (with_reducible refine bel_set ?_ (by first | (simp; done) | (simp; omega)) _) | (with_reducible refine bel_alloc ?_ _) | (with_reducible refine bel_drew ?_) | (with_reducible refine bel_drewN ?_ _) | (with_reducible refine bel_trans ?_ (by with_reducible assumption))))⟩

end Go.Proofs.Ythndkapaepmjpaa
