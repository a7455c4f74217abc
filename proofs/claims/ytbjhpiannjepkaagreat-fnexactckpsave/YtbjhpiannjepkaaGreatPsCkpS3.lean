/- Laid together: what the claim needs of the texts that were built one by one. -/
import Derived.Test.YtbjhpiannjepkaaGreatPsCkpS2
import Derived.Test.YtbjhpiannjepkaaGreatPsBase
namespace Go.Proofs.YtbjhpiannjepkaaGreat
open Go.ChangeShapes Go.WideShapes Go.ChangeAt Go.RowKit Go.Deep
set_option linter.unusedVariables false

/-- Checkpoints lie in memory. -/
structure CkIs (W : World) (B : Nat) (a2 : Option Addr) (l2 : Nat) (a3 : Option Addr) (l3 : Nat) (a4 : Option Addr) (l4 : Nat) (a6 : Option Addr) (l6 : Nat) (a7 : Option Addr) (l7 : Nat) (x : CkD) : Prop where
  src : InB W B a2 l2 x.src
  tsk : BoB W B a3 l3 x.tsk
  sn : SnB W B a4 l4 x.sn
  at_ : InB W B a6 l6 x.at_
  ssn : SnB W B a7 l7 x.ssn

theorem CkIs.below {W W' : World} {B : Nat} {a2 a3 a4 a6 a7 : Option Addr} {l2 l3 l4 l6 l7 : Nat} {x : CkD} (h : CkIs W B a2 l2 a3 l3 a4 l4 a6 l6 a7 l7 x) (hb : Below W.heap.size W W') : CkIs W' B a2 l2 a3 l3 a4 l4 a6 l6 a7 l7 x := ⟨h.1.below hb, h.2.below hb, h.3.below hb, h.4.below hb, h.5.below hb⟩

theorem CkIs.less {W : World} {B B' : Nat} {a2 a3 a4 a6 a7 : Option Addr} {l2 l3 l4 l6 l7 : Nat} {x : CkD} (h : CkIs W B a2 l2 a3 l3 a4 l4 a6 l6 a7 l7 x) (hB : B' ≤ B) : CkIs W B' a2 l2 a3 l3 a4 l4 a6 l6 a7 l7 x := ⟨h.1.less hB, h.2.less hB, h.3.less hB, h.4.less hB, h.5.less hB⟩

/-- Nothing is kept of a task. -/
def nothSn (y : SnD) : Bool := y.ma == 0 && decide (y.rows.length + y.marks.length = 0)

/-- Whether a source, a task, may have told that. -/
def okSrc (op : Bool) (m : Int) : Bool := inB m (-1) 40 && (op || m == -1)

def okTk (s t k z p l e v r : Int) (op : Bool) (q : Bool × SnD) : Bool := match q.1 with
  | true => op && okSn s t k z p l e v r q.2
  | false => nothSn q.2

/-- Whether checkpoints are ok. -/
def okCk (s t k z p l e v r : Int) (x : CkD) : Bool := okJob s t k z p l e v r && inB x.n x.sfn 900 && !(x.op && x.n == x.sfn) && decide ((x.src.length : Int) = s) && decide ((x.tsk.length : Int) = t) && decide ((x.sn.length : Int) = t) && okCs s t k z p l e v r ⟨x.sfn, x.at_, x.ssn⟩ && x.src.all (okSrc x.op) && (x.tsk.zip x.sn).all (okTk s t k z p l e v r x.op)

theorem zip_at {α β : Type} {xs : List α} {ys : List β} {i : Nat} {x : α} {y : β} (h1 : xs[i]? = some x) (h2 : ys[i]? = some y) : (xs.zip ys)[i]? = some (x, y) := by
  rw [List.getElem?_zip_eq_some]
  exact ⟨h1, h2⟩

theorem okCk_and {s t k z p l e v r : Int} {x : CkD} (h : okCk s t k z p l e v r x = true) : (x.src.length : Int) = s ∧ (x.tsk.length : Int) = t ∧ (x.sn.length : Int) = t ∧ okCs s t k z p l e v r ⟨x.sfn, x.at_, x.ssn⟩ = true ∧ x.src.all (okSrc x.op) = true ∧ (x.tsk.zip x.sn).all (okTk s t k z p l e v r x.op) = true := by
  unfold okCk at h
  simp only [Bool.and_eq_true, decide_eq_true_eq] at h
  obtain ⟨⟨⟨⟨⟨⟨_, h4⟩, h5⟩, h6⟩, h7⟩, h8⟩, h9⟩ := h
  exact ⟨h4, h5, h6, h7, h8, h9⟩

theorem okCk_val {s t k z p l e v r : Int} {x : CkD} (h1 : okJob s t k z p l e v r = true) (h2 : inB x.n x.sfn 900 = true) (h3 : (x.op && x.n == x.sfn) = false) (h4 : (x.src.length : Int) = s) (h5 : (x.tsk.length : Int) = t) (h6 : (x.sn.length : Int) = t) (h7 : okCs s t k z p l e v r ⟨x.sfn, x.at_, x.ssn⟩ = true) : okCk s t k z p l e v r x = (x.src.all (okSrc x.op) && (x.tsk.zip x.sn).all (okTk s t k z p l e v r x.op)) := by
  unfold okCk
  rw [h1, h2, h3, decide_eq_true h4, decide_eq_true h5, decide_eq_true h6, h7]
  rfl

theorem hd_10_8_1_3 {b0 b1 b2 b3 o0x0 o0x1 o0x2 o0x3 o0x4 o0x5 o0x6 o0x7 o0x8 o0x9 o1x0 o1x1 o1x2 o1x3 o1x4 o1x5 o1x6 o1x7 o2x0 o3x0 o3x1 o3x2 : Nat} {v0x0 v0x1 v0x2 v0x3 v0x4 v0x5 v0x6 v0x7 v0x8 v0x9 v1x0 v1x1 v1x2 v1x3 v1x4 v1x5 v1x6 v1x7 v2x0 v3x0 v3x1 v3x2 : Value} {W W' : World} (h : ((W.cell? ⟨b0, o0x0, none⟩ = some (v0x0) ∧ W.cell? ⟨b0, o0x1, none⟩ = some (v0x1) ∧ W.cell? ⟨b0, o0x2, none⟩ = some (v0x2) ∧ W.cell? ⟨b0, o0x3, none⟩ = some (v0x3) ∧ W.cell? ⟨b0, o0x4, none⟩ = some (v0x4) ∧ W.cell? ⟨b0, o0x5, none⟩ = some (v0x5) ∧ W.cell? ⟨b0, o0x6, none⟩ = some (v0x6) ∧ W.cell? ⟨b0, o0x7, none⟩ = some (v0x7) ∧ W.cell? ⟨b0, o0x8, none⟩ = some (v0x8) ∧ W.cell? ⟨b0, o0x9, none⟩ = some (v0x9) ∧ W.cell? ⟨b1, o1x0, none⟩ = some (v1x0) ∧ W.cell? ⟨b1, o1x1, none⟩ = some (v1x1) ∧ W.cell? ⟨b1, o1x2, none⟩ = some (v1x2) ∧ W.cell? ⟨b1, o1x3, none⟩ = some (v1x3) ∧ W.cell? ⟨b1, o1x4, none⟩ = some (v1x4) ∧ W.cell? ⟨b1, o1x5, none⟩ = some (v1x5) ∧ W.cell? ⟨b1, o1x6, none⟩ = some (v1x6) ∧ W.cell? ⟨b1, o1x7, none⟩ = some (v1x7) ∧ W.cell? ⟨b2, o2x0, none⟩ = some (v2x0) ∧ W.cell? ⟨b3, o3x0, none⟩ = some (v3x0) ∧ W.cell? ⟨b3, o3x1, none⟩ = some (v3x1) ∧ W.cell? ⟨b3, o3x2, none⟩ = some (v3x2)) ∧ b0 < W.heap.size ∧ b1 < W.heap.size ∧ b2 < W.heap.size ∧ b3 < W.heap.size)) (hb : Below W.heap.size W W') : ((W'.cell? ⟨b0, o0x0, none⟩ = some (v0x0) ∧ W'.cell? ⟨b0, o0x1, none⟩ = some (v0x1) ∧ W'.cell? ⟨b0, o0x2, none⟩ = some (v0x2) ∧ W'.cell? ⟨b0, o0x3, none⟩ = some (v0x3) ∧ W'.cell? ⟨b0, o0x4, none⟩ = some (v0x4) ∧ W'.cell? ⟨b0, o0x5, none⟩ = some (v0x5) ∧ W'.cell? ⟨b0, o0x6, none⟩ = some (v0x6) ∧ W'.cell? ⟨b0, o0x7, none⟩ = some (v0x7) ∧ W'.cell? ⟨b0, o0x8, none⟩ = some (v0x8) ∧ W'.cell? ⟨b0, o0x9, none⟩ = some (v0x9) ∧ W'.cell? ⟨b1, o1x0, none⟩ = some (v1x0) ∧ W'.cell? ⟨b1, o1x1, none⟩ = some (v1x1) ∧ W'.cell? ⟨b1, o1x2, none⟩ = some (v1x2) ∧ W'.cell? ⟨b1, o1x3, none⟩ = some (v1x3) ∧ W'.cell? ⟨b1, o1x4, none⟩ = some (v1x4) ∧ W'.cell? ⟨b1, o1x5, none⟩ = some (v1x5) ∧ W'.cell? ⟨b1, o1x6, none⟩ = some (v1x6) ∧ W'.cell? ⟨b1, o1x7, none⟩ = some (v1x7) ∧ W'.cell? ⟨b2, o2x0, none⟩ = some (v2x0) ∧ W'.cell? ⟨b3, o3x0, none⟩ = some (v3x0) ∧ W'.cell? ⟨b3, o3x1, none⟩ = some (v3x1) ∧ W'.cell? ⟨b3, o3x2, none⟩ = some (v3x2)) ∧ b0 < W'.heap.size ∧ b1 < W'.heap.size ∧ b2 < W'.heap.size ∧ b3 < W'.heap.size) := by
  obtain ⟨⟨h0, h1, h2, h3, h4, h5, h6, h7, h8, h9, h10, h11, h12, h13, h14, h15, h16, h17, h18, h19, h20, h21⟩, s0, s1, s2, s3⟩ := h
  refine ⟨⟨?_, ?_, ?_, ?_, ?_, ?_, ?_, ?_, ?_, ?_, ?_, ?_, ?_, ?_, ?_, ?_, ?_, ?_, ?_, ?_, ?_, ?_⟩, Nat.lt_of_lt_of_le s0 hb.size, Nat.lt_of_lt_of_le s1 hb.size, Nat.lt_of_lt_of_le s2 hb.size, Nat.lt_of_lt_of_le s3 hb.size⟩
  · rw [hb.cell s0]; exact h0
  · rw [hb.cell s0]; exact h1
  · rw [hb.cell s0]; exact h2
  · rw [hb.cell s0]; exact h3
  · rw [hb.cell s0]; exact h4
  · rw [hb.cell s0]; exact h5
  · rw [hb.cell s0]; exact h6
  · rw [hb.cell s0]; exact h7
  · rw [hb.cell s0]; exact h8
  · rw [hb.cell s0]; exact h9
  · rw [hb.cell s1]; exact h10
  · rw [hb.cell s1]; exact h11
  · rw [hb.cell s1]; exact h12
  · rw [hb.cell s1]; exact h13
  · rw [hb.cell s1]; exact h14
  · rw [hb.cell s1]; exact h15
  · rw [hb.cell s1]; exact h16
  · rw [hb.cell s1]; exact h17
  · rw [hb.cell s2]; exact h18
  · rw [hb.cell s3]; exact h19
  · rw [hb.cell s3]; exact h20
  · rw [hb.cell s3]; exact h21

theorem hd_10_8_1_3_set {b0 b1 b2 b3 o0x0 o0x1 o0x2 o0x3 o0x4 o0x5 o0x6 o0x7 o0x8 o0x9 o1x0 o1x1 o1x2 o1x3 o1x4 o1x5 o1x6 o1x7 o2x0 o3x0 o3x1 o3x2 : Nat} {v0x0 v0x1 v0x2 v0x3 v0x4 v0x5 v0x6 v0x7 v0x8 v0x9 v1x0 v1x1 v1x2 v1x3 v1x4 v1x5 v1x6 v1x7 v2x0 v3x0 v3x1 v3x2 : Value} {W : World} {p : Addr} (h : ((W.cell? ⟨b0, o0x0, none⟩ = some (v0x0) ∧ W.cell? ⟨b0, o0x1, none⟩ = some (v0x1) ∧ W.cell? ⟨b0, o0x2, none⟩ = some (v0x2) ∧ W.cell? ⟨b0, o0x3, none⟩ = some (v0x3) ∧ W.cell? ⟨b0, o0x4, none⟩ = some (v0x4) ∧ W.cell? ⟨b0, o0x5, none⟩ = some (v0x5) ∧ W.cell? ⟨b0, o0x6, none⟩ = some (v0x6) ∧ W.cell? ⟨b0, o0x7, none⟩ = some (v0x7) ∧ W.cell? ⟨b0, o0x8, none⟩ = some (v0x8) ∧ W.cell? ⟨b0, o0x9, none⟩ = some (v0x9) ∧ W.cell? ⟨b1, o1x0, none⟩ = some (v1x0) ∧ W.cell? ⟨b1, o1x1, none⟩ = some (v1x1) ∧ W.cell? ⟨b1, o1x2, none⟩ = some (v1x2) ∧ W.cell? ⟨b1, o1x3, none⟩ = some (v1x3) ∧ W.cell? ⟨b1, o1x4, none⟩ = some (v1x4) ∧ W.cell? ⟨b1, o1x5, none⟩ = some (v1x5) ∧ W.cell? ⟨b1, o1x6, none⟩ = some (v1x6) ∧ W.cell? ⟨b1, o1x7, none⟩ = some (v1x7) ∧ W.cell? ⟨b2, o2x0, none⟩ = some (v2x0) ∧ W.cell? ⟨b3, o3x0, none⟩ = some (v3x0) ∧ W.cell? ⟨b3, o3x1, none⟩ = some (v3x1) ∧ W.cell? ⟨b3, o3x2, none⟩ = some (v3x2)) ∧ b0 < W.heap.size ∧ b1 < W.heap.size ∧ b2 < W.heap.size ∧ b3 < W.heap.size)) (p0 : p.block ≠ b0) (p1 : p.block ≠ b1) (p2 : p.block ≠ b2) (p3 : p.block ≠ b3) (u : Value) : (((W.setCell p u).cell? ⟨b0, o0x0, none⟩ = some (v0x0) ∧ (W.setCell p u).cell? ⟨b0, o0x1, none⟩ = some (v0x1) ∧ (W.setCell p u).cell? ⟨b0, o0x2, none⟩ = some (v0x2) ∧ (W.setCell p u).cell? ⟨b0, o0x3, none⟩ = some (v0x3) ∧ (W.setCell p u).cell? ⟨b0, o0x4, none⟩ = some (v0x4) ∧ (W.setCell p u).cell? ⟨b0, o0x5, none⟩ = some (v0x5) ∧ (W.setCell p u).cell? ⟨b0, o0x6, none⟩ = some (v0x6) ∧ (W.setCell p u).cell? ⟨b0, o0x7, none⟩ = some (v0x7) ∧ (W.setCell p u).cell? ⟨b0, o0x8, none⟩ = some (v0x8) ∧ (W.setCell p u).cell? ⟨b0, o0x9, none⟩ = some (v0x9) ∧ (W.setCell p u).cell? ⟨b1, o1x0, none⟩ = some (v1x0) ∧ (W.setCell p u).cell? ⟨b1, o1x1, none⟩ = some (v1x1) ∧ (W.setCell p u).cell? ⟨b1, o1x2, none⟩ = some (v1x2) ∧ (W.setCell p u).cell? ⟨b1, o1x3, none⟩ = some (v1x3) ∧ (W.setCell p u).cell? ⟨b1, o1x4, none⟩ = some (v1x4) ∧ (W.setCell p u).cell? ⟨b1, o1x5, none⟩ = some (v1x5) ∧ (W.setCell p u).cell? ⟨b1, o1x6, none⟩ = some (v1x6) ∧ (W.setCell p u).cell? ⟨b1, o1x7, none⟩ = some (v1x7) ∧ (W.setCell p u).cell? ⟨b2, o2x0, none⟩ = some (v2x0) ∧ (W.setCell p u).cell? ⟨b3, o3x0, none⟩ = some (v3x0) ∧ (W.setCell p u).cell? ⟨b3, o3x1, none⟩ = some (v3x1) ∧ (W.setCell p u).cell? ⟨b3, o3x2, none⟩ = some (v3x2)) ∧ b0 < (W.setCell p u).heap.size ∧ b1 < (W.setCell p u).heap.size ∧ b2 < (W.setCell p u).heap.size ∧ b3 < (W.setCell p u).heap.size) := by
  obtain ⟨⟨h0, h1, h2, h3, h4, h5, h6, h7, h8, h9, h10, h11, h12, h13, h14, h15, h16, h17, h18, h19, h20, h21⟩, s0, s1, s2, s3⟩ := h
  have hb : W.heap.size ≤ (W.setCell p u).heap.size := by simp [World.setCell]
  refine ⟨⟨?_, ?_, ?_, ?_, ?_, ?_, ?_, ?_, ?_, ?_, ?_, ?_, ?_, ?_, ?_, ?_, ?_, ?_, ?_, ?_, ?_, ?_⟩, Nat.lt_of_lt_of_le s0 hb, Nat.lt_of_lt_of_le s1 hb, Nat.lt_of_lt_of_le s2 hb, Nat.lt_of_lt_of_le s3 hb⟩
  · rw [cell_set_ne p0]; exact h0
  · rw [cell_set_ne p0]; exact h1
  · rw [cell_set_ne p0]; exact h2
  · rw [cell_set_ne p0]; exact h3
  · rw [cell_set_ne p0]; exact h4
  · rw [cell_set_ne p0]; exact h5
  · rw [cell_set_ne p0]; exact h6
  · rw [cell_set_ne p0]; exact h7
  · rw [cell_set_ne p0]; exact h8
  · rw [cell_set_ne p0]; exact h9
  · rw [cell_set_ne p1]; exact h10
  · rw [cell_set_ne p1]; exact h11
  · rw [cell_set_ne p1]; exact h12
  · rw [cell_set_ne p1]; exact h13
  · rw [cell_set_ne p1]; exact h14
  · rw [cell_set_ne p1]; exact h15
  · rw [cell_set_ne p1]; exact h16
  · rw [cell_set_ne p1]; exact h17
  · rw [cell_set_ne p2]; exact h18
  · rw [cell_set_ne p3]; exact h19
  · rw [cell_set_ne p3]; exact h20
  · rw [cell_set_ne p3]; exact h21

theorem hd_10_8_1_3_re {b0 b1 b2 b3 o0x0 o0x1 o0x2 o0x3 o0x4 o0x5 o0x6 o0x7 o0x8 o0x9 o1x0 o1x1 o1x2 o1x3 o1x4 o1x5 o1x6 o1x7 o2x0 o3x0 o3x1 o3x2 : Nat} {v0x0 v0x1 v0x2 v0x3 v0x4 v0x5 v0x6 v0x7 v0x8 v0x9 v1x0 v1x1 v1x2 v1x3 v1x4 v1x5 v1x6 v1x7 v2x0 v3x0 v3x1 v3x2 : Value} {W : World} {o o' : Obj} (h : (((W.alloc o).cell? ⟨b0, o0x0, none⟩ = some (v0x0) ∧ (W.alloc o).cell? ⟨b0, o0x1, none⟩ = some (v0x1) ∧ (W.alloc o).cell? ⟨b0, o0x2, none⟩ = some (v0x2) ∧ (W.alloc o).cell? ⟨b0, o0x3, none⟩ = some (v0x3) ∧ (W.alloc o).cell? ⟨b0, o0x4, none⟩ = some (v0x4) ∧ (W.alloc o).cell? ⟨b0, o0x5, none⟩ = some (v0x5) ∧ (W.alloc o).cell? ⟨b0, o0x6, none⟩ = some (v0x6) ∧ (W.alloc o).cell? ⟨b0, o0x7, none⟩ = some (v0x7) ∧ (W.alloc o).cell? ⟨b0, o0x8, none⟩ = some (v0x8) ∧ (W.alloc o).cell? ⟨b0, o0x9, none⟩ = some (v0x9) ∧ (W.alloc o).cell? ⟨b1, o1x0, none⟩ = some (v1x0) ∧ (W.alloc o).cell? ⟨b1, o1x1, none⟩ = some (v1x1) ∧ (W.alloc o).cell? ⟨b1, o1x2, none⟩ = some (v1x2) ∧ (W.alloc o).cell? ⟨b1, o1x3, none⟩ = some (v1x3) ∧ (W.alloc o).cell? ⟨b1, o1x4, none⟩ = some (v1x4) ∧ (W.alloc o).cell? ⟨b1, o1x5, none⟩ = some (v1x5) ∧ (W.alloc o).cell? ⟨b1, o1x6, none⟩ = some (v1x6) ∧ (W.alloc o).cell? ⟨b1, o1x7, none⟩ = some (v1x7) ∧ (W.alloc o).cell? ⟨b2, o2x0, none⟩ = some (v2x0) ∧ (W.alloc o).cell? ⟨b3, o3x0, none⟩ = some (v3x0) ∧ (W.alloc o).cell? ⟨b3, o3x1, none⟩ = some (v3x1) ∧ (W.alloc o).cell? ⟨b3, o3x2, none⟩ = some (v3x2)) ∧ b0 < (W.alloc o).heap.size ∧ b1 < (W.alloc o).heap.size ∧ b2 < (W.alloc o).heap.size ∧ b3 < (W.alloc o).heap.size)) (p0 : b0 < W.heap.size) (p1 : b1 < W.heap.size) (p2 : b2 < W.heap.size) (p3 : b3 < W.heap.size) : (((W.alloc o').cell? ⟨b0, o0x0, none⟩ = some (v0x0) ∧ (W.alloc o').cell? ⟨b0, o0x1, none⟩ = some (v0x1) ∧ (W.alloc o').cell? ⟨b0, o0x2, none⟩ = some (v0x2) ∧ (W.alloc o').cell? ⟨b0, o0x3, none⟩ = some (v0x3) ∧ (W.alloc o').cell? ⟨b0, o0x4, none⟩ = some (v0x4) ∧ (W.alloc o').cell? ⟨b0, o0x5, none⟩ = some (v0x5) ∧ (W.alloc o').cell? ⟨b0, o0x6, none⟩ = some (v0x6) ∧ (W.alloc o').cell? ⟨b0, o0x7, none⟩ = some (v0x7) ∧ (W.alloc o').cell? ⟨b0, o0x8, none⟩ = some (v0x8) ∧ (W.alloc o').cell? ⟨b0, o0x9, none⟩ = some (v0x9) ∧ (W.alloc o').cell? ⟨b1, o1x0, none⟩ = some (v1x0) ∧ (W.alloc o').cell? ⟨b1, o1x1, none⟩ = some (v1x1) ∧ (W.alloc o').cell? ⟨b1, o1x2, none⟩ = some (v1x2) ∧ (W.alloc o').cell? ⟨b1, o1x3, none⟩ = some (v1x3) ∧ (W.alloc o').cell? ⟨b1, o1x4, none⟩ = some (v1x4) ∧ (W.alloc o').cell? ⟨b1, o1x5, none⟩ = some (v1x5) ∧ (W.alloc o').cell? ⟨b1, o1x6, none⟩ = some (v1x6) ∧ (W.alloc o').cell? ⟨b1, o1x7, none⟩ = some (v1x7) ∧ (W.alloc o').cell? ⟨b2, o2x0, none⟩ = some (v2x0) ∧ (W.alloc o').cell? ⟨b3, o3x0, none⟩ = some (v3x0) ∧ (W.alloc o').cell? ⟨b3, o3x1, none⟩ = some (v3x1) ∧ (W.alloc o').cell? ⟨b3, o3x2, none⟩ = some (v3x2)) ∧ b0 < (W.alloc o').heap.size ∧ b1 < (W.alloc o').heap.size ∧ b2 < (W.alloc o').heap.size ∧ b3 < (W.alloc o').heap.size) := by
  obtain ⟨⟨h0, h1, h2, h3, h4, h5, h6, h7, h8, h9, h10, h11, h12, h13, h14, h15, h16, h17, h18, h19, h20, h21⟩, s0, s1, s2, s3⟩ := h
  have hb : Below W.heap.size (W.alloc o) (W.alloc o') := bel_re W o o'
  refine ⟨⟨?_, ?_, ?_, ?_, ?_, ?_, ?_, ?_, ?_, ?_, ?_, ?_, ?_, ?_, ?_, ?_, ?_, ?_, ?_, ?_, ?_, ?_⟩, Nat.lt_of_lt_of_le s0 hb.size, Nat.lt_of_lt_of_le s1 hb.size, Nat.lt_of_lt_of_le s2 hb.size, Nat.lt_of_lt_of_le s3 hb.size⟩
  · rw [hb.cell p0]; exact h0
  · rw [hb.cell p0]; exact h1
  · rw [hb.cell p0]; exact h2
  · rw [hb.cell p0]; exact h3
  · rw [hb.cell p0]; exact h4
  · rw [hb.cell p0]; exact h5
  · rw [hb.cell p0]; exact h6
  · rw [hb.cell p0]; exact h7
  · rw [hb.cell p0]; exact h8
  · rw [hb.cell p0]; exact h9
  · rw [hb.cell p1]; exact h10
  · rw [hb.cell p1]; exact h11
  · rw [hb.cell p1]; exact h12
  · rw [hb.cell p1]; exact h13
  · rw [hb.cell p1]; exact h14
  · rw [hb.cell p1]; exact h15
  · rw [hb.cell p1]; exact h16
  · rw [hb.cell p1]; exact h17
  · rw [hb.cell p2]; exact h18
  · rw [hb.cell p3]; exact h19
  · rw [hb.cell p3]; exact h20
  · rw [hb.cell p3]; exact h21

set_option linter.unusedSimpArgs false in
set_option maxRecDepth 20000 in
set_option maxHeartbeats 8000000 in
theorem specckpok_f (s t k z p l e : Int) (b : Bool) (v r : Int) (xn : Int) (xsrc : List Int) (xtsk : List Bool) (xsn : List SnD) (xsfn : Int) (xat : List Int) (xssn : List SnD) (a2 : Option Addr) (l2 c2 : Nat) (a3 : Option Addr) (l3 c3 : Nat) (a4 : Option Addr) (l4 c4 : Nat) (a6 : Option Addr) (l6 c6 : Nat) (a7 : Option Addr) (l7 c7 : Nat) (B : Nat) (w : World) (h : CkIs w B a2 l2 a3 l3 a4 l4 a6 l6 a7 l7 ⟨xn, false, xsrc, xtsk, xsn, xsfn, xat, xssn⟩) (hsm : ∀ y ∈ xsn, y.sm) (hj : okJob s t k z p l e v r = true) (hi : inB xn xsfn 900 = true) (hq : (false && xn == xsfn) = false) : Calls Tryz.prog 19 #[.agg #[.int .i64 s, .int .i64 t, .int .i64 k, .int .i64 z, .int .i64 p, .int .i64 l, .int .i64 e, .bool b, .int .i64 v, .int .i64 r], .agg #[.int .i64 xn, .bool false, .slice a2 l2 c2, .slice a3 l3 c3, .slice a4 l4 c4, .int .i64 xsfn, .slice a6 l6 c6, .slice a7 l7 c7]] w fun e' w' => e' = .returned (.bool (okCk s t k z p l e v r ⟨xn, false, xsrc, xtsk, xsn, xsfn, xat, xssn⟩)) ∧ Below w.heap.size w w' := by
  have le2 := h.src.len.1
  have hm2 := h.src.len.2
  have le3 := h.tsk.len.1
  have hm3 := h.tsk.len.2
  have le4 := h.sn.len.1
  have hm4 := h.sn.len.2
  unfold maxLen at hm2 hm3 hm4
  dsimp only at *
  by_cases hl : (l2 : Int) = s
  rotate_left
  · skip
    have hl1 : ((l2 : Int) == s) = false := beq_eq_false_iff_ne.2 hl
    have hl2 : ((l2 : Int) != s) = true := by simp [hl]
    have HE : Hid (okCk s t k z p l e v r ⟨xn, false, xsrc, xtsk, xsn, xsfn, xat, xssn⟩ = false) := hide (Bool.eq_false_iff.2 (fun hc => hl (by rw [← le2]; exact (okCk_and hc).1)))
    go_enter Tryz.func19, Tryz.ntmps19
    go_wp2_with (first
      | (go_at_call 45; refine (specjobok_any _ _ _ _ _ _ _ _ _ _ _).mono ?_; rw [hj]; rintro e' w1 ⟨rfl, hb1⟩; obtain ⟨hc1, hf1, hs1⟩ := bcell hb1; have hz10 : w.heap.size < w1.heap.size := (by have h9 := hb1.size; (try simp at h9); omega); have hz11 : w.heap.size + 1 < w1.heap.size := (by have h9 := hb1.size; (try simp at h9); omega))
      | (go_at_call 46; refine (l1In_any _ _ _ _).mono ?_; rw [hi]; rintro e' w5 ⟨rfl, hw⟩; obtain rfl := hw.symm; clear hw))
    go_ret
    exact ⟨ret_b (unhide HE).symm, (belA)⟩
  subst hl
  by_cases ht : (l3 : Int) = t
  rotate_left
  · skip
    have ht1 : ((l3 : Int) == t) = false := beq_eq_false_iff_ne.2 ht
    have ht2 : ((l3 : Int) != t) = true := by simp [ht]
    have HE : Hid (okCk (l2 : Int) t k z p l e v r ⟨xn, false, xsrc, xtsk, xsn, xsfn, xat, xssn⟩ = false) := hide (Bool.eq_false_iff.2 (fun hc => ht (by rw [← le3]; exact (okCk_and hc).2.1)))
    go_enter Tryz.func19, Tryz.ntmps19
    go_wp2_with (first
      | (go_at_call 45; refine (specjobok_any _ _ _ _ _ _ _ _ _ _ _).mono ?_; rw [hj]; rintro e' w1 ⟨rfl, hb1⟩; obtain ⟨hc1, hf1, hs1⟩ := bcell hb1; have hz10 : w.heap.size < w1.heap.size := (by have h9 := hb1.size; (try simp at h9); omega); have hz11 : w.heap.size + 1 < w1.heap.size := (by have h9 := hb1.size; (try simp at h9); omega))
      | (go_at_call 46; refine (l1In_any _ _ _ _).mono ?_; rw [hi]; rintro e' w5 ⟨rfl, hw⟩; obtain rfl := hw.symm; clear hw))
    go_ret
    exact ⟨ret_b (unhide HE).symm, (belA)⟩
  subst ht
  by_cases hu : (l4 : Int) = (l3 : Int)
  rotate_left
  · skip
    have hu1 : ((l4 : Int) == (l3 : Int)) = false := beq_eq_false_iff_ne.2 hu
    have hu2 : ((l4 : Int) != (l3 : Int)) = true := by simp [hu]
    have HE : Hid (okCk (l2 : Int) (l3 : Int) k z p l e v r ⟨xn, false, xsrc, xtsk, xsn, xsfn, xat, xssn⟩ = false) := hide (Bool.eq_false_iff.2 (fun hc => hu (by rw [← le4]; exact (okCk_and hc).2.2.1)))
    go_enter Tryz.func19, Tryz.ntmps19
    go_wp2_with (first
      | (go_at_call 45; refine (specjobok_any _ _ _ _ _ _ _ _ _ _ _).mono ?_; rw [hj]; rintro e' w1 ⟨rfl, hb1⟩; obtain ⟨hc1, hf1, hs1⟩ := bcell hb1; have hz10 : w.heap.size < w1.heap.size := (by have h9 := hb1.size; (try simp at h9); omega); have hz11 : w.heap.size + 1 < w1.heap.size := (by have h9 := hb1.size; (try simp at h9); omega))
      | (go_at_call 46; refine (l1In_any _ _ _ _).mono ?_; rw [hi]; rintro e' w5 ⟨rfl, hw⟩; obtain rfl := hw.symm; clear hw))
    go_ret
    exact ⟨ret_b (unhide HE).symm, (belA)⟩
  obtain rfl : l3 = l4 := by omega
  clear hu
  cases hs : okCs (l2 : Int) (l3 : Int) k z p l e v r ⟨xsfn, xat, xssn⟩
  · skip
    have HE : Hid (okCk (l2 : Int) (l3 : Int) k z p l e v r ⟨xn, false, xsrc, xtsk, xsn, xsfn, xat, xssn⟩ = false) := hide (Bool.eq_false_iff.2 (fun hc => by have h9 := (okCk_and hc).2.2.2.1; rw [hs] at h9; cases h9))
    go_enter Tryz.func19, Tryz.ntmps19
    go_wp2_with (first
      | (go_at_call 45; refine (specjobok_any _ _ _ _ _ _ _ _ _ _ _).mono ?_; rw [hj]; rintro e' w1 ⟨rfl, hb1⟩; obtain ⟨hc1, hf1, hs1⟩ := bcell hb1; have hz10 : w.heap.size < w1.heap.size := (by have h9 := hb1.size; (try simp at h9); omega); have hz11 : w.heap.size + 1 < w1.heap.size := (by have h9 := hb1.size; (try simp at h9); omega))
      | (go_at_call 46; refine (l1In_any _ _ _ _).mono ?_; rw [hi]; rintro e' w5 ⟨rfl, hw⟩; obtain rfl := hw.symm; clear hw)
      | (go_at_call 47; refine (l9safe_any (l2 : Int) (l3 : Int) k z p l e b v r ⟨xsfn, xat, xssn⟩ a6 l6 c6 a7 l7 c7 B _ (h.at_.below (belA)) (h.ssn.below (belA))).mono ?_; rw [hs]; rintro e' w2 ⟨rfl, hb2⟩; obtain ⟨hc2, hf2, hs2⟩ := bcell hb2; have hz20 : w.heap.size < w2.heap.size := (by have h9 := hb2.size; (try simp at h9); omega); have hz21 : w.heap.size + 1 < w2.heap.size := (by have h9 := hb2.size; (try simp at h9); omega)))
    go_ret
    exact ⟨ret_b (unhide HE).symm, (belA)⟩
  have HV : Hid (okCk (l2 : Int) (l3 : Int) k z p l e v r ⟨xn, false, xsrc, xtsk, xsn, xsfn, xat, xssn⟩ = (xsrc.all (okSrc false) && (xtsk.zip xsn).all (okTk (l2 : Int) (l3 : Int) k z p l e v r false))) := hide (okCk_val hj hi hq (by rw [le2]) (by rw [le3]) (by rw [le4]) hs)
  go_enter Tryz.func19, Tryz.ntmps19
  go_wp2_with (first
      | (go_at_call 45; refine (specjobok_any _ _ _ _ _ _ _ _ _ _ _).mono ?_; rw [hj]; rintro e' w1 ⟨rfl, hb1⟩; obtain ⟨hc1, hf1, hs1⟩ := bcell hb1; have hz10 : w.heap.size < w1.heap.size := (by have h9 := hb1.size; (try simp at h9); omega); have hz11 : w.heap.size + 1 < w1.heap.size := (by have h9 := hb1.size; (try simp at h9); omega))
      | (go_at_call 46; refine (l1In_any _ _ _ _).mono ?_; rw [hi]; rintro e' w5 ⟨rfl, hw⟩; obtain rfl := hw.symm; clear hw)
      | (go_at_call 47; refine (l9safe_any (l2 : Int) (l3 : Int) k z p l e b v r ⟨xsfn, xat, xssn⟩ a6 l6 c6 a7 l7 c7 B _ (h.at_.below (belA)) (h.ssn.below (belA))).mono ?_; rw [hs]; rintro e' w2 ⟨rfl, hb2⟩; obtain ⟨hc2, hf2, hs2⟩ := bcell hb2; have hz20 : w.heap.size < w2.heap.size := (by have h9 := hb2.size; (try simp at h9); omega); have hz21 : w.heap.size + 1 < w2.heap.size := (by have h9 := hb2.size; (try simp at h9); omega)))
  have hQ : Below ((w.alloc (.cells #[.int .i64 (l2 : Int), .int .i64 (l3 : Int), .int .i64 k, .int .i64 z, .int .i64 p, .int .i64 l, .int .i64 e, .bool b, .int .i64 v, .int .i64 r] 39)).alloc (.cells #[.int .i64 xn, .bool false, .slice a2 l2 c2, .slice a3 l3 c3, .slice a4 l3 c4, .int .i64 xsfn, .slice a6 l6 c6, .slice a7 l7 c7] 36)).heap.size ((w.alloc (.cells #[.int .i64 (l2 : Int), .int .i64 (l3 : Int), .int .i64 k, .int .i64 z, .int .i64 p, .int .i64 l, .int .i64 e, .bool b, .int .i64 v, .int .i64 r] 39)).alloc (.cells #[.int .i64 xn, .bool false, .slice a2 l2 c2, .slice a3 l3 c3, .slice a4 l3 c4, .int .i64 xsfn, .slice a6 l6 c6, .slice a7 l7 c7] 36)) w2 := bel_trans hb1 hb2
  have hW : Below w.heap.size w w2 := bel_trans (bel_alloc (bel_one _ _) _) hQ
  have H2 := h.src.1.below hW
  have H3 := h.tsk.1.below hW
  have H4 := h.sn.below hW
  have jb0 : w2.cell? ⟨w.heap.size, 0, none⟩ = some (.int .i64 (l2 : Int)) := (hQ.cell (p := ⟨w.heap.size, 0, none⟩) (by simp <;> omega)).trans (by simp [go_sem])
  have jb1 : w2.cell? ⟨w.heap.size, 1, none⟩ = some (.int .i64 (l3 : Int)) := (hQ.cell (p := ⟨w.heap.size, 1, none⟩) (by simp <;> omega)).trans (by simp [go_sem])
  have jb2 : w2.cell? ⟨w.heap.size, 2, none⟩ = some (.int .i64 k) := (hQ.cell (p := ⟨w.heap.size, 2, none⟩) (by simp <;> omega)).trans (by simp [go_sem])
  have jb3 : w2.cell? ⟨w.heap.size, 3, none⟩ = some (.int .i64 z) := (hQ.cell (p := ⟨w.heap.size, 3, none⟩) (by simp <;> omega)).trans (by simp [go_sem])
  have jb4 : w2.cell? ⟨w.heap.size, 4, none⟩ = some (.int .i64 p) := (hQ.cell (p := ⟨w.heap.size, 4, none⟩) (by simp <;> omega)).trans (by simp [go_sem])
  have jb5 : w2.cell? ⟨w.heap.size, 5, none⟩ = some (.int .i64 l) := (hQ.cell (p := ⟨w.heap.size, 5, none⟩) (by simp <;> omega)).trans (by simp [go_sem])
  have jb6 : w2.cell? ⟨w.heap.size, 6, none⟩ = some (.int .i64 e) := (hQ.cell (p := ⟨w.heap.size, 6, none⟩) (by simp <;> omega)).trans (by simp [go_sem])
  have jb7 : w2.cell? ⟨w.heap.size, 7, none⟩ = some (.bool b) := (hQ.cell (p := ⟨w.heap.size, 7, none⟩) (by simp <;> omega)).trans (by simp [go_sem])
  have jb8 : w2.cell? ⟨w.heap.size, 8, none⟩ = some (.int .i64 v) := (hQ.cell (p := ⟨w.heap.size, 8, none⟩) (by simp <;> omega)).trans (by simp [go_sem])
  have jb9 : w2.cell? ⟨w.heap.size, 9, none⟩ = some (.int .i64 r) := (hQ.cell (p := ⟨w.heap.size, 9, none⟩) (by simp <;> omega)).trans (by simp [go_sem])
  have kb0 : w2.cell? ⟨w.heap.size + 1, 0, none⟩ = some (.int .i64 xn) := (hQ.cell (p := ⟨w.heap.size + 1, 0, none⟩) (by simp <;> omega)).trans (by simp [go_sem])
  have kb1 : w2.cell? ⟨w.heap.size + 1, 1, none⟩ = some (.bool false) := (hQ.cell (p := ⟨w.heap.size + 1, 1, none⟩) (by simp <;> omega)).trans (by simp [go_sem])
  have kb2 : w2.cell? ⟨w.heap.size + 1, 2, none⟩ = some (.slice a2 l2 c2) := (hQ.cell (p := ⟨w.heap.size + 1, 2, none⟩) (by simp <;> omega)).trans (by simp [go_sem])
  have kb3 : w2.cell? ⟨w.heap.size + 1, 3, none⟩ = some (.slice a3 l3 c3) := (hQ.cell (p := ⟨w.heap.size + 1, 3, none⟩) (by simp <;> omega)).trans (by simp [go_sem])
  have kb4 : w2.cell? ⟨w.heap.size + 1, 4, none⟩ = some (.slice a4 l3 c4) := (hQ.cell (p := ⟨w.heap.size + 1, 4, none⟩) (by simp <;> omega)).trans (by simp [go_sem])
  have kb5 : w2.cell? ⟨w.heap.size + 1, 5, none⟩ = some (.int .i64 xsfn) := (hQ.cell (p := ⟨w.heap.size + 1, 5, none⟩) (by simp <;> omega)).trans (by simp [go_sem])
  have kb6 : w2.cell? ⟨w.heap.size + 1, 6, none⟩ = some (.slice a6 l6 c6) := (hQ.cell (p := ⟨w.heap.size + 1, 6, none⟩) (by simp <;> omega)).trans (by simp [go_sem])
  have kb7 : w2.cell? ⟨w.heap.size + 1, 7, none⟩ = some (.slice a7 l7 c7) := (hQ.cell (p := ⟨w.heap.size + 1, 7, none⟩) (by simp <;> omega)).trans (by simp [go_sem])
  clear hc1 hf1 hs1 hb1 hc2 hf2 hs2 hb2 hQ hz10 hz11 hj hi hs hq
  go_loopw [5] (fun i wr => ∃ ix : Nat, ix ≤ l2 ∧ i = .int .i64 ix ∧ Hid ((xsrc.take ix).all (okSrc false) = true) ∧ Below w2.heap.size w2 wr) (fun i _ => l2 - (intOf i).toNat)
  case atStart => exact ⟨0, Nat.zero_le _, rfl, hide (by simp), Below.refl _ _⟩
  case round =>
    obtain ⟨ix, hk, rfl, hA, hbw⟩ := hrel
    have tb0 : wr.cell? ⟨w.heap.size + 1, 0, none⟩ = some (.int .i64 xn) := (hbw.cell (p := ⟨w.heap.size + 1, 0, none⟩) (by simp <;> omega)).trans kb0
    have tb1 : wr.cell? ⟨w.heap.size + 1, 1, none⟩ = some (.bool false) := (hbw.cell (p := ⟨w.heap.size + 1, 1, none⟩) (by simp <;> omega)).trans kb1
    have tb2 : wr.cell? ⟨w.heap.size + 1, 2, none⟩ = some (.slice a2 l2 c2) := (hbw.cell (p := ⟨w.heap.size + 1, 2, none⟩) (by simp <;> omega)).trans kb2
    have tb3 : wr.cell? ⟨w.heap.size + 1, 3, none⟩ = some (.slice a3 l3 c3) := (hbw.cell (p := ⟨w.heap.size + 1, 3, none⟩) (by simp <;> omega)).trans kb3
    have tb4 : wr.cell? ⟨w.heap.size + 1, 4, none⟩ = some (.slice a4 l3 c4) := (hbw.cell (p := ⟨w.heap.size + 1, 4, none⟩) (by simp <;> omega)).trans kb4
    have tb5 : wr.cell? ⟨w.heap.size + 1, 5, none⟩ = some (.int .i64 xsfn) := (hbw.cell (p := ⟨w.heap.size + 1, 5, none⟩) (by simp <;> omega)).trans kb5
    have tb6 : wr.cell? ⟨w.heap.size + 1, 6, none⟩ = some (.slice a6 l6 c6) := (hbw.cell (p := ⟨w.heap.size + 1, 6, none⟩) (by simp <;> omega)).trans kb6
    have tb7 : wr.cell? ⟨w.heap.size + 1, 7, none⟩ = some (.slice a7 l7 c7) := (hbw.cell (p := ⟨w.heap.size + 1, 7, none⟩) (by simp <;> omega)).trans kb7
    by_cases hlt : ix < l2
    · obtain ⟨hxl, _, hx⟩ := H2
      obtain ⟨g, o, rfl, hrr⟩ := hx.resolve_left (by omega)
      obtain ⟨y, hyk⟩ : ∃ y, xsrc[ix]? = some y := ⟨_, List.getElem?_eq_getElem (by omega)⟩
      have hg := hrr.lt (by omega)
      have hX := hide hyk
      have d0 := (hbw.cell (p := ⟨g, o + ix, none⟩) hg).trans (hrr ix _ hyk)
      clear hx hyk hrr
      cases hB : inB y (-1) 40
      · have HE : Hid (xsrc.all (okSrc false) = false) := hide (all_ff (unhide hX) (by unfold okSrc; rw [hB]; rfl))
        go_wp2_with (go_at_call 46; refine (l1In_any _ _ _ _).mono ?_; rw [hB]; rintro e' w5 ⟨rfl, hw⟩; obtain rfl := hw.symm; clear hw)
        go_ret
        exact ⟨ret_b (by rw [unhide HV, unhide HE]; rfl), (belA)⟩
      · by_cases hm : y = -1
        · subst hm
          have HE : Hid ((xsrc.take (ix + 1)).all (okSrc false) = true) := hide (all_tt (unhide hA) (unhide hX) (by decide))
          go_wp2_with (go_at_call 46; refine (l1In_any _ _ _ _).mono ?_; rw [hB]; rintro e' w5 ⟨rfl, hw⟩; obtain rfl := hw.symm; clear hw)
          go_roundw
          case rel => exact ⟨ix + 1, by omega, by go_num, HE, (belA)⟩
          case measure => simp [intOf]; omega
        · have hm1 : (y == -1) = false := beq_eq_false_iff_ne.2 hm
          have hm2 : (y != -1) = true := by simp [hm]
          have HE : Hid (xsrc.all (okSrc false) = false) := hide (all_ff (unhide hX) (by unfold okSrc; rw [hB, hm1]; rfl))
          go_wp2_with (go_at_call 46; refine (l1In_any _ _ _ _).mono ?_; rw [hB]; rintro e' w5 ⟨rfl, hw⟩; obtain rfl := hw.symm; clear hw)
          go_ret
          exact ⟨ret_b (by rw [unhide HV, unhide HE]; rfl), (belA)⟩
    · have HV2 : Hid (okCk (l2 : Int) (l3 : Int) k z p l e v r ⟨xn, false, xsrc, xtsk, xsn, xsfn, xat, xssn⟩ = (xtsk.zip xsn).all (okTk (l2 : Int) (l3 : Int) k z p l e v r false)) := hide (by rw [unhide HV, all_end (unhide hA) (by omega)]; rfl)
      clear HV hA
      obtain ⟨wz, hwz⟩ : ∃ wz, wz = wr := ⟨_, rfl⟩
      subst hwz
      have K3 := H3.below hbw
      have K4 := H4.below hbw
      have hWz : Below w.heap.size w wz := (belA)
      have jz0 : wz.cell? ⟨w.heap.size, 0, none⟩ = some (.int .i64 (l2 : Int)) := (hbw.cell (p := ⟨w.heap.size, 0, none⟩) (by simp <;> omega)).trans jb0
      have jz1 : wz.cell? ⟨w.heap.size, 1, none⟩ = some (.int .i64 (l3 : Int)) := (hbw.cell (p := ⟨w.heap.size, 1, none⟩) (by simp <;> omega)).trans jb1
      have jz2 : wz.cell? ⟨w.heap.size, 2, none⟩ = some (.int .i64 k) := (hbw.cell (p := ⟨w.heap.size, 2, none⟩) (by simp <;> omega)).trans jb2
      have jz3 : wz.cell? ⟨w.heap.size, 3, none⟩ = some (.int .i64 z) := (hbw.cell (p := ⟨w.heap.size, 3, none⟩) (by simp <;> omega)).trans jb3
      have jz4 : wz.cell? ⟨w.heap.size, 4, none⟩ = some (.int .i64 p) := (hbw.cell (p := ⟨w.heap.size, 4, none⟩) (by simp <;> omega)).trans jb4
      have jz5 : wz.cell? ⟨w.heap.size, 5, none⟩ = some (.int .i64 l) := (hbw.cell (p := ⟨w.heap.size, 5, none⟩) (by simp <;> omega)).trans jb5
      have jz6 : wz.cell? ⟨w.heap.size, 6, none⟩ = some (.int .i64 e) := (hbw.cell (p := ⟨w.heap.size, 6, none⟩) (by simp <;> omega)).trans jb6
      have jz7 : wz.cell? ⟨w.heap.size, 7, none⟩ = some (.bool b) := (hbw.cell (p := ⟨w.heap.size, 7, none⟩) (by simp <;> omega)).trans jb7
      have jz8 : wz.cell? ⟨w.heap.size, 8, none⟩ = some (.int .i64 v) := (hbw.cell (p := ⟨w.heap.size, 8, none⟩) (by simp <;> omega)).trans jb8
      have jz9 : wz.cell? ⟨w.heap.size, 9, none⟩ = some (.int .i64 r) := (hbw.cell (p := ⟨w.heap.size, 9, none⟩) (by simp <;> omega)).trans jb9
      have hzz : w.heap.size + 1 < wz.heap.size := by have h9 := hbw.size; omega
      go_wp2
      go_loopw [6] (fun i wr => ∃ ix : Nat, ix ≤ l3 ∧ i = .int .i64 ix ∧ Hid (((xtsk.zip xsn).take ix).all (okTk (l2 : Int) (l3 : Int) k z p l e v r false) = true) ∧ Below wz.heap.size wz wr) (fun i _ => l3 - (intOf i).toNat)
      case atStart => exact ⟨0, Nat.zero_le _, rfl, hide (by simp), Below.refl _ _⟩
      case round =>
        obtain ⟨ix, hk, rfl, hA, hbq⟩ := hrel
        have jc0 : wr.cell? ⟨w.heap.size, 0, none⟩ = some (.int .i64 (l2 : Int)) := (hbq.cell (p := ⟨w.heap.size, 0, none⟩) (by simp <;> omega)).trans jz0
        have jc1 : wr.cell? ⟨w.heap.size, 1, none⟩ = some (.int .i64 (l3 : Int)) := (hbq.cell (p := ⟨w.heap.size, 1, none⟩) (by simp <;> omega)).trans jz1
        have jc2 : wr.cell? ⟨w.heap.size, 2, none⟩ = some (.int .i64 k) := (hbq.cell (p := ⟨w.heap.size, 2, none⟩) (by simp <;> omega)).trans jz2
        have jc3 : wr.cell? ⟨w.heap.size, 3, none⟩ = some (.int .i64 z) := (hbq.cell (p := ⟨w.heap.size, 3, none⟩) (by simp <;> omega)).trans jz3
        have jc4 : wr.cell? ⟨w.heap.size, 4, none⟩ = some (.int .i64 p) := (hbq.cell (p := ⟨w.heap.size, 4, none⟩) (by simp <;> omega)).trans jz4
        have jc5 : wr.cell? ⟨w.heap.size, 5, none⟩ = some (.int .i64 l) := (hbq.cell (p := ⟨w.heap.size, 5, none⟩) (by simp <;> omega)).trans jz5
        have jc6 : wr.cell? ⟨w.heap.size, 6, none⟩ = some (.int .i64 e) := (hbq.cell (p := ⟨w.heap.size, 6, none⟩) (by simp <;> omega)).trans jz6
        have jc7 : wr.cell? ⟨w.heap.size, 7, none⟩ = some (.bool b) := (hbq.cell (p := ⟨w.heap.size, 7, none⟩) (by simp <;> omega)).trans jz7
        have jc8 : wr.cell? ⟨w.heap.size, 8, none⟩ = some (.int .i64 v) := (hbq.cell (p := ⟨w.heap.size, 8, none⟩) (by simp <;> omega)).trans jz8
        have jc9 : wr.cell? ⟨w.heap.size, 9, none⟩ = some (.int .i64 r) := (hbq.cell (p := ⟨w.heap.size, 9, none⟩) (by simp <;> omega)).trans jz9
        have tc0 : wr.cell? ⟨w.heap.size + 1, 0, none⟩ = some (.int .i64 xn) := (hbq.cell (p := ⟨w.heap.size + 1, 0, none⟩) (by simp <;> omega)).trans tb0
        have tc1 : wr.cell? ⟨w.heap.size + 1, 1, none⟩ = some (.bool false) := (hbq.cell (p := ⟨w.heap.size + 1, 1, none⟩) (by simp <;> omega)).trans tb1
        have tc2 : wr.cell? ⟨w.heap.size + 1, 2, none⟩ = some (.slice a2 l2 c2) := (hbq.cell (p := ⟨w.heap.size + 1, 2, none⟩) (by simp <;> omega)).trans tb2
        have tc3 : wr.cell? ⟨w.heap.size + 1, 3, none⟩ = some (.slice a3 l3 c3) := (hbq.cell (p := ⟨w.heap.size + 1, 3, none⟩) (by simp <;> omega)).trans tb3
        have tc4 : wr.cell? ⟨w.heap.size + 1, 4, none⟩ = some (.slice a4 l3 c4) := (hbq.cell (p := ⟨w.heap.size + 1, 4, none⟩) (by simp <;> omega)).trans tb4
        have tc5 : wr.cell? ⟨w.heap.size + 1, 5, none⟩ = some (.int .i64 xsfn) := (hbq.cell (p := ⟨w.heap.size + 1, 5, none⟩) (by simp <;> omega)).trans tb5
        have tc6 : wr.cell? ⟨w.heap.size + 1, 6, none⟩ = some (.slice a6 l6 c6) := (hbq.cell (p := ⟨w.heap.size + 1, 6, none⟩) (by simp <;> omega)).trans tb6
        have tc7 : wr.cell? ⟨w.heap.size + 1, 7, none⟩ = some (.slice a7 l7 c7) := (hbq.cell (p := ⟨w.heap.size + 1, 7, none⟩) (by simp <;> omega)).trans tb7
        have hz2 : w.heap.size + 1 < wr.heap.size := by have h9 := hbq.size; omega
        by_cases hlt : ix < l3
        · obtain ⟨hxl, _, hx⟩ := K3
          obtain ⟨g, o, rfl, hrr⟩ := hx.resolve_left (by omega)
          obtain ⟨hxl4, _, hx4⟩ := K4
          obtain ⟨g2, o2, rfl, _, hrr4⟩ := hx4.resolve_left (by omega)
          obtain ⟨qb, hqk⟩ : ∃ y, xtsk[ix]? = some y := ⟨_, List.getElem?_eq_getElem (by omega)⟩
          obtain ⟨y, hyk⟩ : ∃ y, xsn[ix]? = some y := ⟨_, List.getElem?_eq_getElem (by omega)⟩
          have hltI : (ix : Int) < (l3 : Int) := by omega
          have hg : g < wr.heap.size := Nat.lt_of_lt_of_le (hrr.lt (by omega)) hbq.size
          have dq := (hbq.cell (p := ⟨g, o + ix, none⟩) (hrr.lt (by omega))).trans (hrr ix _ hqk)
          have t1 := (hrr4 ix _ hyk).below hbq
          have hg2 := t1.lt
          have hX := hide (zip_at hqk hyk)
          obtain ⟨sy1, sy2⟩ := hsm y (List.mem_of_getElem? hyk)
          obtain ⟨qa1, ql1, qc1, qa2, ql2, qc2, ⟨d0, d1, d2⟩, k1, k2⟩ := t1
          have ky1 := k1.len
          have ky2 := k2.len
          unfold maxLen at ky1 ky2
          clear hx hyk hrr hx4 hqk hrr4
          have hS : ((wr.cell? ⟨w.heap.size, 0, none⟩ = some (.int .i64 (l2 : Int)) ∧ wr.cell? ⟨w.heap.size, 1, none⟩ = some (.int .i64 (l3 : Int)) ∧ wr.cell? ⟨w.heap.size, 2, none⟩ = some (.int .i64 k) ∧ wr.cell? ⟨w.heap.size, 3, none⟩ = some (.int .i64 z) ∧ wr.cell? ⟨w.heap.size, 4, none⟩ = some (.int .i64 p) ∧ wr.cell? ⟨w.heap.size, 5, none⟩ = some (.int .i64 l) ∧ wr.cell? ⟨w.heap.size, 6, none⟩ = some (.int .i64 e) ∧ wr.cell? ⟨w.heap.size, 7, none⟩ = some (.bool b) ∧ wr.cell? ⟨w.heap.size, 8, none⟩ = some (.int .i64 v) ∧ wr.cell? ⟨w.heap.size, 9, none⟩ = some (.int .i64 r) ∧ wr.cell? ⟨w.heap.size + 1, 0, none⟩ = some (.int .i64 xn) ∧ wr.cell? ⟨w.heap.size + 1, 1, none⟩ = some (.bool false) ∧ wr.cell? ⟨w.heap.size + 1, 2, none⟩ = some (.slice a2 l2 c2) ∧ wr.cell? ⟨w.heap.size + 1, 3, none⟩ = some (.slice (some ⟨g, o, none⟩) l3 c3) ∧ wr.cell? ⟨w.heap.size + 1, 4, none⟩ = some (.slice (some ⟨g2, o2, none⟩) l3 c4) ∧ wr.cell? ⟨w.heap.size + 1, 5, none⟩ = some (.int .i64 xsfn) ∧ wr.cell? ⟨w.heap.size + 1, 6, none⟩ = some (.slice a6 l6 c6) ∧ wr.cell? ⟨w.heap.size + 1, 7, none⟩ = some (.slice a7 l7 c7) ∧ wr.cell? ⟨g, o + ix, none⟩ = some (.bool qb) ∧ wr.cell? ⟨g2, o2 + ix * 3, none⟩ = some (.int .i64 y.ma) ∧ wr.cell? ⟨g2, o2 + ix * 3 + 1, none⟩ = some (.slice qa1 ql1 qc1) ∧ wr.cell? ⟨g2, o2 + ix * 3 + 2, none⟩ = some (.slice qa2 ql2 qc2)) ∧ w.heap.size < wr.heap.size ∧ w.heap.size + 1 < wr.heap.size ∧ g < wr.heap.size ∧ g2 < wr.heap.size) := ⟨⟨jc0, jc1, jc2, jc3, jc4, jc5, jc6, jc7, jc8, jc9, tc0, tc1, tc2, tc3, tc4, tc5, tc6, tc7, dq, d0, d1, d2⟩, by omega, by omega, hg, hg2⟩
          clear jc0 jc1 jc2 jc3 jc4 jc5 jc6 jc7 jc8 jc9 tc0 tc1 tc2 tc3 tc4 tc5 tc6 tc7 dq d0 d1 d2
          cases qb
          · by_cases hm : y.ma = 0
            rotate_left
            · have hm1 : (y.ma == 0) = false := beq_eq_false_iff_ne.2 hm
              have hm2 : (y.ma != 0) = true := by simp [hm]
              have HE : Hid ((xtsk.zip xsn).all (okTk (l2 : Int) (l3 : Int) k z p l e v r false) = false) := hide (all_ff (unhide hX) (by show nothSn y = false; unfold nothSn; rw [hm1]; rfl))
              go_wp2_with fail
              refine wp_region_held_drew (S := (fun W => ((W.cell? ⟨w.heap.size, 0, none⟩ = some (.int .i64 (l2 : Int)) ∧ W.cell? ⟨w.heap.size, 1, none⟩ = some (.int .i64 (l3 : Int)) ∧ W.cell? ⟨w.heap.size, 2, none⟩ = some (.int .i64 k) ∧ W.cell? ⟨w.heap.size, 3, none⟩ = some (.int .i64 z) ∧ W.cell? ⟨w.heap.size, 4, none⟩ = some (.int .i64 p) ∧ W.cell? ⟨w.heap.size, 5, none⟩ = some (.int .i64 l) ∧ W.cell? ⟨w.heap.size, 6, none⟩ = some (.int .i64 e) ∧ W.cell? ⟨w.heap.size, 7, none⟩ = some (.bool b) ∧ W.cell? ⟨w.heap.size, 8, none⟩ = some (.int .i64 v) ∧ W.cell? ⟨w.heap.size, 9, none⟩ = some (.int .i64 r) ∧ W.cell? ⟨w.heap.size + 1, 0, none⟩ = some (.int .i64 xn) ∧ W.cell? ⟨w.heap.size + 1, 1, none⟩ = some (.bool false) ∧ W.cell? ⟨w.heap.size + 1, 2, none⟩ = some (.slice a2 l2 c2) ∧ W.cell? ⟨w.heap.size + 1, 3, none⟩ = some (.slice (some ⟨g, o, none⟩) l3 c3) ∧ W.cell? ⟨w.heap.size + 1, 4, none⟩ = some (.slice (some ⟨g2, o2, none⟩) l3 c4) ∧ W.cell? ⟨w.heap.size + 1, 5, none⟩ = some (.int .i64 xsfn) ∧ W.cell? ⟨w.heap.size + 1, 6, none⟩ = some (.slice a6 l6 c6) ∧ W.cell? ⟨w.heap.size + 1, 7, none⟩ = some (.slice a7 l7 c7) ∧ W.cell? ⟨g, o + ix, none⟩ = some (.bool false) ∧ W.cell? ⟨g2, o2 + ix * 3, none⟩ = some (.int .i64 y.ma) ∧ W.cell? ⟨g2, o2 + ix * 3 + 1, none⟩ = some (.slice qa1 ql1 qc1) ∧ W.cell? ⟨g2, o2 + ix * 3 + 2, none⟩ = some (.slice qa2 ql2 qc2)) ∧ w.heap.size < W.heap.size ∧ w.heap.size + 1 < W.heap.size ∧ g < W.heap.size ∧ g2 < W.heap.size))) (by kernel_rfl) ?_ (fun hHeld => ?_)
              · (try dsimp only); ((first | ((repeat (first | (with_reducible assumption) | (with_reducible refine hd_10_8_1_3 ?_ (by with_reducible assumption)) | (with_reducible refine hd_10_8_1_3 ?_ (bel_drew (Below.refl _ _))) | (with_reducible exact hd_10_8_1_3_re (by with_reducible assumption) (sB) (sB) (sB) (sB)) | (with_reducible refine hd_10_8_1_3 ?_ (bel_one _ _)) | (with_reducible refine hd_10_8_1_3_set ?_ (sB) (sB) (sB) (sB) _))); done) | (refine ⟨⟨?_, ?_, ?_, ?_, ?_, ?_, ?_, ?_, ?_, ?_, ?_, ?_, ?_, ?_, ?_, ?_, ?_, ?_, ?_, ?_, ?_, ?_⟩, ?_, ?_, ?_, ?_⟩ <;> first | (go_keep; done) | (simp; done) | (simp; omega) | omega)))
              refine kT 0 ?_ ?_ ?_
              rotate_left
              · (intro w9 hSw; (try dsimp only at hSw); go_simp <;> with_reducible rfl)
              try simp only [Act.put, tA, tZ, tS]
              refine kT 1 ?_ ?_ ?_
              rotate_left
              · (intro w9 hSw; (try dsimp only at hSw); go_simp <;> with_reducible rfl)
              try simp only [Act.put, tA, tZ, tS]
              refine kT 2 ?_ ?_ ?_
              rotate_left
              · (intro w9 hSw; (try dsimp only at hSw); go_simp <;> with_reducible rfl)
              try simp only [Act.put, tA, tZ, tS]
              refine kT 3 ?_ ?_ ?_
              rotate_left
              · (intro w9 hSw; (try dsimp only at hSw); go_simp <;> with_reducible rfl)
              try simp only [Act.put, tA, tZ, tS]
              refine kT 4 ?_ ?_ ?_
              rotate_left
              · (intro w9 hSw; (try dsimp only at hSw); go_simp <;> with_reducible rfl)
              try simp only [Act.put, tA, tZ, tS]
              refine kT 5 ?_ ?_ ?_
              rotate_left
              · (intro w9 hSw; (try dsimp only at hSw); go_simp <;> with_reducible rfl)
              try simp only [Act.put, tA, tZ, tS]
              refine kU 6 ?_
              try simp only [Act.put, tA, tZ, tS]
              refine kU 7 ?_
              try simp only [Act.put, tA, tZ, tS]
              refine kU 8 ?_
              try simp only [Act.put, tA, tZ, tS]
              refine kU 9 ?_
              try simp only [Act.put, tA, tZ, tS]
              refine kU 10 ?_
              try simp only [Act.put, tA, tZ, tS]
              refine kU 11 ?_
              try simp only [Act.put, tA, tZ, tS]
              refine kU 12 ?_
              try simp only [Act.put, tA, tZ, tS]
              refine kU 13 ?_
              try simp only [Act.put, tA, tZ, tS]
              refine kU 14 ?_
              try simp only [Act.put, tA, tZ, tS]
              refine kU 15 ?_
              try simp only [Act.put, tA, tZ, tS]
              refine kU 16 ?_
              try simp only [Act.put, tA, tZ, tS]
              refine kU 17 ?_
              try simp only [Act.put, tA, tZ, tS]
              refine kU 18 ?_
              try simp only [Act.put, tA, tZ, tS]
              refine kT 19 ?_ ?_ ?_
              rotate_left
              · (intro w9 hSw; (try dsimp only at hSw); go_simp <;> with_reducible rfl)
              try simp only [Act.put, tA, tZ, tS]
              refine kT 20 ?_ ?_ ?_
              rotate_left
              · (intro w9 hSw; (try dsimp only at hSw); go_simp <;> with_reducible rfl)
              try simp only [Act.put, tA, tZ, tS]
              refine kT 21 ?_ ?_ ?_
              rotate_left
              · (intro w9 hSw; (try dsimp only at hSw); go_simp <;> with_reducible rfl)
              try simp only [Act.put, tA, tZ, tS]
              refine kT 22 ?_ ?_ ?_
              rotate_left
              · (intro w9 hSw; (try dsimp only at hSw); go_simp <;> with_reducible rfl)
              try simp only [Act.put, tA, tZ, tS]
              refine kT 23 ?_ ?_ ?_
              rotate_left
              · (intro w9 hSw; (try dsimp only at hSw); go_simp <;> with_reducible rfl)
              try simp only [Act.put, tA, tZ, tS]
              refine kT 24 ?_ ?_ ?_
              rotate_left
              · (intro w9 hSw; (try dsimp only at hSw); go_simp <;> with_reducible rfl)
              try simp only [Act.put, tA, tZ, tS]
              refine kT 25 ?_ ?_ ?_
              rotate_left
              · (intro w9 hSw; (try dsimp only at hSw); go_simp <;> with_reducible rfl)
              try simp only [Act.put, tA, tZ, tS]
              refine kT 26 ?_ ?_ ?_
              rotate_left
              · (intro w9 hSw; (try dsimp only at hSw); go_simp <;> with_reducible rfl)
              try simp only [Act.put, tA, tZ, tS]
              refine kT 27 ?_ ?_ ?_
              rotate_left
              · (intro w9 hSw; (try dsimp only at hSw); go_simp <;> with_reducible rfl)
              try simp only [Act.put, tA, tZ, tS]
              refine kT 28 ?_ ?_ ?_
              rotate_left
              · (intro w9 hSw; (try dsimp only at hSw); go_simp <;> with_reducible rfl)
              try simp only [Act.put, tA, tZ, tS]
              refine kT 29 ?_ ?_ ?_
              rotate_left
              · (intro w9 hSw; (try dsimp only at hSw); go_simp <;> with_reducible rfl)
              try simp only [Act.put, tA, tZ, tS]
              refine kT 30 ?_ ?_ ?_
              rotate_left
              · (intro w9 hSw; (try dsimp only at hSw); go_simp <;> with_reducible rfl)
              try simp only [Act.put, tA, tZ, tS]
              refine kT 31 ?_ ?_ ?_
              rotate_left
              · (intro w9 hSw; (try dsimp only at hSw); go_simp <;> with_reducible rfl)
              try simp only [Act.put, tA, tZ, tS]
              refine kT 32 ?_ ?_ ?_
              rotate_left
              · (intro w9 hSw; (try dsimp only at hSw); go_simp <;> with_reducible rfl)
              try simp only [Act.put, tA, tZ, tS]
              refine kT 33 ?_ ?_ ?_
              rotate_left
              · (intro w9 hSw; (try dsimp only at hSw); go_simp <;> with_reducible rfl)
              try simp only [Act.put, tA, tZ, tS]
              refine kT 34 ?_ ?_ ?_
              rotate_left
              · (intro w9 hSw; (try dsimp only at hSw); go_simp <;> with_reducible rfl)
              try simp only [Act.put, tA, tZ, tS]
              refine kT 35 ?_ ?_ ?_
              rotate_left
              · (intro w9 hSw; (try dsimp only at hSw); go_simp <;> with_reducible rfl)
              try simp only [Act.put, tA, tZ, tS]
              refine kT 36 ?_ ?_ ?_
              rotate_left
              · (intro w9 hSw; (try dsimp only at hSw); go_simp <;> with_reducible rfl)
              try simp only [Act.put, tA, tZ, tS]
              refine kU 37 ?_
              try simp only [Act.put, tA, tZ, tS]
              refine kU 38 ?_
              try simp only [Act.put, tA, tZ, tS]
              refine kU 39 ?_
              try simp only [Act.put, tA, tZ, tS]
              refine kU 40 ?_
              try simp only [Act.put, tA, tZ, tS]
              refine kU 41 ?_
              try simp only [Act.put, tA, tZ, tS]
              refine kU 42 ?_
              try simp only [Act.put, tA, tZ, tS]
              refine kU 43 ?_
              try simp only [Act.put, tA, tZ, tS]
              refine kU 44 ?_
              try simp only [Act.put, tA, tZ, tS]
              refine kU 45 ?_
              try simp only [Act.put, tA, tZ, tS]
              refine kU 46 ?_
              try simp only [Act.put, tA, tZ, tS]
              refine kU 47 ?_
              try simp only [Act.put, tA, tZ, tS]
              refine kU 48 ?_
              try simp only [Act.put, tA, tZ, tS]
              refine kU 49 ?_
              try simp only [Act.put, tA, tZ, tS]
              refine kU 50 ?_
              try simp only [Act.put, tA, tZ, tS]
              refine kU 51 ?_
              try simp only [Act.put, tA, tZ, tS]
              refine kU 52 ?_
              try simp only [Act.put, tA, tZ, tS]
              refine kU 53 ?_
              try simp only [Act.put, tA, tZ, tS]
              refine kT 54 ?_ ?_ ?_
              rotate_left
              · (intro w9 hSw; (try dsimp only at hSw); go_simp <;> with_reducible rfl)
              try simp only [Act.put, tA, tZ, tS]
              refine kT 55 ?_ ?_ ?_
              rotate_left
              · (intro w9 hSw; (try dsimp only at hSw); go_simp <;> with_reducible rfl)
              try simp only [Act.put, tA, tZ, tS]
              refine kT 56 ?_ ?_ ?_
              rotate_left
              · (intro w9 hSw; (try dsimp only at hSw); go_simp <;> with_reducible rfl)
              try simp only [Act.put, tA, tZ, tS]
              refine wpAnyH_done (by kernel_rfl) ?_ _
              go_wp2
              go_ret
              exact ⟨ret_b (by rw [unhide HV2, unhide HE]), (belA)⟩
            · have hm1 : (y.ma == 0) = true := by simp [hm]
              have hm2 : (y.ma != 0) = false := by simp [hm]
              have hwl : IntKind.i64.wrap ((ql1 : Int) + (ql2 : Int)) = (ql1 : Int) + (ql2 : Int) := IntWalk.i64_in _ (by omega)
              by_cases hn : (0 : Int) < (ql1 : Int) + (ql2 : Int)
              · have HE : Hid ((xtsk.zip xsn).all (okTk (l2 : Int) (l3 : Int) k z p l e v r false) = false) := hide (all_ff (unhide hX) (by show nothSn y = false; unfold nothSn; rw [decide_eq_false (by omega)]; simp))
                go_wp2_with fail
                refine wp_region_held_drew (S := (fun W => ((W.cell? ⟨w.heap.size, 0, none⟩ = some (.int .i64 (l2 : Int)) ∧ W.cell? ⟨w.heap.size, 1, none⟩ = some (.int .i64 (l3 : Int)) ∧ W.cell? ⟨w.heap.size, 2, none⟩ = some (.int .i64 k) ∧ W.cell? ⟨w.heap.size, 3, none⟩ = some (.int .i64 z) ∧ W.cell? ⟨w.heap.size, 4, none⟩ = some (.int .i64 p) ∧ W.cell? ⟨w.heap.size, 5, none⟩ = some (.int .i64 l) ∧ W.cell? ⟨w.heap.size, 6, none⟩ = some (.int .i64 e) ∧ W.cell? ⟨w.heap.size, 7, none⟩ = some (.bool b) ∧ W.cell? ⟨w.heap.size, 8, none⟩ = some (.int .i64 v) ∧ W.cell? ⟨w.heap.size, 9, none⟩ = some (.int .i64 r) ∧ W.cell? ⟨w.heap.size + 1, 0, none⟩ = some (.int .i64 xn) ∧ W.cell? ⟨w.heap.size + 1, 1, none⟩ = some (.bool false) ∧ W.cell? ⟨w.heap.size + 1, 2, none⟩ = some (.slice a2 l2 c2) ∧ W.cell? ⟨w.heap.size + 1, 3, none⟩ = some (.slice (some ⟨g, o, none⟩) l3 c3) ∧ W.cell? ⟨w.heap.size + 1, 4, none⟩ = some (.slice (some ⟨g2, o2, none⟩) l3 c4) ∧ W.cell? ⟨w.heap.size + 1, 5, none⟩ = some (.int .i64 xsfn) ∧ W.cell? ⟨w.heap.size + 1, 6, none⟩ = some (.slice a6 l6 c6) ∧ W.cell? ⟨w.heap.size + 1, 7, none⟩ = some (.slice a7 l7 c7) ∧ W.cell? ⟨g, o + ix, none⟩ = some (.bool false) ∧ W.cell? ⟨g2, o2 + ix * 3, none⟩ = some (.int .i64 y.ma) ∧ W.cell? ⟨g2, o2 + ix * 3 + 1, none⟩ = some (.slice qa1 ql1 qc1) ∧ W.cell? ⟨g2, o2 + ix * 3 + 2, none⟩ = some (.slice qa2 ql2 qc2)) ∧ w.heap.size < W.heap.size ∧ w.heap.size + 1 < W.heap.size ∧ g < W.heap.size ∧ g2 < W.heap.size))) (by kernel_rfl) ?_ (fun hHeld => ?_)
                · (try dsimp only); ((first | ((repeat (first | (with_reducible assumption) | (with_reducible refine hd_10_8_1_3 ?_ (by with_reducible assumption)) | (with_reducible refine hd_10_8_1_3 ?_ (bel_drew (Below.refl _ _))) | (with_reducible exact hd_10_8_1_3_re (by with_reducible assumption) (sB) (sB) (sB) (sB)) | (with_reducible refine hd_10_8_1_3 ?_ (bel_one _ _)) | (with_reducible refine hd_10_8_1_3_set ?_ (sB) (sB) (sB) (sB) _))); done) | (refine ⟨⟨?_, ?_, ?_, ?_, ?_, ?_, ?_, ?_, ?_, ?_, ?_, ?_, ?_, ?_, ?_, ?_, ?_, ?_, ?_, ?_, ?_, ?_⟩, ?_, ?_, ?_, ?_⟩ <;> first | (go_keep; done) | (simp; done) | (simp; omega) | omega)))
                refine kT 0 ?_ ?_ ?_
                rotate_left
                · (intro w9 hSw; (try dsimp only at hSw); go_simp <;> with_reducible rfl)
                try simp only [Act.put, tA, tZ, tS]
                refine kT 1 ?_ ?_ ?_
                rotate_left
                · (intro w9 hSw; (try dsimp only at hSw); go_simp <;> with_reducible rfl)
                try simp only [Act.put, tA, tZ, tS]
                refine kT 2 ?_ ?_ ?_
                rotate_left
                · (intro w9 hSw; (try dsimp only at hSw); go_simp <;> with_reducible rfl)
                try simp only [Act.put, tA, tZ, tS]
                refine kT 3 ?_ ?_ ?_
                rotate_left
                · (intro w9 hSw; (try dsimp only at hSw); go_simp <;> with_reducible rfl)
                try simp only [Act.put, tA, tZ, tS]
                refine kT 4 ?_ ?_ ?_
                rotate_left
                · (intro w9 hSw; (try dsimp only at hSw); go_simp <;> with_reducible rfl)
                try simp only [Act.put, tA, tZ, tS]
                refine kT 5 ?_ ?_ ?_
                rotate_left
                · (intro w9 hSw; (try dsimp only at hSw); go_simp <;> with_reducible rfl)
                try simp only [Act.put, tA, tZ, tS]
                refine kU 6 ?_
                try simp only [Act.put, tA, tZ, tS]
                refine kU 7 ?_
                try simp only [Act.put, tA, tZ, tS]
                refine kU 8 ?_
                try simp only [Act.put, tA, tZ, tS]
                refine kU 9 ?_
                try simp only [Act.put, tA, tZ, tS]
                refine kU 10 ?_
                try simp only [Act.put, tA, tZ, tS]
                refine kU 11 ?_
                try simp only [Act.put, tA, tZ, tS]
                refine kU 12 ?_
                try simp only [Act.put, tA, tZ, tS]
                refine kU 13 ?_
                try simp only [Act.put, tA, tZ, tS]
                refine kU 14 ?_
                try simp only [Act.put, tA, tZ, tS]
                refine kU 15 ?_
                try simp only [Act.put, tA, tZ, tS]
                refine kU 16 ?_
                try simp only [Act.put, tA, tZ, tS]
                refine kU 17 ?_
                try simp only [Act.put, tA, tZ, tS]
                refine kU 18 ?_
                try simp only [Act.put, tA, tZ, tS]
                refine kT 19 ?_ ?_ ?_
                rotate_left
                · (intro w9 hSw; (try dsimp only at hSw); go_simp <;> with_reducible rfl)
                try simp only [Act.put, tA, tZ, tS]
                refine kT 20 ?_ ?_ ?_
                rotate_left
                · (intro w9 hSw; (try dsimp only at hSw); go_simp <;> with_reducible rfl)
                try simp only [Act.put, tA, tZ, tS]
                refine kT 21 ?_ ?_ ?_
                rotate_left
                · (intro w9 hSw; (try dsimp only at hSw); go_simp <;> with_reducible rfl)
                try simp only [Act.put, tA, tZ, tS]
                refine kT 22 ?_ ?_ ?_
                rotate_left
                · (intro w9 hSw; (try dsimp only at hSw); go_simp <;> with_reducible rfl)
                try simp only [Act.put, tA, tZ, tS]
                refine kT 23 ?_ ?_ ?_
                rotate_left
                · (intro w9 hSw; (try dsimp only at hSw); go_simp <;> with_reducible rfl)
                try simp only [Act.put, tA, tZ, tS]
                refine kT 24 ?_ ?_ ?_
                rotate_left
                · (intro w9 hSw; (try dsimp only at hSw); go_simp <;> with_reducible rfl)
                try simp only [Act.put, tA, tZ, tS]
                refine kT 25 ?_ ?_ ?_
                rotate_left
                · (intro w9 hSw; (try dsimp only at hSw); go_simp <;> with_reducible rfl)
                try simp only [Act.put, tA, tZ, tS]
                refine kT 26 ?_ ?_ ?_
                rotate_left
                · (intro w9 hSw; (try dsimp only at hSw); go_simp <;> with_reducible rfl)
                try simp only [Act.put, tA, tZ, tS]
                refine kT 27 ?_ ?_ ?_
                rotate_left
                · (intro w9 hSw; (try dsimp only at hSw); go_simp <;> with_reducible rfl)
                try simp only [Act.put, tA, tZ, tS]
                refine kT 28 ?_ ?_ ?_
                rotate_left
                · (intro w9 hSw; (try dsimp only at hSw); go_simp <;> with_reducible rfl)
                try simp only [Act.put, tA, tZ, tS]
                refine kT 29 ?_ ?_ ?_
                rotate_left
                · (intro w9 hSw; (try dsimp only at hSw); go_simp <;> with_reducible rfl)
                try simp only [Act.put, tA, tZ, tS]
                refine kT 30 ?_ ?_ ?_
                rotate_left
                · (intro w9 hSw; (try dsimp only at hSw); go_simp <;> with_reducible rfl)
                try simp only [Act.put, tA, tZ, tS]
                refine kT 31 ?_ ?_ ?_
                rotate_left
                · (intro w9 hSw; (try dsimp only at hSw); go_simp <;> with_reducible rfl)
                try simp only [Act.put, tA, tZ, tS]
                refine kT 32 ?_ ?_ ?_
                rotate_left
                · (intro w9 hSw; (try dsimp only at hSw); go_simp <;> with_reducible rfl)
                try simp only [Act.put, tA, tZ, tS]
                refine kT 33 ?_ ?_ ?_
                rotate_left
                · (intro w9 hSw; (try dsimp only at hSw); go_simp <;> with_reducible rfl)
                try simp only [Act.put, tA, tZ, tS]
                refine kT 34 ?_ ?_ ?_
                rotate_left
                · (intro w9 hSw; (try dsimp only at hSw); go_simp <;> with_reducible rfl)
                try simp only [Act.put, tA, tZ, tS]
                refine kT 35 ?_ ?_ ?_
                rotate_left
                · (intro w9 hSw; (try dsimp only at hSw); go_simp <;> with_reducible rfl)
                try simp only [Act.put, tA, tZ, tS]
                refine kT 36 ?_ ?_ ?_
                rotate_left
                · (intro w9 hSw; (try dsimp only at hSw); go_simp <;> with_reducible rfl)
                try simp only [Act.put, tA, tZ, tS]
                refine kT 37 ?_ ?_ ?_
                rotate_left
                · (intro w9 hSw; (try dsimp only at hSw); go_simp <;> with_reducible rfl)
                try simp only [Act.put, tA, tZ, tS]
                refine kT 38 ?_ ?_ ?_
                rotate_left
                · (intro w9 hSw; (try dsimp only at hSw); go_simp <;> with_reducible rfl)
                try simp only [Act.put, tA, tZ, tS]
                refine kT 39 ?_ ?_ ?_
                rotate_left
                · (intro w9 hSw; (try dsimp only at hSw); go_simp <;> with_reducible rfl)
                try simp only [Act.put, tA, tZ, tS]
                refine kT 40 ?_ ?_ ?_
                rotate_left
                · (intro w9 hSw; (try dsimp only at hSw); go_simp <;> with_reducible rfl)
                try simp only [Act.put, tA, tZ, tS]
                refine kT 41 ?_ ?_ ?_
                rotate_left
                · (intro w9 hSw; (try dsimp only at hSw); go_simp <;> with_reducible rfl)
                try simp only [Act.put, tA, tZ, tS]
                refine kT 42 ?_ ?_ ?_
                rotate_left
                · (intro w9 hSw; (try dsimp only at hSw); go_simp <;> with_reducible rfl)
                try simp only [Act.put, tA, tZ, tS]
                refine kT 43 ?_ ?_ ?_
                rotate_left
                · (intro w9 hSw; (try dsimp only at hSw); go_simp <;> with_reducible rfl)
                try simp only [Act.put, tA, tZ, tS]
                refine kT 44 ?_ ?_ ?_
                rotate_left
                · (intro w9 hSw; (try dsimp only at hSw); go_simp <;> with_reducible rfl)
                try simp only [Act.put, tA, tZ, tS]
                refine kT 45 ?_ ?_ ?_
                rotate_left
                · (intro w9 hSw; (try dsimp only at hSw); go_simp <;> with_reducible rfl)
                try simp only [Act.put, tA, tZ, tS]
                refine kT 46 ?_ ?_ ?_
                rotate_left
                · (intro w9 hSw; (try dsimp only at hSw); go_simp <;> with_reducible rfl)
                try simp only [Act.put, tA, tZ, tS]
                refine kT 47 ?_ ?_ ?_
                rotate_left
                · (intro w9 hSw; (try dsimp only at hSw); go_simp <;> with_reducible rfl)
                try simp only [Act.put, tA, tZ, tS]
                refine kT 48 ?_ ?_ ?_
                rotate_left
                · (intro w9 hSw; (try dsimp only at hSw); go_simp <;> with_reducible rfl)
                try simp only [Act.put, tA, tZ, tS]
                refine kT 49 ?_ ?_ ?_
                rotate_left
                · (intro w9 hSw; (try dsimp only at hSw); go_simp <;> with_reducible rfl)
                try simp only [Act.put, tA, tZ, tS]
                refine kT 50 ?_ ?_ ?_
                rotate_left
                · (intro w9 hSw; (try dsimp only at hSw); go_simp <;> with_reducible rfl)
                try simp only [Act.put, tA, tZ, tS]
                refine kT 51 ?_ ?_ ?_
                rotate_left
                · (intro w9 hSw; (try dsimp only at hSw); go_simp <;> with_reducible rfl)
                try simp only [Act.put, tA, tZ, tS]
                refine kT 52 ?_ ?_ ?_
                rotate_left
                · (intro w9 hSw; (try dsimp only at hSw); go_simp <;> with_reducible rfl)
                try simp only [Act.put, tA, tZ, tS]
                refine kT 53 ?_ ?_ ?_
                rotate_left
                · (intro w9 hSw; (try dsimp only at hSw); go_simp <;> with_reducible rfl)
                try simp only [Act.put, tA, tZ, tS]
                refine kT 54 ?_ ?_ ?_
                rotate_left
                · (intro w9 hSw; (try dsimp only at hSw); go_simp <;> with_reducible rfl)
                try simp only [Act.put, tA, tZ, tS]
                refine kT 55 ?_ ?_ ?_
                rotate_left
                · (intro w9 hSw; (try dsimp only at hSw); go_simp <;> with_reducible rfl)
                try simp only [Act.put, tA, tZ, tS]
                refine kT 56 ?_ ?_ ?_
                rotate_left
                · (intro w9 hSw; (try dsimp only at hSw); go_simp <;> with_reducible rfl)
                try simp only [Act.put, tA, tZ, tS]
                refine wpAnyH_done (by kernel_rfl) ?_ _
                go_wp2
                go_ret
                exact ⟨ret_b (by rw [unhide HV2, unhide HE]), (belA)⟩
              · have HE : Hid (((xtsk.zip xsn).take (ix + 1)).all (okTk (l2 : Int) (l3 : Int) k z p l e v r false) = true) := hide (all_tt (unhide hA) (unhide hX) (by show nothSn y = true; unfold nothSn; rw [hm1, decide_eq_true (by omega)]; rfl))
                go_wp2_with fail
                refine wp_region_held_drew (S := (fun W => ((W.cell? ⟨w.heap.size, 0, none⟩ = some (.int .i64 (l2 : Int)) ∧ W.cell? ⟨w.heap.size, 1, none⟩ = some (.int .i64 (l3 : Int)) ∧ W.cell? ⟨w.heap.size, 2, none⟩ = some (.int .i64 k) ∧ W.cell? ⟨w.heap.size, 3, none⟩ = some (.int .i64 z) ∧ W.cell? ⟨w.heap.size, 4, none⟩ = some (.int .i64 p) ∧ W.cell? ⟨w.heap.size, 5, none⟩ = some (.int .i64 l) ∧ W.cell? ⟨w.heap.size, 6, none⟩ = some (.int .i64 e) ∧ W.cell? ⟨w.heap.size, 7, none⟩ = some (.bool b) ∧ W.cell? ⟨w.heap.size, 8, none⟩ = some (.int .i64 v) ∧ W.cell? ⟨w.heap.size, 9, none⟩ = some (.int .i64 r) ∧ W.cell? ⟨w.heap.size + 1, 0, none⟩ = some (.int .i64 xn) ∧ W.cell? ⟨w.heap.size + 1, 1, none⟩ = some (.bool false) ∧ W.cell? ⟨w.heap.size + 1, 2, none⟩ = some (.slice a2 l2 c2) ∧ W.cell? ⟨w.heap.size + 1, 3, none⟩ = some (.slice (some ⟨g, o, none⟩) l3 c3) ∧ W.cell? ⟨w.heap.size + 1, 4, none⟩ = some (.slice (some ⟨g2, o2, none⟩) l3 c4) ∧ W.cell? ⟨w.heap.size + 1, 5, none⟩ = some (.int .i64 xsfn) ∧ W.cell? ⟨w.heap.size + 1, 6, none⟩ = some (.slice a6 l6 c6) ∧ W.cell? ⟨w.heap.size + 1, 7, none⟩ = some (.slice a7 l7 c7) ∧ W.cell? ⟨g, o + ix, none⟩ = some (.bool false) ∧ W.cell? ⟨g2, o2 + ix * 3, none⟩ = some (.int .i64 y.ma) ∧ W.cell? ⟨g2, o2 + ix * 3 + 1, none⟩ = some (.slice qa1 ql1 qc1) ∧ W.cell? ⟨g2, o2 + ix * 3 + 2, none⟩ = some (.slice qa2 ql2 qc2)) ∧ w.heap.size < W.heap.size ∧ w.heap.size + 1 < W.heap.size ∧ g < W.heap.size ∧ g2 < W.heap.size))) (by kernel_rfl) ?_ (fun hHeld => ?_)
                · (try dsimp only); ((first | ((repeat (first | (with_reducible assumption) | (with_reducible refine hd_10_8_1_3 ?_ (by with_reducible assumption)) | (with_reducible refine hd_10_8_1_3 ?_ (bel_drew (Below.refl _ _))) | (with_reducible exact hd_10_8_1_3_re (by with_reducible assumption) (sB) (sB) (sB) (sB)) | (with_reducible refine hd_10_8_1_3 ?_ (bel_one _ _)) | (with_reducible refine hd_10_8_1_3_set ?_ (sB) (sB) (sB) (sB) _))); done) | (refine ⟨⟨?_, ?_, ?_, ?_, ?_, ?_, ?_, ?_, ?_, ?_, ?_, ?_, ?_, ?_, ?_, ?_, ?_, ?_, ?_, ?_, ?_, ?_⟩, ?_, ?_, ?_, ?_⟩ <;> first | (go_keep; done) | (simp; done) | (simp; omega) | omega)))
                refine kT 0 ?_ ?_ ?_
                rotate_left
                · (intro w9 hSw; (try dsimp only at hSw); go_simp <;> with_reducible rfl)
                try simp only [Act.put, tA, tZ, tS]
                refine kT 1 ?_ ?_ ?_
                rotate_left
                · (intro w9 hSw; (try dsimp only at hSw); go_simp <;> with_reducible rfl)
                try simp only [Act.put, tA, tZ, tS]
                refine kT 2 ?_ ?_ ?_
                rotate_left
                · (intro w9 hSw; (try dsimp only at hSw); go_simp <;> with_reducible rfl)
                try simp only [Act.put, tA, tZ, tS]
                refine kT 3 ?_ ?_ ?_
                rotate_left
                · (intro w9 hSw; (try dsimp only at hSw); go_simp <;> with_reducible rfl)
                try simp only [Act.put, tA, tZ, tS]
                refine kT 4 ?_ ?_ ?_
                rotate_left
                · (intro w9 hSw; (try dsimp only at hSw); go_simp <;> with_reducible rfl)
                try simp only [Act.put, tA, tZ, tS]
                refine kT 5 ?_ ?_ ?_
                rotate_left
                · (intro w9 hSw; (try dsimp only at hSw); go_simp <;> with_reducible rfl)
                try simp only [Act.put, tA, tZ, tS]
                refine kU 6 ?_
                try simp only [Act.put, tA, tZ, tS]
                refine kU 7 ?_
                try simp only [Act.put, tA, tZ, tS]
                refine kU 8 ?_
                try simp only [Act.put, tA, tZ, tS]
                refine kU 9 ?_
                try simp only [Act.put, tA, tZ, tS]
                refine kU 10 ?_
                try simp only [Act.put, tA, tZ, tS]
                refine kU 11 ?_
                try simp only [Act.put, tA, tZ, tS]
                refine kU 12 ?_
                try simp only [Act.put, tA, tZ, tS]
                refine kU 13 ?_
                try simp only [Act.put, tA, tZ, tS]
                refine kU 14 ?_
                try simp only [Act.put, tA, tZ, tS]
                refine kU 15 ?_
                try simp only [Act.put, tA, tZ, tS]
                refine kU 16 ?_
                try simp only [Act.put, tA, tZ, tS]
                refine kU 17 ?_
                try simp only [Act.put, tA, tZ, tS]
                refine kU 18 ?_
                try simp only [Act.put, tA, tZ, tS]
                refine kT 19 ?_ ?_ ?_
                rotate_left
                · (intro w9 hSw; (try dsimp only at hSw); go_simp <;> with_reducible rfl)
                try simp only [Act.put, tA, tZ, tS]
                refine kT 20 ?_ ?_ ?_
                rotate_left
                · (intro w9 hSw; (try dsimp only at hSw); go_simp <;> with_reducible rfl)
                try simp only [Act.put, tA, tZ, tS]
                refine kT 21 ?_ ?_ ?_
                rotate_left
                · (intro w9 hSw; (try dsimp only at hSw); go_simp <;> with_reducible rfl)
                try simp only [Act.put, tA, tZ, tS]
                refine kT 22 ?_ ?_ ?_
                rotate_left
                · (intro w9 hSw; (try dsimp only at hSw); go_simp <;> with_reducible rfl)
                try simp only [Act.put, tA, tZ, tS]
                refine kT 23 ?_ ?_ ?_
                rotate_left
                · (intro w9 hSw; (try dsimp only at hSw); go_simp <;> with_reducible rfl)
                try simp only [Act.put, tA, tZ, tS]
                refine kT 24 ?_ ?_ ?_
                rotate_left
                · (intro w9 hSw; (try dsimp only at hSw); go_simp <;> with_reducible rfl)
                try simp only [Act.put, tA, tZ, tS]
                refine kT 25 ?_ ?_ ?_
                rotate_left
                · (intro w9 hSw; (try dsimp only at hSw); go_simp <;> with_reducible rfl)
                try simp only [Act.put, tA, tZ, tS]
                refine kT 26 ?_ ?_ ?_
                rotate_left
                · (intro w9 hSw; (try dsimp only at hSw); go_simp <;> with_reducible rfl)
                try simp only [Act.put, tA, tZ, tS]
                refine kT 27 ?_ ?_ ?_
                rotate_left
                · (intro w9 hSw; (try dsimp only at hSw); go_simp <;> with_reducible rfl)
                try simp only [Act.put, tA, tZ, tS]
                refine kT 28 ?_ ?_ ?_
                rotate_left
                · (intro w9 hSw; (try dsimp only at hSw); go_simp <;> with_reducible rfl)
                try simp only [Act.put, tA, tZ, tS]
                refine kT 29 ?_ ?_ ?_
                rotate_left
                · (intro w9 hSw; (try dsimp only at hSw); go_simp <;> with_reducible rfl)
                try simp only [Act.put, tA, tZ, tS]
                refine kT 30 ?_ ?_ ?_
                rotate_left
                · (intro w9 hSw; (try dsimp only at hSw); go_simp <;> with_reducible rfl)
                try simp only [Act.put, tA, tZ, tS]
                refine kT 31 ?_ ?_ ?_
                rotate_left
                · (intro w9 hSw; (try dsimp only at hSw); go_simp <;> with_reducible rfl)
                try simp only [Act.put, tA, tZ, tS]
                refine kT 32 ?_ ?_ ?_
                rotate_left
                · (intro w9 hSw; (try dsimp only at hSw); go_simp <;> with_reducible rfl)
                try simp only [Act.put, tA, tZ, tS]
                refine kT 33 ?_ ?_ ?_
                rotate_left
                · (intro w9 hSw; (try dsimp only at hSw); go_simp <;> with_reducible rfl)
                try simp only [Act.put, tA, tZ, tS]
                refine kT 34 ?_ ?_ ?_
                rotate_left
                · (intro w9 hSw; (try dsimp only at hSw); go_simp <;> with_reducible rfl)
                try simp only [Act.put, tA, tZ, tS]
                refine kT 35 ?_ ?_ ?_
                rotate_left
                · (intro w9 hSw; (try dsimp only at hSw); go_simp <;> with_reducible rfl)
                try simp only [Act.put, tA, tZ, tS]
                refine kT 36 ?_ ?_ ?_
                rotate_left
                · (intro w9 hSw; (try dsimp only at hSw); go_simp <;> with_reducible rfl)
                try simp only [Act.put, tA, tZ, tS]
                refine kT 37 ?_ ?_ ?_
                rotate_left
                · (intro w9 hSw; (try dsimp only at hSw); go_simp <;> with_reducible rfl)
                try simp only [Act.put, tA, tZ, tS]
                refine kT 38 ?_ ?_ ?_
                rotate_left
                · (intro w9 hSw; (try dsimp only at hSw); go_simp <;> with_reducible rfl)
                try simp only [Act.put, tA, tZ, tS]
                refine kT 39 ?_ ?_ ?_
                rotate_left
                · (intro w9 hSw; (try dsimp only at hSw); go_simp <;> with_reducible rfl)
                try simp only [Act.put, tA, tZ, tS]
                refine kT 40 ?_ ?_ ?_
                rotate_left
                · (intro w9 hSw; (try dsimp only at hSw); go_simp <;> with_reducible rfl)
                try simp only [Act.put, tA, tZ, tS]
                refine kT 41 ?_ ?_ ?_
                rotate_left
                · (intro w9 hSw; (try dsimp only at hSw); go_simp <;> with_reducible rfl)
                try simp only [Act.put, tA, tZ, tS]
                refine kT 42 ?_ ?_ ?_
                rotate_left
                · (intro w9 hSw; (try dsimp only at hSw); go_simp <;> with_reducible rfl)
                try simp only [Act.put, tA, tZ, tS]
                refine kT 43 ?_ ?_ ?_
                rotate_left
                · (intro w9 hSw; (try dsimp only at hSw); go_simp <;> with_reducible rfl)
                try simp only [Act.put, tA, tZ, tS]
                refine kT 44 ?_ ?_ ?_
                rotate_left
                · (intro w9 hSw; (try dsimp only at hSw); go_simp <;> with_reducible rfl)
                try simp only [Act.put, tA, tZ, tS]
                refine kT 45 ?_ ?_ ?_
                rotate_left
                · (intro w9 hSw; (try dsimp only at hSw); go_simp <;> with_reducible rfl)
                try simp only [Act.put, tA, tZ, tS]
                refine kT 46 ?_ ?_ ?_
                rotate_left
                · (intro w9 hSw; (try dsimp only at hSw); go_simp <;> with_reducible rfl)
                try simp only [Act.put, tA, tZ, tS]
                refine kT 47 ?_ ?_ ?_
                rotate_left
                · (intro w9 hSw; (try dsimp only at hSw); go_simp <;> with_reducible rfl)
                try simp only [Act.put, tA, tZ, tS]
                refine kT 48 ?_ ?_ ?_
                rotate_left
                · (intro w9 hSw; (try dsimp only at hSw); go_simp <;> with_reducible rfl)
                try simp only [Act.put, tA, tZ, tS]
                refine kT 49 ?_ ?_ ?_
                rotate_left
                · (intro w9 hSw; (try dsimp only at hSw); go_simp <;> with_reducible rfl)
                try simp only [Act.put, tA, tZ, tS]
                refine kT 50 ?_ ?_ ?_
                rotate_left
                · (intro w9 hSw; (try dsimp only at hSw); go_simp <;> with_reducible rfl)
                try simp only [Act.put, tA, tZ, tS]
                refine kT 51 ?_ ?_ ?_
                rotate_left
                · (intro w9 hSw; (try dsimp only at hSw); go_simp <;> with_reducible rfl)
                try simp only [Act.put, tA, tZ, tS]
                refine kT 52 ?_ ?_ ?_
                rotate_left
                · (intro w9 hSw; (try dsimp only at hSw); go_simp <;> with_reducible rfl)
                try simp only [Act.put, tA, tZ, tS]
                refine kT 53 ?_ ?_ ?_
                rotate_left
                · (intro w9 hSw; (try dsimp only at hSw); go_simp <;> with_reducible rfl)
                try simp only [Act.put, tA, tZ, tS]
                refine kT 54 ?_ ?_ ?_
                rotate_left
                · (intro w9 hSw; (try dsimp only at hSw); go_simp <;> with_reducible rfl)
                try simp only [Act.put, tA, tZ, tS]
                refine kT 55 ?_ ?_ ?_
                rotate_left
                · (intro w9 hSw; (try dsimp only at hSw); go_simp <;> with_reducible rfl)
                try simp only [Act.put, tA, tZ, tS]
                refine kT 56 ?_ ?_ ?_
                rotate_left
                · (intro w9 hSw; (try dsimp only at hSw); go_simp <;> with_reducible rfl)
                try simp only [Act.put, tA, tZ, tS]
                refine wpAnyH_done (by kernel_rfl) ?_ _
                go_wp2
                go_roundw
                case rel => exact ⟨ix + 1, by omega, by go_num, HE, (belA)⟩
                case measure => simp [intOf]; omega
          · have HE : Hid ((xtsk.zip xsn).all (okTk (l2 : Int) (l3 : Int) k z p l e v r false) = false) := hide (all_ff (unhide hX) rfl)
            go_wp2_with fail
            refine wp_region_held_drew (S := (fun W => ((W.cell? ⟨w.heap.size, 0, none⟩ = some (.int .i64 (l2 : Int)) ∧ W.cell? ⟨w.heap.size, 1, none⟩ = some (.int .i64 (l3 : Int)) ∧ W.cell? ⟨w.heap.size, 2, none⟩ = some (.int .i64 k) ∧ W.cell? ⟨w.heap.size, 3, none⟩ = some (.int .i64 z) ∧ W.cell? ⟨w.heap.size, 4, none⟩ = some (.int .i64 p) ∧ W.cell? ⟨w.heap.size, 5, none⟩ = some (.int .i64 l) ∧ W.cell? ⟨w.heap.size, 6, none⟩ = some (.int .i64 e) ∧ W.cell? ⟨w.heap.size, 7, none⟩ = some (.bool b) ∧ W.cell? ⟨w.heap.size, 8, none⟩ = some (.int .i64 v) ∧ W.cell? ⟨w.heap.size, 9, none⟩ = some (.int .i64 r) ∧ W.cell? ⟨w.heap.size + 1, 0, none⟩ = some (.int .i64 xn) ∧ W.cell? ⟨w.heap.size + 1, 1, none⟩ = some (.bool false) ∧ W.cell? ⟨w.heap.size + 1, 2, none⟩ = some (.slice a2 l2 c2) ∧ W.cell? ⟨w.heap.size + 1, 3, none⟩ = some (.slice (some ⟨g, o, none⟩) l3 c3) ∧ W.cell? ⟨w.heap.size + 1, 4, none⟩ = some (.slice (some ⟨g2, o2, none⟩) l3 c4) ∧ W.cell? ⟨w.heap.size + 1, 5, none⟩ = some (.int .i64 xsfn) ∧ W.cell? ⟨w.heap.size + 1, 6, none⟩ = some (.slice a6 l6 c6) ∧ W.cell? ⟨w.heap.size + 1, 7, none⟩ = some (.slice a7 l7 c7) ∧ W.cell? ⟨g, o + ix, none⟩ = some (.bool true) ∧ W.cell? ⟨g2, o2 + ix * 3, none⟩ = some (.int .i64 y.ma) ∧ W.cell? ⟨g2, o2 + ix * 3 + 1, none⟩ = some (.slice qa1 ql1 qc1) ∧ W.cell? ⟨g2, o2 + ix * 3 + 2, none⟩ = some (.slice qa2 ql2 qc2)) ∧ w.heap.size < W.heap.size ∧ w.heap.size + 1 < W.heap.size ∧ g < W.heap.size ∧ g2 < W.heap.size))) (by kernel_rfl) ?_ (fun hHeld => ?_)
            · (try dsimp only); ((first | ((repeat (first | (with_reducible assumption) | (with_reducible refine hd_10_8_1_3 ?_ (by with_reducible assumption)) | (with_reducible refine hd_10_8_1_3 ?_ (bel_drew (Below.refl _ _))) | (with_reducible exact hd_10_8_1_3_re (by with_reducible assumption) (sB) (sB) (sB) (sB)) | (with_reducible refine hd_10_8_1_3 ?_ (bel_one _ _)) | (with_reducible refine hd_10_8_1_3_set ?_ (sB) (sB) (sB) (sB) _))); done) | (refine ⟨⟨?_, ?_, ?_, ?_, ?_, ?_, ?_, ?_, ?_, ?_, ?_, ?_, ?_, ?_, ?_, ?_, ?_, ?_, ?_, ?_, ?_, ?_⟩, ?_, ?_, ?_, ?_⟩ <;> first | (go_keep; done) | (simp; done) | (simp; omega) | omega)))
            refine kT 0 ?_ ?_ ?_
            rotate_left
            · (intro w9 hSw; (try dsimp only at hSw); go_simp <;> with_reducible rfl)
            try simp only [Act.put, tA, tZ, tS]
            refine kT 1 ?_ ?_ ?_
            rotate_left
            · (intro w9 hSw; (try dsimp only at hSw); go_simp <;> with_reducible rfl)
            try simp only [Act.put, tA, tZ, tS]
            refine kT 2 ?_ ?_ ?_
            rotate_left
            · (intro w9 hSw; (try dsimp only at hSw); go_simp <;> with_reducible rfl)
            try simp only [Act.put, tA, tZ, tS]
            refine kT 3 ?_ ?_ ?_
            rotate_left
            · (intro w9 hSw; (try dsimp only at hSw); go_simp <;> with_reducible rfl)
            try simp only [Act.put, tA, tZ, tS]
            refine kT 4 ?_ ?_ ?_
            rotate_left
            · (intro w9 hSw; (try dsimp only at hSw); go_simp <;> with_reducible rfl)
            try simp only [Act.put, tA, tZ, tS]
            refine kT 5 ?_ ?_ ?_
            rotate_left
            · (intro w9 hSw; (try dsimp only at hSw); go_simp <;> with_reducible rfl)
            try simp only [Act.put, tA, tZ, tS]
            refine kT 6 ?_ ?_ ?_
            rotate_left
            · (intro w9 hSw; (try dsimp only at hSw); go_simp <;> with_reducible rfl)
            try simp only [Act.put, tA, tZ, tS]
            refine kT 7 ?_ ?_ ?_
            rotate_left
            · (intro w9 hSw; (try dsimp only at hSw); go_simp <;> with_reducible rfl)
            try simp only [Act.put, tA, tZ, tS]
            refine kT 8 ?_ ?_ ?_
            rotate_left
            · (intro w9 hSw; (try dsimp only at hSw); go_simp <;> with_reducible rfl)
            try simp only [Act.put, tA, tZ, tS]
            refine kT 9 ?_ ?_ ?_
            rotate_left
            · (intro w9 hSw; (try dsimp only at hSw); go_simp <;> with_reducible rfl)
            try simp only [Act.put, tA, tZ, tS]
            refine kU 10 ?_
            try simp only [Act.put, tA, tZ, tS]
            refine kU 11 ?_
            try simp only [Act.put, tA, tZ, tS]
            refine kU 12 ?_
            try simp only [Act.put, tA, tZ, tS]
            refine kU 13 ?_
            try simp only [Act.put, tA, tZ, tS]
            refine kU 14 ?_
            try simp only [Act.put, tA, tZ, tS]
            refine kU 15 ?_
            try simp only [Act.put, tA, tZ, tS]
            refine kU 16 ?_
            try simp only [Act.put, tA, tZ, tS]
            refine kU 17 ?_
            try simp only [Act.put, tA, tZ, tS]
            refine kT 18 ?_ ?_ ?_
            rotate_left
            · (intro w9 hSw; (try dsimp only at hSw); go_simp <;> with_reducible rfl)
            try simp only [Act.put, tA, tZ, tS]
            refine kT 19 ?_ ?_ ?_
            rotate_left
            · (intro w9 hSw; (try dsimp only at hSw); go_simp <;> with_reducible rfl)
            try simp only [Act.put, tA, tZ, tS]
            refine kT 20 ?_ ?_ ?_
            rotate_left
            · (intro w9 hSw; (try dsimp only at hSw); go_simp <;> with_reducible rfl)
            try simp only [Act.put, tA, tZ, tS]
            refine kU 21 ?_
            try simp only [Act.put, tA, tZ, tS]
            refine kU 22 ?_
            try simp only [Act.put, tA, tZ, tS]
            refine kU 23 ?_
            try simp only [Act.put, tA, tZ, tS]
            refine kU 24 ?_
            try simp only [Act.put, tA, tZ, tS]
            refine kU 25 ?_
            try simp only [Act.put, tA, tZ, tS]
            refine kU 26 ?_
            try simp only [Act.put, tA, tZ, tS]
            refine kU 27 ?_
            try simp only [Act.put, tA, tZ, tS]
            refine kU 28 ?_
            try simp only [Act.put, tA, tZ, tS]
            refine kU 29 ?_
            try simp only [Act.put, tA, tZ, tS]
            refine kU 30 ?_
            try simp only [Act.put, tA, tZ, tS]
            refine kU 31 ?_
            try simp only [Act.put, tA, tZ, tS]
            refine kU 32 ?_
            try simp only [Act.put, tA, tZ, tS]
            refine kU 33 ?_
            try simp only [Act.put, tA, tZ, tS]
            refine kU 34 ?_
            try simp only [Act.put, tA, tZ, tS]
            refine kU 35 ?_
            try simp only [Act.put, tA, tZ, tS]
            refine kU 36 ?_
            try simp only [Act.put, tA, tZ, tS]
            refine kU 37 ?_
            try simp only [Act.put, tA, tZ, tS]
            refine kU 38 ?_
            try simp only [Act.put, tA, tZ, tS]
            refine kU 39 ?_
            try simp only [Act.put, tA, tZ, tS]
            refine kU 40 ?_
            try simp only [Act.put, tA, tZ, tS]
            refine kU 41 ?_
            try simp only [Act.put, tA, tZ, tS]
            refine kU 42 ?_
            try simp only [Act.put, tA, tZ, tS]
            refine kU 43 ?_
            try simp only [Act.put, tA, tZ, tS]
            refine kU 44 ?_
            try simp only [Act.put, tA, tZ, tS]
            refine kU 45 ?_
            try simp only [Act.put, tA, tZ, tS]
            refine kU 46 ?_
            try simp only [Act.put, tA, tZ, tS]
            refine kU 47 ?_
            try simp only [Act.put, tA, tZ, tS]
            refine kU 48 ?_
            try simp only [Act.put, tA, tZ, tS]
            refine kU 49 ?_
            try simp only [Act.put, tA, tZ, tS]
            refine kU 50 ?_
            try simp only [Act.put, tA, tZ, tS]
            refine kU 51 ?_
            try simp only [Act.put, tA, tZ, tS]
            refine kU 52 ?_
            try simp only [Act.put, tA, tZ, tS]
            refine kU 53 ?_
            try simp only [Act.put, tA, tZ, tS]
            refine kU 54 ?_
            try simp only [Act.put, tA, tZ, tS]
            refine kU 55 ?_
            try simp only [Act.put, tA, tZ, tS]
            refine kT 56 ?_ ?_ ?_
            rotate_left
            · (intro w9 hSw; (try dsimp only at hSw); go_simp <;> with_reducible rfl)
            try simp only [Act.put, tA, tZ, tS]
            refine wpAnyH_done (by kernel_rfl) ?_ _
            go_wp2
            go_ret
            exact ⟨ret_b (by rw [unhide HV2, unhide HE]), (belA)⟩
        · have HE : Hid (okCk (l2 : Int) (l3 : Int) k z p l e v r ⟨xn, false, xsrc, xtsk, xsn, xsfn, xat, xssn⟩ = true) := hide (by rw [unhide HV2, all_end (unhide hA) (by simp; omega)])
          go_wp2
          go_ret
          exact ⟨ret_b (unhide HE).symm, (belA)⟩
end Go.Proofs.YtbjhpiannjepkaaGreat
