/- Proved here: the open window of a key, in the program and in the specification. -/
import Derived.Test.YtklpdegipkjmdaaOpSt
import Derived.Test.YtklpdegipkjmdaaOpPl
namespace Go.Proofs.Ytklpdegipkjmdaa
open Go.ChangeShapes Go.WideShapes Go.ChangeAt Go.RowKit
set_option linter.unusedVariables false

theorem hd_3_13 {b0 b1 o0x0 o0x1 o0x2 o1x0 o1x1 o1x2 o1x3 o1x4 o1x5 o1x6 o1x7 o1x8 o1x9 o1x10 o1x11 o1x12 : Nat} {v0x0 v0x1 v0x2 v1x0 v1x1 v1x2 v1x3 v1x4 v1x5 v1x6 v1x7 v1x8 v1x9 v1x10 v1x11 v1x12 : Value} {W W' : World} (h : ((W.cell? ⟨b0, o0x0, none⟩ = some (v0x0) ∧ W.cell? ⟨b0, o0x1, none⟩ = some (v0x1) ∧ W.cell? ⟨b0, o0x2, none⟩ = some (v0x2) ∧ W.cell? ⟨b1, o1x0, none⟩ = some (v1x0) ∧ W.cell? ⟨b1, o1x1, none⟩ = some (v1x1) ∧ W.cell? ⟨b1, o1x2, none⟩ = some (v1x2) ∧ W.cell? ⟨b1, o1x3, none⟩ = some (v1x3) ∧ W.cell? ⟨b1, o1x4, none⟩ = some (v1x4) ∧ W.cell? ⟨b1, o1x5, none⟩ = some (v1x5) ∧ W.cell? ⟨b1, o1x6, none⟩ = some (v1x6) ∧ W.cell? ⟨b1, o1x7, none⟩ = some (v1x7) ∧ W.cell? ⟨b1, o1x8, none⟩ = some (v1x8) ∧ W.cell? ⟨b1, o1x9, none⟩ = some (v1x9) ∧ W.cell? ⟨b1, o1x10, none⟩ = some (v1x10) ∧ W.cell? ⟨b1, o1x11, none⟩ = some (v1x11) ∧ W.cell? ⟨b1, o1x12, none⟩ = some (v1x12)) ∧ b0 < W.heap.size ∧ b1 < W.heap.size)) (hb : Below W.heap.size W W') : ((W'.cell? ⟨b0, o0x0, none⟩ = some (v0x0) ∧ W'.cell? ⟨b0, o0x1, none⟩ = some (v0x1) ∧ W'.cell? ⟨b0, o0x2, none⟩ = some (v0x2) ∧ W'.cell? ⟨b1, o1x0, none⟩ = some (v1x0) ∧ W'.cell? ⟨b1, o1x1, none⟩ = some (v1x1) ∧ W'.cell? ⟨b1, o1x2, none⟩ = some (v1x2) ∧ W'.cell? ⟨b1, o1x3, none⟩ = some (v1x3) ∧ W'.cell? ⟨b1, o1x4, none⟩ = some (v1x4) ∧ W'.cell? ⟨b1, o1x5, none⟩ = some (v1x5) ∧ W'.cell? ⟨b1, o1x6, none⟩ = some (v1x6) ∧ W'.cell? ⟨b1, o1x7, none⟩ = some (v1x7) ∧ W'.cell? ⟨b1, o1x8, none⟩ = some (v1x8) ∧ W'.cell? ⟨b1, o1x9, none⟩ = some (v1x9) ∧ W'.cell? ⟨b1, o1x10, none⟩ = some (v1x10) ∧ W'.cell? ⟨b1, o1x11, none⟩ = some (v1x11) ∧ W'.cell? ⟨b1, o1x12, none⟩ = some (v1x12)) ∧ b0 < W'.heap.size ∧ b1 < W'.heap.size) := by
  obtain ⟨⟨h0, h1, h2, h3, h4, h5, h6, h7, h8, h9, h10, h11, h12, h13, h14, h15⟩, s0, s1⟩ := h
  refine ⟨⟨?_, ?_, ?_, ?_, ?_, ?_, ?_, ?_, ?_, ?_, ?_, ?_, ?_, ?_, ?_, ?_⟩, Nat.lt_of_lt_of_le s0 hb.size, Nat.lt_of_lt_of_le s1 hb.size⟩
  · rw [hb.cell s0]; exact h0
  · rw [hb.cell s0]; exact h1
  · rw [hb.cell s0]; exact h2
  · rw [hb.cell s1]; exact h3
  · rw [hb.cell s1]; exact h4
  · rw [hb.cell s1]; exact h5
  · rw [hb.cell s1]; exact h6
  · rw [hb.cell s1]; exact h7
  · rw [hb.cell s1]; exact h8
  · rw [hb.cell s1]; exact h9
  · rw [hb.cell s1]; exact h10
  · rw [hb.cell s1]; exact h11
  · rw [hb.cell s1]; exact h12
  · rw [hb.cell s1]; exact h13
  · rw [hb.cell s1]; exact h14
  · rw [hb.cell s1]; exact h15

theorem hd_3_13_set {b0 b1 o0x0 o0x1 o0x2 o1x0 o1x1 o1x2 o1x3 o1x4 o1x5 o1x6 o1x7 o1x8 o1x9 o1x10 o1x11 o1x12 : Nat} {v0x0 v0x1 v0x2 v1x0 v1x1 v1x2 v1x3 v1x4 v1x5 v1x6 v1x7 v1x8 v1x9 v1x10 v1x11 v1x12 : Value} {W : World} {p : Addr} (h : ((W.cell? ⟨b0, o0x0, none⟩ = some (v0x0) ∧ W.cell? ⟨b0, o0x1, none⟩ = some (v0x1) ∧ W.cell? ⟨b0, o0x2, none⟩ = some (v0x2) ∧ W.cell? ⟨b1, o1x0, none⟩ = some (v1x0) ∧ W.cell? ⟨b1, o1x1, none⟩ = some (v1x1) ∧ W.cell? ⟨b1, o1x2, none⟩ = some (v1x2) ∧ W.cell? ⟨b1, o1x3, none⟩ = some (v1x3) ∧ W.cell? ⟨b1, o1x4, none⟩ = some (v1x4) ∧ W.cell? ⟨b1, o1x5, none⟩ = some (v1x5) ∧ W.cell? ⟨b1, o1x6, none⟩ = some (v1x6) ∧ W.cell? ⟨b1, o1x7, none⟩ = some (v1x7) ∧ W.cell? ⟨b1, o1x8, none⟩ = some (v1x8) ∧ W.cell? ⟨b1, o1x9, none⟩ = some (v1x9) ∧ W.cell? ⟨b1, o1x10, none⟩ = some (v1x10) ∧ W.cell? ⟨b1, o1x11, none⟩ = some (v1x11) ∧ W.cell? ⟨b1, o1x12, none⟩ = some (v1x12)) ∧ b0 < W.heap.size ∧ b1 < W.heap.size)) (p0 : p.block ≠ b0) (p1 : p.block ≠ b1) (u : Value) : (((W.setCell p u).cell? ⟨b0, o0x0, none⟩ = some (v0x0) ∧ (W.setCell p u).cell? ⟨b0, o0x1, none⟩ = some (v0x1) ∧ (W.setCell p u).cell? ⟨b0, o0x2, none⟩ = some (v0x2) ∧ (W.setCell p u).cell? ⟨b1, o1x0, none⟩ = some (v1x0) ∧ (W.setCell p u).cell? ⟨b1, o1x1, none⟩ = some (v1x1) ∧ (W.setCell p u).cell? ⟨b1, o1x2, none⟩ = some (v1x2) ∧ (W.setCell p u).cell? ⟨b1, o1x3, none⟩ = some (v1x3) ∧ (W.setCell p u).cell? ⟨b1, o1x4, none⟩ = some (v1x4) ∧ (W.setCell p u).cell? ⟨b1, o1x5, none⟩ = some (v1x5) ∧ (W.setCell p u).cell? ⟨b1, o1x6, none⟩ = some (v1x6) ∧ (W.setCell p u).cell? ⟨b1, o1x7, none⟩ = some (v1x7) ∧ (W.setCell p u).cell? ⟨b1, o1x8, none⟩ = some (v1x8) ∧ (W.setCell p u).cell? ⟨b1, o1x9, none⟩ = some (v1x9) ∧ (W.setCell p u).cell? ⟨b1, o1x10, none⟩ = some (v1x10) ∧ (W.setCell p u).cell? ⟨b1, o1x11, none⟩ = some (v1x11) ∧ (W.setCell p u).cell? ⟨b1, o1x12, none⟩ = some (v1x12)) ∧ b0 < (W.setCell p u).heap.size ∧ b1 < (W.setCell p u).heap.size) := by
  obtain ⟨⟨h0, h1, h2, h3, h4, h5, h6, h7, h8, h9, h10, h11, h12, h13, h14, h15⟩, s0, s1⟩ := h
  have hb : W.heap.size ≤ (W.setCell p u).heap.size := by simp [World.setCell]
  refine ⟨⟨?_, ?_, ?_, ?_, ?_, ?_, ?_, ?_, ?_, ?_, ?_, ?_, ?_, ?_, ?_, ?_⟩, Nat.lt_of_lt_of_le s0 hb, Nat.lt_of_lt_of_le s1 hb⟩
  · rw [cell_set_ne p0]; exact h0
  · rw [cell_set_ne p0]; exact h1
  · rw [cell_set_ne p0]; exact h2
  · rw [cell_set_ne p1]; exact h3
  · rw [cell_set_ne p1]; exact h4
  · rw [cell_set_ne p1]; exact h5
  · rw [cell_set_ne p1]; exact h6
  · rw [cell_set_ne p1]; exact h7
  · rw [cell_set_ne p1]; exact h8
  · rw [cell_set_ne p1]; exact h9
  · rw [cell_set_ne p1]; exact h10
  · rw [cell_set_ne p1]; exact h11
  · rw [cell_set_ne p1]; exact h12
  · rw [cell_set_ne p1]; exact h13
  · rw [cell_set_ne p1]; exact h14
  · rw [cell_set_ne p1]; exact h15

theorem hd_3_13_re {b0 b1 o0x0 o0x1 o0x2 o1x0 o1x1 o1x2 o1x3 o1x4 o1x5 o1x6 o1x7 o1x8 o1x9 o1x10 o1x11 o1x12 : Nat} {v0x0 v0x1 v0x2 v1x0 v1x1 v1x2 v1x3 v1x4 v1x5 v1x6 v1x7 v1x8 v1x9 v1x10 v1x11 v1x12 : Value} {W : World} {o o' : Obj} (h : (((W.alloc o).cell? ⟨b0, o0x0, none⟩ = some (v0x0) ∧ (W.alloc o).cell? ⟨b0, o0x1, none⟩ = some (v0x1) ∧ (W.alloc o).cell? ⟨b0, o0x2, none⟩ = some (v0x2) ∧ (W.alloc o).cell? ⟨b1, o1x0, none⟩ = some (v1x0) ∧ (W.alloc o).cell? ⟨b1, o1x1, none⟩ = some (v1x1) ∧ (W.alloc o).cell? ⟨b1, o1x2, none⟩ = some (v1x2) ∧ (W.alloc o).cell? ⟨b1, o1x3, none⟩ = some (v1x3) ∧ (W.alloc o).cell? ⟨b1, o1x4, none⟩ = some (v1x4) ∧ (W.alloc o).cell? ⟨b1, o1x5, none⟩ = some (v1x5) ∧ (W.alloc o).cell? ⟨b1, o1x6, none⟩ = some (v1x6) ∧ (W.alloc o).cell? ⟨b1, o1x7, none⟩ = some (v1x7) ∧ (W.alloc o).cell? ⟨b1, o1x8, none⟩ = some (v1x8) ∧ (W.alloc o).cell? ⟨b1, o1x9, none⟩ = some (v1x9) ∧ (W.alloc o).cell? ⟨b1, o1x10, none⟩ = some (v1x10) ∧ (W.alloc o).cell? ⟨b1, o1x11, none⟩ = some (v1x11) ∧ (W.alloc o).cell? ⟨b1, o1x12, none⟩ = some (v1x12)) ∧ b0 < (W.alloc o).heap.size ∧ b1 < (W.alloc o).heap.size)) (p0 : b0 < W.heap.size) (p1 : b1 < W.heap.size) : (((W.alloc o').cell? ⟨b0, o0x0, none⟩ = some (v0x0) ∧ (W.alloc o').cell? ⟨b0, o0x1, none⟩ = some (v0x1) ∧ (W.alloc o').cell? ⟨b0, o0x2, none⟩ = some (v0x2) ∧ (W.alloc o').cell? ⟨b1, o1x0, none⟩ = some (v1x0) ∧ (W.alloc o').cell? ⟨b1, o1x1, none⟩ = some (v1x1) ∧ (W.alloc o').cell? ⟨b1, o1x2, none⟩ = some (v1x2) ∧ (W.alloc o').cell? ⟨b1, o1x3, none⟩ = some (v1x3) ∧ (W.alloc o').cell? ⟨b1, o1x4, none⟩ = some (v1x4) ∧ (W.alloc o').cell? ⟨b1, o1x5, none⟩ = some (v1x5) ∧ (W.alloc o').cell? ⟨b1, o1x6, none⟩ = some (v1x6) ∧ (W.alloc o').cell? ⟨b1, o1x7, none⟩ = some (v1x7) ∧ (W.alloc o').cell? ⟨b1, o1x8, none⟩ = some (v1x8) ∧ (W.alloc o').cell? ⟨b1, o1x9, none⟩ = some (v1x9) ∧ (W.alloc o').cell? ⟨b1, o1x10, none⟩ = some (v1x10) ∧ (W.alloc o').cell? ⟨b1, o1x11, none⟩ = some (v1x11) ∧ (W.alloc o').cell? ⟨b1, o1x12, none⟩ = some (v1x12)) ∧ b0 < (W.alloc o').heap.size ∧ b1 < (W.alloc o').heap.size) := by
  obtain ⟨⟨h0, h1, h2, h3, h4, h5, h6, h7, h8, h9, h10, h11, h12, h13, h14, h15⟩, s0, s1⟩ := h
  have hb : Below W.heap.size (W.alloc o) (W.alloc o') := bel_re W o o'
  refine ⟨⟨?_, ?_, ?_, ?_, ?_, ?_, ?_, ?_, ?_, ?_, ?_, ?_, ?_, ?_, ?_, ?_⟩, Nat.lt_of_lt_of_le s0 hb.size, Nat.lt_of_lt_of_le s1 hb.size⟩
  · rw [hb.cell p0]; exact h0
  · rw [hb.cell p0]; exact h1
  · rw [hb.cell p0]; exact h2
  · rw [hb.cell p1]; exact h3
  · rw [hb.cell p1]; exact h4
  · rw [hb.cell p1]; exact h5
  · rw [hb.cell p1]; exact h6
  · rw [hb.cell p1]; exact h7
  · rw [hb.cell p1]; exact h8
  · rw [hb.cell p1]; exact h9
  · rw [hb.cell p1]; exact h10
  · rw [hb.cell p1]; exact h11
  · rw [hb.cell p1]; exact h12
  · rw [hb.cell p1]; exact h13
  · rw [hb.cell p1]; exact h14
  · rw [hb.cell p1]; exact h15

theorem take_snocO {α : Type} {xs : List α} {k : Nat} {x : α} (h : xs[k]? = some x) : xs.take (k + 1) = xs.take k ++ [x] := by
  obtain ⟨hk, he⟩ := List.getElem?_eq_some_iff.1 h
  rw [List.take_add_one, h]; rfl
/-- Whether a row is of a key's window; the first such row. -/
def OrR.isB (ky st en : Int) (x : OrR) : Bool := x.ky == ky && (x.st == st && x.en == en)
def findO (ky st en : Int) (xs : List OrR) : Option OrR := xs.find? (OrR.isB ky st en)
def foundO : Option OrR → Value
  | some x => .tuple #[.agg #[.int .i64 x.ky, .int .i64 x.st, .int .i64 x.en, .int .i64 x.an, .int .i64 x.asu, .int .i64 x.ale, .int .i64 x.amo, .int .i64 x.fn, .int .i64 x.fsu, .int .i64 x.fle, .int .i64 x.fmo, .int .i64 x.td, .bool x.tm], .bool true]
  | none => .tuple #[.agg #[.int .i64 0, .int .i64 0, .int .i64 0, .int .i64 0, .int .i64 0, .int .i64 0, .int .i64 0, .int .i64 0, .int .i64 0, .int .i64 0, .int .i64 0, .int .i64 0, .bool false], .bool false]
theorem isO_t {ky st en : Int} {x : OrR} (h1 : x.ky = ky) (h2 : x.st = st) (h3 : x.en = en) : x.isB ky st en = true := by simp [OrR.isB, h1, h2, h3]
theorem isO_1 {ky st en : Int} {x : OrR} (h1 : ¬ x.ky = ky) : x.isB ky st en = false := by simp [OrR.isB, h1]
theorem isO_2 {ky st en : Int} {x : OrR} (h1 : ¬ x.st = st) : x.isB ky st en = false := by simp [OrR.isB, h1]
theorem isO_3 {ky st en : Int} {x : OrR} (h1 : ¬ x.en = en) : x.isB ky st en = false := by simp [OrR.isB, h1]
theorem findO_hit {ky st en : Int} {xs : List OrR} {k : Nat} {x : OrR} (hx : xs[k]? = some x) (h0 : findO ky st en (xs.take k) = none) (hb : x.isB ky st en = true) : findO ky st en xs = some x := by
  have e : xs = xs.take k ++ x :: xs.drop (k + 1) := by
    obtain ⟨hk, he⟩ := List.getElem?_eq_some_iff.1 hx
    rw [← he, List.getElem_cons_drop, List.take_append_drop]
  rw [e]
  unfold findO at h0 ⊢
  rw [List.find?_append, h0]
  simp [hb]
theorem findO_no {ky st en : Int} {xs : List OrR} {k : Nat} {x : OrR} (hx : xs[k]? = some x) (h0 : findO ky st en (xs.take k) = none) (hb : x.isB ky st en = false) : findO ky st en (xs.take (k + 1)) = none := by
  rw [take_snocO hx]
  unfold findO at h0 ⊢
  rw [List.find?_append, h0]
  simp [hb]
theorem foundO_hit {ky st en : Int} {xs : List OrR} {k : Nat} {x : OrR} (hx : xs[k]? = some x) (h0 : findO ky st en (xs.take k) = none) (hb : x.isB ky st en = true) : foundO (findO ky st en xs) = .tuple #[.agg #[.int .i64 x.ky, .int .i64 x.st, .int .i64 x.en, .int .i64 x.an, .int .i64 x.asu, .int .i64 x.ale, .int .i64 x.amo, .int .i64 x.fn, .int .i64 x.fsu, .int .i64 x.fle, .int .i64 x.fmo, .int .i64 x.td, .bool x.tm], .bool true] := by rw [findO_hit hx h0 hb]; rfl
theorem ret_vO {a b : Value} (h : a = b) : Ending.returned a = .returned b := by rw [h]

set_option maxRecDepth 20000 in
set_option maxHeartbeats 2000000 in
theorem specofind_any (m : Int) (a : Option Addr) (len cap : Nat) (xs : List OrR) (ky st en : Int) (w : World) (h : OrRs w a len xs) : Calls Try.prog 12 #[.agg #[.int .i64 m, .slice a len cap], .int .i64 ky, .agg #[.int .i64 st, .int .i64 en]] w fun e w' => e = .returned (foundO (findO ky st en xs)) ∧ Below w.heap.size w w' := by
  have hm := h.2.1
  unfold maxLen at hm
  go_enter Try.func12, Try.ntmps12
  go_wp2
  go_loopw [8] (fun i wr => ∃ k : Nat, k ≤ len ∧ i = .int .i64 k ∧ Hid (findO ky st en (xs.take k) = none) ∧ Below (((w.alloc (.cells #[.int .i64 m, .slice a len cap] 33)).alloc (.cells #[.int .i64 st, .int .i64 en] 39)).alloc (.cells #[.int .i64 0, .int .i64 0, .int .i64 0, .int .i64 0, .int .i64 0, .int .i64 0, .int .i64 0, .int .i64 0, .int .i64 0, .int .i64 0, .int .i64 0, .int .i64 0, .bool false] 43)).heap.size (((w.alloc (.cells #[.int .i64 m, .slice a len cap] 33)).alloc (.cells #[.int .i64 st, .int .i64 en] 39)).alloc (.cells #[.int .i64 0, .int .i64 0, .int .i64 0, .int .i64 0, .int .i64 0, .int .i64 0, .int .i64 0, .int .i64 0, .int .i64 0, .int .i64 0, .int .i64 0, .int .i64 0, .bool false] 43)) wr) (fun i _ => len - (intOf i).toNat)
  case atStart => exact ⟨0, Nat.zero_le _, rfl, hide rfl, Below.refl _ _⟩
  case round =>
    obtain ⟨k, hk, rfl, hN, hbw⟩ := hrel
    have hb0 : Below w.heap.size w wr := bel_trans (bel_alloc (bel_alloc (bel_one _ _) _) _) hbw
    have c0_0 : wr.cell? ⟨w.heap.size, 0, none⟩ = some (.int .i64 m) := (hbw.cell (p := ⟨w.heap.size, 0, none⟩) (by simp; try omega)).trans (by simp [go_sem])
    have c0_1 : wr.cell? ⟨w.heap.size, 1, none⟩ = some (.slice a len cap) := (hbw.cell (p := ⟨w.heap.size, 1, none⟩) (by simp; try omega)).trans (by simp [go_sem])
    have c1_0 : wr.cell? ⟨w.heap.size + 1, 0, none⟩ = some (.int .i64 st) := (hbw.cell (p := ⟨w.heap.size + 1, 0, none⟩) (by simp; try omega)).trans (by simp [go_sem])
    have c1_1 : wr.cell? ⟨w.heap.size + 1, 1, none⟩ = some (.int .i64 en) := (hbw.cell (p := ⟨w.heap.size + 1, 1, none⟩) (by simp; try omega)).trans (by simp [go_sem])
    have c2_0 : wr.cell? ⟨w.heap.size + 1 + 1, 0, none⟩ = some (.int .i64 0) := (hbw.cell (p := ⟨w.heap.size + 1 + 1, 0, none⟩) (by simp; try omega)).trans (by simp [go_sem])
    have c2_1 : wr.cell? ⟨w.heap.size + 1 + 1, 1, none⟩ = some (.int .i64 0) := (hbw.cell (p := ⟨w.heap.size + 1 + 1, 1, none⟩) (by simp; try omega)).trans (by simp [go_sem])
    have c2_2 : wr.cell? ⟨w.heap.size + 1 + 1, 2, none⟩ = some (.int .i64 0) := (hbw.cell (p := ⟨w.heap.size + 1 + 1, 2, none⟩) (by simp; try omega)).trans (by simp [go_sem])
    have c2_3 : wr.cell? ⟨w.heap.size + 1 + 1, 3, none⟩ = some (.int .i64 0) := (hbw.cell (p := ⟨w.heap.size + 1 + 1, 3, none⟩) (by simp; try omega)).trans (by simp [go_sem])
    have c2_4 : wr.cell? ⟨w.heap.size + 1 + 1, 4, none⟩ = some (.int .i64 0) := (hbw.cell (p := ⟨w.heap.size + 1 + 1, 4, none⟩) (by simp; try omega)).trans (by simp [go_sem])
    have c2_5 : wr.cell? ⟨w.heap.size + 1 + 1, 5, none⟩ = some (.int .i64 0) := (hbw.cell (p := ⟨w.heap.size + 1 + 1, 5, none⟩) (by simp; try omega)).trans (by simp [go_sem])
    have c2_6 : wr.cell? ⟨w.heap.size + 1 + 1, 6, none⟩ = some (.int .i64 0) := (hbw.cell (p := ⟨w.heap.size + 1 + 1, 6, none⟩) (by simp; try omega)).trans (by simp [go_sem])
    have c2_7 : wr.cell? ⟨w.heap.size + 1 + 1, 7, none⟩ = some (.int .i64 0) := (hbw.cell (p := ⟨w.heap.size + 1 + 1, 7, none⟩) (by simp; try omega)).trans (by simp [go_sem])
    have c2_8 : wr.cell? ⟨w.heap.size + 1 + 1, 8, none⟩ = some (.int .i64 0) := (hbw.cell (p := ⟨w.heap.size + 1 + 1, 8, none⟩) (by simp; try omega)).trans (by simp [go_sem])
    have c2_9 : wr.cell? ⟨w.heap.size + 1 + 1, 9, none⟩ = some (.int .i64 0) := (hbw.cell (p := ⟨w.heap.size + 1 + 1, 9, none⟩) (by simp; try omega)).trans (by simp [go_sem])
    have c2_10 : wr.cell? ⟨w.heap.size + 1 + 1, 10, none⟩ = some (.int .i64 0) := (hbw.cell (p := ⟨w.heap.size + 1 + 1, 10, none⟩) (by simp; try omega)).trans (by simp [go_sem])
    have c2_11 : wr.cell? ⟨w.heap.size + 1 + 1, 11, none⟩ = some (.int .i64 0) := (hbw.cell (p := ⟨w.heap.size + 1 + 1, 11, none⟩) (by simp; try omega)).trans (by simp [go_sem])
    have c2_12 : wr.cell? ⟨w.heap.size + 1 + 1, 12, none⟩ = some (.bool false) := (hbw.cell (p := ⟨w.heap.size + 1 + 1, 12, none⟩) (by simp; try omega)).trans (by simp [go_sem])
    have z2_0 : wr.frozen? ⟨w.heap.size + 1 + 1, 0, none⟩ = false := (hbw.frozen (p := ⟨w.heap.size + 1 + 1, 0, none⟩) (by simp; try omega)).trans (by simp [go_sem])
    have z2_1 : wr.frozen? ⟨w.heap.size + 1 + 1, 1, none⟩ = false := (hbw.frozen (p := ⟨w.heap.size + 1 + 1, 1, none⟩) (by simp; try omega)).trans (by simp [go_sem])
    have z2_2 : wr.frozen? ⟨w.heap.size + 1 + 1, 2, none⟩ = false := (hbw.frozen (p := ⟨w.heap.size + 1 + 1, 2, none⟩) (by simp; try omega)).trans (by simp [go_sem])
    have z2_3 : wr.frozen? ⟨w.heap.size + 1 + 1, 3, none⟩ = false := (hbw.frozen (p := ⟨w.heap.size + 1 + 1, 3, none⟩) (by simp; try omega)).trans (by simp [go_sem])
    have z2_4 : wr.frozen? ⟨w.heap.size + 1 + 1, 4, none⟩ = false := (hbw.frozen (p := ⟨w.heap.size + 1 + 1, 4, none⟩) (by simp; try omega)).trans (by simp [go_sem])
    have z2_5 : wr.frozen? ⟨w.heap.size + 1 + 1, 5, none⟩ = false := (hbw.frozen (p := ⟨w.heap.size + 1 + 1, 5, none⟩) (by simp; try omega)).trans (by simp [go_sem])
    have z2_6 : wr.frozen? ⟨w.heap.size + 1 + 1, 6, none⟩ = false := (hbw.frozen (p := ⟨w.heap.size + 1 + 1, 6, none⟩) (by simp; try omega)).trans (by simp [go_sem])
    have z2_7 : wr.frozen? ⟨w.heap.size + 1 + 1, 7, none⟩ = false := (hbw.frozen (p := ⟨w.heap.size + 1 + 1, 7, none⟩) (by simp; try omega)).trans (by simp [go_sem])
    have z2_8 : wr.frozen? ⟨w.heap.size + 1 + 1, 8, none⟩ = false := (hbw.frozen (p := ⟨w.heap.size + 1 + 1, 8, none⟩) (by simp; try omega)).trans (by simp [go_sem])
    have z2_9 : wr.frozen? ⟨w.heap.size + 1 + 1, 9, none⟩ = false := (hbw.frozen (p := ⟨w.heap.size + 1 + 1, 9, none⟩) (by simp; try omega)).trans (by simp [go_sem])
    have z2_10 : wr.frozen? ⟨w.heap.size + 1 + 1, 10, none⟩ = false := (hbw.frozen (p := ⟨w.heap.size + 1 + 1, 10, none⟩) (by simp; try omega)).trans (by simp [go_sem])
    have z2_11 : wr.frozen? ⟨w.heap.size + 1 + 1, 11, none⟩ = false := (hbw.frozen (p := ⟨w.heap.size + 1 + 1, 11, none⟩) (by simp; try omega)).trans (by simp [go_sem])
    have z2_12 : wr.frozen? ⟨w.heap.size + 1 + 1, 12, none⟩ = false := (hbw.frozen (p := ⟨w.heap.size + 1 + 1, 12, none⟩) (by simp; try omega)).trans (by simp [go_sem])
    have hzb : w.heap.size + 1 + 1 < wr.heap.size := by have := hbw.size; simp at this; omega
    by_cases hlt : k < len
    · obtain ⟨hxl, _, hx⟩ := h
      obtain ⟨g, o, rfl, hr⟩ := hx.resolve_left (by omega)
      obtain ⟨x, hxk⟩ : ∃ x, xs[k]? = some x := ⟨_, List.getElem?_eq_getElem (by omega)⟩
      have hg : g < w.heap.size := hr.lt (by omega)
      have hX := hide hxk
      obtain ⟨d0, d1, d2, d3, d4, d5, d6, d7, d8, d9, d10, d11, d12⟩ := (hr k _ hxk).below hb0 hg
      clear hx hxk
      by_cases k1 : x.ky = ky
      · by_cases k2 : x.st = st
        · by_cases k3 : x.en = en
          · have hB := isO_t k1 k2 k3
            have hV := hide (foundO_hit (unhide hX) (unhide hN) hB)
            clear hB
            go_wp2
            go_quiet (fail)
            go_wp2
            show bodyPost _ _ _ _ _ _
            refine bodyPost_ret (v := .tuple #[.agg #[.int .i64 x.ky, .int .i64 x.st, .int .i64 x.en, .int .i64 x.an, .int .i64 x.asu, .int .i64 x.ale, .int .i64 x.amo, .int .i64 x.fn, .int .i64 x.fsu, .int .i64 x.fle, .int .i64 x.fmo, .int .i64 x.td, .bool x.tm], .bool true]) (by simp (maxDischargeDepth := 9) [results, Try.results12, go_sem, *]) rfl ⟨ret_vO (unhide hV).symm, ?_⟩
            exact (by repeat (first | (with_reducible refine bel_set ?_ (by first | (simp; done) | (simp; omega)) _) | (with_reducible refine bel_alloc ?_ _) | (with_reducible exact Below.refl _ _) | (with_reducible assumption) | (with_reducible refine bel_drew ?_) | (with_reducible refine bel_drewN ?_ _) | (with_reducible refine bel_trans ?_ (by with_reducible assumption))))
          · have hB := isO_3 (ky := ky) (st := st) k3
            have k3' : (x.en == en) = false := by simpa using k3
            have hN' := hide (findO_no (unhide hX) (unhide hN) hB)
            clear hB
            go_wp2
            go_quiet (fail)
            go_wp2
            go_roundw
            case rel => exact ⟨k + 1, by omega, by go_num, hN', (by repeat (first | (with_reducible refine bel_set ?_ (by first | (simp; done) | (simp; omega)) _) | (with_reducible refine bel_alloc ?_ _) | (with_reducible exact Below.refl _ _) | (with_reducible assumption) | (with_reducible refine bel_drew ?_) | (with_reducible refine bel_drewN ?_ _) | (with_reducible refine bel_trans ?_ (by with_reducible assumption))))⟩
            case measure => simp [intOf]; omega
        · have hB := isO_2 (ky := ky) (en := en) k2
          have k2' : (x.st == st) = false := by simpa using k2
          have hN' := hide (findO_no (unhide hX) (unhide hN) hB)
          clear hB
          go_wp2
          go_quiet (fail)
          go_wp2
          go_roundw
          case rel => exact ⟨k + 1, by omega, by go_num, hN', (by repeat (first | (with_reducible refine bel_set ?_ (by first | (simp; done) | (simp; omega)) _) | (with_reducible refine bel_alloc ?_ _) | (with_reducible exact Below.refl _ _) | (with_reducible assumption) | (with_reducible refine bel_drew ?_) | (with_reducible refine bel_drewN ?_ _) | (with_reducible refine bel_trans ?_ (by with_reducible assumption))))⟩
          case measure => simp [intOf]; omega
      · have hB := isO_1 (st := st) (en := en) k1
        have k1' : (x.ky == ky) = false := by simpa using k1
        have hN' := hide (findO_no (unhide hX) (unhide hN) hB)
        clear hB
        go_wp2
        go_quiet (fail)
        go_wp2
        go_roundw
        case rel => exact ⟨k + 1, by omega, by go_num, hN', (by repeat (first | (with_reducible refine bel_set ?_ (by first | (simp; done) | (simp; omega)) _) | (with_reducible refine bel_alloc ?_ _) | (with_reducible exact Below.refl _ _) | (with_reducible assumption) | (with_reducible refine bel_drew ?_) | (with_reducible refine bel_drewN ?_ _) | (with_reducible refine bel_trans ?_ (by with_reducible assumption))))⟩
        case measure => simp [intOf]; omega

    · have hV : Hid (foundO (findO ky st en xs) = .tuple #[.agg #[.int .i64 0, .int .i64 0, .int .i64 0, .int .i64 0, .int .i64 0, .int .i64 0, .int .i64 0, .int .i64 0, .int .i64 0, .int .i64 0, .int .i64 0, .int .i64 0, .bool false], .bool false]) := hide (by have e := unhide hN; rw [List.take_of_length_le (by have := h.1; omega)] at e; rw [e]; rfl)
      go_wp2
      show bodyPost _ _ _ _ _ _
      refine bodyPost_ret (v := .tuple #[.agg #[.int .i64 0, .int .i64 0, .int .i64 0, .int .i64 0, .int .i64 0, .int .i64 0, .int .i64 0, .int .i64 0, .int .i64 0, .int .i64 0, .int .i64 0, .int .i64 0, .bool false], .bool false]) (by simp (maxDischargeDepth := 9) [results, Try.results12, go_sem, *]) rfl ⟨ret_vO (unhide hV).symm, ?_⟩
      exact (by repeat (first | (with_reducible refine bel_set ?_ (by first | (simp; done) | (simp; omega)) _) | (with_reducible refine bel_alloc ?_ _) | (with_reducible exact Below.refl _ _) | (with_reducible assumption) | (with_reducible refine bel_drew ?_) | (with_reducible refine bel_drewN ?_ _) | (with_reducible refine bel_trans ?_ (by with_reducible assumption))))

end Go.Proofs.Ytklpdegipkjmdaa
