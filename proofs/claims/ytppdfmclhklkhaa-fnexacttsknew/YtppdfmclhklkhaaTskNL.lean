/- Proved here: the law on TskNew returns true at every argument. -/
import Derived.Test.YtppdfmclhklkhaaTskNB
import Derived.Deep.DeepCutAuto
namespace Go.Proofs.Ytppdfmclhklkhaa
open Go.ChangeShapes Go.WideShapes Go.ChangeAt Go.RowKit
set_option linter.unusedVariables false

theorem hd_10_2 {b0 b1 o0x0 o0x1 o0x2 o0x3 o0x4 o0x5 o0x6 o0x7 o0x8 o0x9 o1x0 o1x1 : Nat} {v0x0 v0x1 v0x2 v0x3 v0x4 v0x5 v0x6 v0x7 v0x8 v0x9 v1x0 v1x1 : Value} {W W' : World} (h : ((W.cell? ⟨b0, o0x0, none⟩ = some (v0x0) ∧ W.cell? ⟨b0, o0x1, none⟩ = some (v0x1) ∧ W.cell? ⟨b0, o0x2, none⟩ = some (v0x2) ∧ W.cell? ⟨b0, o0x3, none⟩ = some (v0x3) ∧ W.cell? ⟨b0, o0x4, none⟩ = some (v0x4) ∧ W.cell? ⟨b0, o0x5, none⟩ = some (v0x5) ∧ W.cell? ⟨b0, o0x6, none⟩ = some (v0x6) ∧ W.cell? ⟨b0, o0x7, none⟩ = some (v0x7) ∧ W.cell? ⟨b0, o0x8, none⟩ = some (v0x8) ∧ W.cell? ⟨b0, o0x9, none⟩ = some (v0x9) ∧ W.cell? ⟨b1, o1x0, none⟩ = some (v1x0) ∧ W.cell? ⟨b1, o1x1, none⟩ = some (v1x1)) ∧ b0 < W.heap.size ∧ b1 < W.heap.size)) (hb : Below W.heap.size W W') : ((W'.cell? ⟨b0, o0x0, none⟩ = some (v0x0) ∧ W'.cell? ⟨b0, o0x1, none⟩ = some (v0x1) ∧ W'.cell? ⟨b0, o0x2, none⟩ = some (v0x2) ∧ W'.cell? ⟨b0, o0x3, none⟩ = some (v0x3) ∧ W'.cell? ⟨b0, o0x4, none⟩ = some (v0x4) ∧ W'.cell? ⟨b0, o0x5, none⟩ = some (v0x5) ∧ W'.cell? ⟨b0, o0x6, none⟩ = some (v0x6) ∧ W'.cell? ⟨b0, o0x7, none⟩ = some (v0x7) ∧ W'.cell? ⟨b0, o0x8, none⟩ = some (v0x8) ∧ W'.cell? ⟨b0, o0x9, none⟩ = some (v0x9) ∧ W'.cell? ⟨b1, o1x0, none⟩ = some (v1x0) ∧ W'.cell? ⟨b1, o1x1, none⟩ = some (v1x1)) ∧ b0 < W'.heap.size ∧ b1 < W'.heap.size) := by
  obtain ⟨⟨h0, h1, h2, h3, h4, h5, h6, h7, h8, h9, h10, h11⟩, s0, s1⟩ := h
  refine ⟨⟨?_, ?_, ?_, ?_, ?_, ?_, ?_, ?_, ?_, ?_, ?_, ?_⟩, Nat.lt_of_lt_of_le s0 hb.size, Nat.lt_of_lt_of_le s1 hb.size⟩
  · rw [hb.cell s0]; exact h0
  · rw [hb.cell s0]; exact h1
  · rw [hb.cell s0]; exact h2
  · rw [hb.cell s0]; exact h3
  · rw [hb.cell s0]; exact h4
  · rw [hb.cell s0]; exact h5
  · rw [hb.cell s0]; exact h6
  · rw [hb.cell s0]; exact h7
  · rw [hb.cell s0]; exact h8
  · rw [hb.cell s0]; exact h9
  · rw [hb.cell s1]; exact h10
  · rw [hb.cell s1]; exact h11

theorem hd_10_2_set {b0 b1 o0x0 o0x1 o0x2 o0x3 o0x4 o0x5 o0x6 o0x7 o0x8 o0x9 o1x0 o1x1 : Nat} {v0x0 v0x1 v0x2 v0x3 v0x4 v0x5 v0x6 v0x7 v0x8 v0x9 v1x0 v1x1 : Value} {W : World} {p : Addr} (h : ((W.cell? ⟨b0, o0x0, none⟩ = some (v0x0) ∧ W.cell? ⟨b0, o0x1, none⟩ = some (v0x1) ∧ W.cell? ⟨b0, o0x2, none⟩ = some (v0x2) ∧ W.cell? ⟨b0, o0x3, none⟩ = some (v0x3) ∧ W.cell? ⟨b0, o0x4, none⟩ = some (v0x4) ∧ W.cell? ⟨b0, o0x5, none⟩ = some (v0x5) ∧ W.cell? ⟨b0, o0x6, none⟩ = some (v0x6) ∧ W.cell? ⟨b0, o0x7, none⟩ = some (v0x7) ∧ W.cell? ⟨b0, o0x8, none⟩ = some (v0x8) ∧ W.cell? ⟨b0, o0x9, none⟩ = some (v0x9) ∧ W.cell? ⟨b1, o1x0, none⟩ = some (v1x0) ∧ W.cell? ⟨b1, o1x1, none⟩ = some (v1x1)) ∧ b0 < W.heap.size ∧ b1 < W.heap.size)) (p0 : p.block ≠ b0) (p1 : p.block ≠ b1) (u : Value) : (((W.setCell p u).cell? ⟨b0, o0x0, none⟩ = some (v0x0) ∧ (W.setCell p u).cell? ⟨b0, o0x1, none⟩ = some (v0x1) ∧ (W.setCell p u).cell? ⟨b0, o0x2, none⟩ = some (v0x2) ∧ (W.setCell p u).cell? ⟨b0, o0x3, none⟩ = some (v0x3) ∧ (W.setCell p u).cell? ⟨b0, o0x4, none⟩ = some (v0x4) ∧ (W.setCell p u).cell? ⟨b0, o0x5, none⟩ = some (v0x5) ∧ (W.setCell p u).cell? ⟨b0, o0x6, none⟩ = some (v0x6) ∧ (W.setCell p u).cell? ⟨b0, o0x7, none⟩ = some (v0x7) ∧ (W.setCell p u).cell? ⟨b0, o0x8, none⟩ = some (v0x8) ∧ (W.setCell p u).cell? ⟨b0, o0x9, none⟩ = some (v0x9) ∧ (W.setCell p u).cell? ⟨b1, o1x0, none⟩ = some (v1x0) ∧ (W.setCell p u).cell? ⟨b1, o1x1, none⟩ = some (v1x1)) ∧ b0 < (W.setCell p u).heap.size ∧ b1 < (W.setCell p u).heap.size) := by
  obtain ⟨⟨h0, h1, h2, h3, h4, h5, h6, h7, h8, h9, h10, h11⟩, s0, s1⟩ := h
  have hb : W.heap.size ≤ (W.setCell p u).heap.size := by simp [World.setCell]
  refine ⟨⟨?_, ?_, ?_, ?_, ?_, ?_, ?_, ?_, ?_, ?_, ?_, ?_⟩, Nat.lt_of_lt_of_le s0 hb, Nat.lt_of_lt_of_le s1 hb⟩
  · rw [cell_set_ne p0]; exact h0
  · rw [cell_set_ne p0]; exact h1
  · rw [cell_set_ne p0]; exact h2
  · rw [cell_set_ne p0]; exact h3
  · rw [cell_set_ne p0]; exact h4
  · rw [cell_set_ne p0]; exact h5
  · rw [cell_set_ne p0]; exact h6
  · rw [cell_set_ne p0]; exact h7
  · rw [cell_set_ne p0]; exact h8
  · rw [cell_set_ne p0]; exact h9
  · rw [cell_set_ne p1]; exact h10
  · rw [cell_set_ne p1]; exact h11

theorem hd_10_2_re {b0 b1 o0x0 o0x1 o0x2 o0x3 o0x4 o0x5 o0x6 o0x7 o0x8 o0x9 o1x0 o1x1 : Nat} {v0x0 v0x1 v0x2 v0x3 v0x4 v0x5 v0x6 v0x7 v0x8 v0x9 v1x0 v1x1 : Value} {W : World} {o o' : Obj} (h : (((W.alloc o).cell? ⟨b0, o0x0, none⟩ = some (v0x0) ∧ (W.alloc o).cell? ⟨b0, o0x1, none⟩ = some (v0x1) ∧ (W.alloc o).cell? ⟨b0, o0x2, none⟩ = some (v0x2) ∧ (W.alloc o).cell? ⟨b0, o0x3, none⟩ = some (v0x3) ∧ (W.alloc o).cell? ⟨b0, o0x4, none⟩ = some (v0x4) ∧ (W.alloc o).cell? ⟨b0, o0x5, none⟩ = some (v0x5) ∧ (W.alloc o).cell? ⟨b0, o0x6, none⟩ = some (v0x6) ∧ (W.alloc o).cell? ⟨b0, o0x7, none⟩ = some (v0x7) ∧ (W.alloc o).cell? ⟨b0, o0x8, none⟩ = some (v0x8) ∧ (W.alloc o).cell? ⟨b0, o0x9, none⟩ = some (v0x9) ∧ (W.alloc o).cell? ⟨b1, o1x0, none⟩ = some (v1x0) ∧ (W.alloc o).cell? ⟨b1, o1x1, none⟩ = some (v1x1)) ∧ b0 < (W.alloc o).heap.size ∧ b1 < (W.alloc o).heap.size)) (p0 : b0 < W.heap.size) (p1 : b1 < W.heap.size) : (((W.alloc o').cell? ⟨b0, o0x0, none⟩ = some (v0x0) ∧ (W.alloc o').cell? ⟨b0, o0x1, none⟩ = some (v0x1) ∧ (W.alloc o').cell? ⟨b0, o0x2, none⟩ = some (v0x2) ∧ (W.alloc o').cell? ⟨b0, o0x3, none⟩ = some (v0x3) ∧ (W.alloc o').cell? ⟨b0, o0x4, none⟩ = some (v0x4) ∧ (W.alloc o').cell? ⟨b0, o0x5, none⟩ = some (v0x5) ∧ (W.alloc o').cell? ⟨b0, o0x6, none⟩ = some (v0x6) ∧ (W.alloc o').cell? ⟨b0, o0x7, none⟩ = some (v0x7) ∧ (W.alloc o').cell? ⟨b0, o0x8, none⟩ = some (v0x8) ∧ (W.alloc o').cell? ⟨b0, o0x9, none⟩ = some (v0x9) ∧ (W.alloc o').cell? ⟨b1, o1x0, none⟩ = some (v1x0) ∧ (W.alloc o').cell? ⟨b1, o1x1, none⟩ = some (v1x1)) ∧ b0 < (W.alloc o').heap.size ∧ b1 < (W.alloc o').heap.size) := by
  obtain ⟨⟨h0, h1, h2, h3, h4, h5, h6, h7, h8, h9, h10, h11⟩, s0, s1⟩ := h
  have hb : Below W.heap.size (W.alloc o) (W.alloc o') := bel_re W o o'
  refine ⟨⟨?_, ?_, ?_, ?_, ?_, ?_, ?_, ?_, ?_, ?_, ?_, ?_⟩, Nat.lt_of_lt_of_le s0 hb.size, Nat.lt_of_lt_of_le s1 hb.size⟩
  · rw [hb.cell p0]; exact h0
  · rw [hb.cell p0]; exact h1
  · rw [hb.cell p0]; exact h2
  · rw [hb.cell p0]; exact h3
  · rw [hb.cell p0]; exact h4
  · rw [hb.cell p0]; exact h5
  · rw [hb.cell p0]; exact h6
  · rw [hb.cell p0]; exact h7
  · rw [hb.cell p0]; exact h8
  · rw [hb.cell p0]; exact h9
  · rw [hb.cell p1]; exact h10
  · rw [hb.cell p1]; exact h11

theorem specnew_eq (s t k z p l e : Int) (b : Bool) (v r : Int) (m : Int) (g len cap : Nat) (ma : Option Addr) (ml mc : Nat) (rows : List OrR) (ms : List Int) (w : World) {D : TkD} {om : Int} (h : OrG w g len rows) (h2 : InRs w ma ml ms) (hl : len ≤ 1048576) (hml : ml ≤ 1048576) (hN : Hid (newD (newB s t k z p l e v r m rows ms) ms rows = D ∧ newM (newB s t k z p l e v r m rows ms) m = om)) : Calls Try.prog 8 #[.agg #[.int .i64 s, .int .i64 t, .int .i64 k, .int .i64 z, .int .i64 p, .int .i64 l, .int .i64 e, .bool b, .int .i64 v, .int .i64 r], .agg #[.int .i64 m, .slice (some ⟨g, 0, none⟩) len cap], .slice ma ml mc] w fun e' w' => NewP w D om e' w' := by
  obtain ⟨e1, e2⟩ := unhide hN
  rw [← e1, ← e2]
  exact specnew_any s t k z p l e b v r m g len cap ma ml mc rows ms w h h2 hl hml (hide rfl)
theorem implnew_eq (s t k z p l e : Int) (b : Bool) (v r : Int) (m : Int) (g len cap : Nat) (ma : Option Addr) (ml mc : Nat) (rows : List OrR) (ms : List Int) (w : World) {D : TkD} {om : Int} (h : OrG w g len rows) (h2 : InRs w ma ml ms) (hl : len ≤ 1048576) (hml : ml ≤ 1048576) (hN : Hid (newD (newB s t k z p l e v r m rows ms) ms rows = D ∧ newM (newB s t k z p l e v r m rows ms) m = om)) : Calls Try.prog 12 #[.agg #[.int .i64 s, .int .i64 t, .int .i64 k, .int .i64 z, .int .i64 p, .int .i64 l, .int .i64 e, .bool b, .int .i64 v, .int .i64 r], .agg #[.int .i64 m, .slice (some ⟨g, 0, none⟩) len cap], .slice ma ml mc] w fun e' w' => NewP w D om e' w' := by
  obtain ⟨e1, e2⟩ := unhide hN
  rw [← e1, ← e2]
  exact implnew_any s t k z p l e b v r m g len cap ma ml mc rows ms w h h2 hl hml (hide rfl)
set_option linter.unusedSimpArgs false in
set_option maxRecDepth 20000 in
set_option maxHeartbeats 16000000 in
theorem lawTskNew (s t k z p l e : Int) (b : Bool) (v r : Int) (m : Int) (a0 : Option Addr) (len0 cap0 : Nat) (z0 : List OrR) (a1 : Option Addr) (len1 cap1 : Nat) (z1 : List Int) (w : World) (h0 : OrRs w a0 len0 z0) (h1 : InRs w a1 len1 z1) : Calls Try.prog 3 #[.agg #[.int .i64 s, .int .i64 t, .int .i64 k, .int .i64 z, .int .i64 p, .int .i64 l, .int .i64 e, .bool b, .int .i64 v, .int .i64 r], .agg #[.int .i64 m, .slice a0 len0 cap0], .slice a1 len1 cap1] w fun e' w' => e' = .returned (.bool true) ∧ Below w.heap.size w w' := by
  have hm0 := h0.2.1
  have hm1 := h1.2.1
  unfold maxLen at hm1
  have hbb : Below w.heap.size w ((w.alloc (.cells #[.int .i64 s, .int .i64 t, .int .i64 k, .int .i64 z, .int .i64 p, .int .i64 l, .int .i64 e, .bool b, .int .i64 v, .int .i64 r] 23)).alloc (.cells #[.int .i64 m, .slice a0 len0 cap0] 26)) := bel_alloc (bel_one _ _) _
  by_cases hL1 : (len1 : Int) ≤ 1048576
  rotate_left
  · go_enter Try.func3, Try.ntmps3
    go_wp2
    go_ret
    exact ⟨rfl, (by repeat (first | (with_reducible exact Below.refl _ _) | (with_reducible assumption) | (with_reducible refine bel_set ?_ (by first | (simp; done) | (simp; omega)) _) | (with_reducible refine bel_alloc ?_ _) | (with_reducible refine bel_drew ?_) | (with_reducible refine bel_drewN ?_ _) | (with_reducible refine bel_trans ?_ (by with_reducible assumption))))⟩
  have hl1 : len1 ≤ 1048576 := by omega
  obtain ⟨D, om, hN0⟩ : ∃ D om, newD (newB s t k z p l e v r m z0 z1) z1 z0 = D ∧ newM (newB s t k z p l e v r m z0 z1) m = om := ⟨_, _, rfl, rfl⟩
  have hN := hide hN0
  clear hN0
  go_enter Try.func3, Try.ntmps3
  go_wp2_with fail
  refine (szSt_p m a0 len0 cap0 1048576 _ hm0 (by omega) (by omega)).mono ?_
  rintro e' w1 ⟨⟨rr, rfl, hr⟩, hb1⟩
  have y0 : w.heap.size + 1 < w1.heap.size := by have h9 := hb1.size; simp at h9; omega
  rcases hr with rfl | ⟨hr0, hr1, hl0⟩
  · go_wp2
    go_ret
    exact ⟨rfl, (by repeat (first | (with_reducible exact Below.refl _ _) | (with_reducible assumption) | (with_reducible refine bel_set ?_ (by first | (simp; done) | (simp; omega)) _) | (with_reducible refine bel_alloc ?_ _) | (with_reducible refine bel_drew ?_) | (with_reducible refine bel_drewN ?_ _) | (with_reducible refine bel_trans ?_ (by with_reducible assumption))))⟩
  · have hneg : ¬ rr < 0 := by omega
    have HO : OrRs w1 a0 len0 z0 := h0.below (bel_trans hbb hb1)
    have HI : InRs w1 a1 len1 z1 := h1.below (bel_trans hbb hb1)
    have hbF1 : Below w.heap.size w w1 := bel_trans hbb hb1
    have hS0 : ((w1.cell? ⟨w.heap.size, 0, none⟩ = some (.int .i64 s) ∧ w1.cell? ⟨w.heap.size, 1, none⟩ = some (.int .i64 t) ∧ w1.cell? ⟨w.heap.size, 2, none⟩ = some (.int .i64 k) ∧ w1.cell? ⟨w.heap.size, 3, none⟩ = some (.int .i64 z) ∧ w1.cell? ⟨w.heap.size, 4, none⟩ = some (.int .i64 p) ∧ w1.cell? ⟨w.heap.size, 5, none⟩ = some (.int .i64 l) ∧ w1.cell? ⟨w.heap.size, 6, none⟩ = some (.int .i64 e) ∧ w1.cell? ⟨w.heap.size, 7, none⟩ = some (.bool b) ∧ w1.cell? ⟨w.heap.size, 8, none⟩ = some (.int .i64 v) ∧ w1.cell? ⟨w.heap.size, 9, none⟩ = some (.int .i64 r) ∧ w1.cell? ⟨w.heap.size + 1, 0, none⟩ = some (.int .i64 m) ∧ w1.cell? ⟨w.heap.size + 1, 1, none⟩ = some (.slice a0 len0 cap0)) ∧ w.heap.size < w1.heap.size ∧ w.heap.size + 1 < w1.heap.size) := ⟨⟨(hb1.cell (p := ⟨w.heap.size, 0, none⟩) (by simp <;> omega)).trans (by simp [go_sem]), (hb1.cell (p := ⟨w.heap.size, 1, none⟩) (by simp <;> omega)).trans (by simp [go_sem]), (hb1.cell (p := ⟨w.heap.size, 2, none⟩) (by simp <;> omega)).trans (by simp [go_sem]), (hb1.cell (p := ⟨w.heap.size, 3, none⟩) (by simp <;> omega)).trans (by simp [go_sem]), (hb1.cell (p := ⟨w.heap.size, 4, none⟩) (by simp <;> omega)).trans (by simp [go_sem]), (hb1.cell (p := ⟨w.heap.size, 5, none⟩) (by simp <;> omega)).trans (by simp [go_sem]), (hb1.cell (p := ⟨w.heap.size, 6, none⟩) (by simp <;> omega)).trans (by simp [go_sem]), (hb1.cell (p := ⟨w.heap.size, 7, none⟩) (by simp <;> omega)).trans (by simp [go_sem]), (hb1.cell (p := ⟨w.heap.size, 8, none⟩) (by simp <;> omega)).trans (by simp [go_sem]), (hb1.cell (p := ⟨w.heap.size, 9, none⟩) (by simp <;> omega)).trans (by simp [go_sem]), (hb1.cell (p := ⟨w.heap.size + 1, 0, none⟩) (by simp <;> omega)).trans (by simp [go_sem]), (hb1.cell (p := ⟨w.heap.size + 1, 1, none⟩) (by simp <;> omega)).trans (by simp [go_sem])⟩, by omega, y0⟩
    clear hb1 hbb h0 h1
    go_wp2_with fail
    go_cut [8] (fun pv W => BoxP w1 D om pv W)
    case first =>
      refine wp_region_held_drew (S := (fun W => ((W.cell? ⟨w.heap.size, 0, none⟩ = some (.int .i64 s) ∧ W.cell? ⟨w.heap.size, 1, none⟩ = some (.int .i64 t) ∧ W.cell? ⟨w.heap.size, 2, none⟩ = some (.int .i64 k) ∧ W.cell? ⟨w.heap.size, 3, none⟩ = some (.int .i64 z) ∧ W.cell? ⟨w.heap.size, 4, none⟩ = some (.int .i64 p) ∧ W.cell? ⟨w.heap.size, 5, none⟩ = some (.int .i64 l) ∧ W.cell? ⟨w.heap.size, 6, none⟩ = some (.int .i64 e) ∧ W.cell? ⟨w.heap.size, 7, none⟩ = some (.bool b) ∧ W.cell? ⟨w.heap.size, 8, none⟩ = some (.int .i64 v) ∧ W.cell? ⟨w.heap.size, 9, none⟩ = some (.int .i64 r) ∧ W.cell? ⟨w.heap.size + 1, 0, none⟩ = some (.int .i64 m) ∧ W.cell? ⟨w.heap.size + 1, 1, none⟩ = some (.slice a0 len0 cap0)) ∧ w.heap.size < W.heap.size ∧ w.heap.size + 1 < W.heap.size))) (by kernel_rfl) ?_ (fun hHeld => ?_)
      · (try dsimp only); exact hd_10_2 hS0 (by repeat (first | (with_reducible exact Below.refl _ _) | (with_reducible assumption) | (with_reducible refine bel_set ?_ (by first | (simp; done) | (simp; omega)) _) | (with_reducible refine bel_alloc ?_ _) | (with_reducible refine bel_drew ?_) | (with_reducible refine bel_drewN ?_ _) | (with_reducible refine bel_trans ?_ (by with_reducible assumption))))
      refine wpAnyH_take (i := 0) (v := ?_) (by simp only [List.getElem?_toArray, List.getElem?_cons_zero, List.getElem?_cons_succ]; rfl) (by kernel_rfl) (by kernel_rfl) (by kernel_rfl) (by intro _ _ _ h; exact h) (Or.inl ⟨by rfl, ?_⟩) (by assumption) ?_
      rotate_left
      · (intro w9 hSw; (try dsimp only at hSw); go_simp <;> with_reducible rfl)
      try simp only [Act.put, List.setIfInBounds_toArray, List.set_cons_zero, List.set_cons_succ]
      refine wpAnyH_take (i := 2) (v := ?_) (by simp only [List.getElem?_toArray, List.getElem?_cons_zero, List.getElem?_cons_succ]; rfl) (by kernel_rfl) (by kernel_rfl) (by kernel_rfl) (by intro _ _ _ h; exact h) (Or.inl ⟨by rfl, ?_⟩) (by assumption) ?_
      rotate_left
      · (intro w9 hSw; (try dsimp only at hSw); go_simp <;> with_reducible rfl)
      try simp only [Act.put, List.setIfInBounds_toArray, List.set_cons_zero, List.set_cons_succ]
      refine wpAnyH_take (i := 4) (v := ?_) (by simp only [List.getElem?_toArray, List.getElem?_cons_zero, List.getElem?_cons_succ]; rfl) (by kernel_rfl) (by kernel_rfl) (by kernel_rfl) (by intro _ _ _ h; exact h) (Or.inl ⟨by rfl, ?_⟩) (by assumption) ?_
      rotate_left
      · (intro w9 hSw; (try dsimp only at hSw); go_simp <;> with_reducible rfl)
      try simp only [Act.put, List.setIfInBounds_toArray, List.set_cons_zero, List.set_cons_succ]
      refine wpAnyH_ready (rs := [1, 7]) (by kernel_rfl) (by simp) ?_
      refine AllReadyH.cons (by simp only [List.getElem?_toArray, List.getElem?_cons_zero, List.getElem?_cons_succ]; rfl) (fun K hK => ?_) ?_
      · go_simp
        (go_at_call 9; refine (toJob_any _ _ _ _ _ _ _ _ _ _ _).mono ?_; rintro e' pj ⟨rfl, hbpj⟩)
        (try go_wp2_with fail)
        have szpj := hbpj.size
        (try simp at szpj)
        refine hK.out _ _ ?_ (fun hHeld2 => ?_)
        · (try dsimp only); exact hd_10_2 hS0 (by repeat (first | (with_reducible exact Below.refl _ _) | (with_reducible assumption) | (with_reducible refine bel_set ?_ (by first | (simp; done) | (simp; omega)) _) | (with_reducible refine bel_alloc ?_ _) | (with_reducible refine bel_drew ?_) | (with_reducible refine bel_drewN ?_ _) | (with_reducible refine bel_trans ?_ (by with_reducible assumption))))
        clear hK K hHeld
        have hHeld := hHeld2
        clear hHeld2
        try simp only [Act.put, List.setIfInBounds_toArray, List.set_cons_zero, List.set_cons_succ]
        refine wpAnyH_ready (rs := [3, 7]) (by kernel_rfl) (by simp) ?_
        refine AllReadyH.cons (by simp only [List.getElem?_toArray, List.getElem?_cons_zero, List.getElem?_cons_succ]; rfl) (fun K hK => ?_) ?_
        · go_simp
          (go_at_call 10; refine (toStG_any m a0 len0 cap0 z0 _ (HO.below (by repeat (first | (with_reducible exact Below.refl _ _) | (with_reducible assumption) | (with_reducible refine bel_set ?_ (by first | (simp; done) | (simp; omega)) _) | (with_reducible refine bel_alloc ?_ _) | (with_reducible refine bel_drew ?_) | (with_reducible refine bel_drewN ?_ _) | (with_reducible refine bel_trans ?_ (by with_reducible assumption))))) hl0).mono ?_; rintro e' po ⟨go, rfl, hGo, hgo, hbpo⟩)
          (try go_wp2_with fail)
          have szpo := hbpo.size
          (try simp at szpo)
          refine hK.out _ _ ?_ (fun hHeld2 => ?_)
          · (try dsimp only); exact hd_10_2 hS0 (by repeat (first | (with_reducible exact Below.refl _ _) | (with_reducible assumption) | (with_reducible refine bel_set ?_ (by first | (simp; done) | (simp; omega)) _) | (with_reducible refine bel_alloc ?_ _) | (with_reducible refine bel_drew ?_) | (with_reducible refine bel_drewN ?_ _) | (with_reducible refine bel_trans ?_ (by with_reducible assumption))))
          clear hK K hHeld
          have hHeld := hHeld2
          clear hHeld2
          try simp only [Act.put, List.setIfInBounds_toArray, List.set_cons_zero, List.set_cons_succ]
          refine wpAnyH_ready (rs := [5, 7]) (by kernel_rfl) (by simp) ?_
          refine AllReadyH.cons (by simp only [List.getElem?_toArray, List.getElem?_cons_zero, List.getElem?_cons_succ]; rfl) (fun K hK => ?_) ?_
          · go_simp
            (go_at_call 11; refine (toIn_any a1 len1 cap1 z1 _ (HI.below (by repeat (first | (with_reducible exact Below.refl _ _) | (with_reducible assumption) | (with_reducible refine bel_set ?_ (by first | (simp; done) | (simp; omega)) _) | (with_reducible refine bel_alloc ?_ _) | (with_reducible refine bel_drew ?_) | (with_reducible refine bel_drewN ?_ _) | (with_reducible refine bel_trans ?_ (by with_reducible assumption))))) hl1).mono ?_; rintro e' pi ⟨ai, rfl, hIi, _, _, hbpi⟩)
            (try go_wp2_with fail)
            have szpi := hbpi.size
            (try simp at szpi)
            refine hK.out _ _ ?_ (fun hHeld2 => ?_)
            · (try dsimp only); exact hd_10_2 hS0 (by repeat (first | (with_reducible exact Below.refl _ _) | (with_reducible assumption) | (with_reducible refine bel_set ?_ (by first | (simp; done) | (simp; omega)) _) | (with_reducible refine bel_alloc ?_ _) | (with_reducible refine bel_drew ?_) | (with_reducible refine bel_drewN ?_ _) | (with_reducible refine bel_trans ?_ (by with_reducible assumption))))
            clear hK K hHeld
            have hHeld := hHeld2
            clear hHeld2
            try simp only [Act.put, List.setIfInBounds_toArray, List.set_cons_zero, List.set_cons_succ]
            refine wpAnyH_ready (rs := [6, 7]) (by kernel_rfl) (by simp) ?_
            refine AllReadyH.cons (by simp only [List.getElem?_toArray, List.getElem?_cons_zero, List.getElem?_cons_succ]; rfl) (fun K hK => ?_) ?_
            · go_simp
              (go_at_call 8; refine (specnew_eq s t k z p l e b v r m go len0 len0 ai len1 len1 z0 z1 _ (hGo.below (by repeat (first | (with_reducible exact Below.refl _ _) | (with_reducible assumption) | (with_reducible refine bel_set ?_ (by first | (simp; done) | (simp; omega)) _) | (with_reducible refine bel_alloc ?_ _) | (with_reducible refine bel_drew ?_) | (with_reducible refine bel_drewN ?_ _) | (with_reducible refine bel_trans ?_ (by with_reducible assumption))))) (hIi.below (by repeat (first | (with_reducible exact Below.refl _ _) | (with_reducible assumption) | (with_reducible refine bel_set ?_ (by first | (simp; done) | (simp; omega)) _) | (with_reducible refine bel_alloc ?_ _) | (with_reducible refine bel_drew ?_) | (with_reducible refine bel_drewN ?_ _) | (with_reducible refine bel_trans ?_ (by with_reducible assumption))))) hl0 hl1 hN).mono ?_; rintro e' pn ⟨ia, il, ic, oa, ol, oc, ⟨rfl, rfl⟩, rfl, hT, hW, hbpn⟩)
              (try go_wp2_with fail)
              have szpn := hbpn.size
              (try simp at szpn)
              refine hK.out _ _ ?_ (fun hHeld2 => ?_)
              · (try dsimp only); exact hd_10_2 hS0 (by repeat (first | (with_reducible exact Below.refl _ _) | (with_reducible assumption) | (with_reducible refine bel_set ?_ (by first | (simp; done) | (simp; omega)) _) | (with_reducible refine bel_alloc ?_ _) | (with_reducible refine bel_drew ?_) | (with_reducible refine bel_drewN ?_ _) | (with_reducible refine bel_trans ?_ (by with_reducible assumption))))
              clear hK K hHeld
              have hHeld := hHeld2
              clear hHeld2
              try simp only [Act.put, List.setIfInBounds_toArray, List.set_cons_zero, List.set_cons_succ]
              refine wpAnyH_ready (rs := [7]) (by kernel_rfl) (by simp) ?_
              refine AllReadyH.cons (by simp only [List.getElem?_toArray, List.getElem?_cons_zero, List.getElem?_cons_succ]; rfl) (fun K hK => ?_) AllReadyH.nil
              go_simp
              refine hK.out _ _ ?_ (fun hHeld2 => ?_)
              · (try dsimp only); exact hd_10_2 hS0 (by repeat (first | (with_reducible exact Below.refl _ _) | (with_reducible assumption) | (with_reducible refine bel_set ?_ (by first | (simp; done) | (simp; omega)) _) | (with_reducible refine bel_alloc ?_ _) | (with_reducible refine bel_drew ?_) | (with_reducible refine bel_drewN ?_ _) | (with_reducible refine bel_trans ?_ (by with_reducible assumption))))
              clear hK K hHeld
              have hHeld := hHeld2
              clear hHeld2
              try simp only [Act.put, List.setIfInBounds_toArray, List.set_cons_zero, List.set_cons_succ]
              refine wpAnyH_ready (rs := [8]) (by kernel_rfl) (by simp) ?_
              refine AllReadyH.cons (by simp only [List.getElem?_toArray, List.getElem?_cons_zero, List.getElem?_cons_succ]; rfl) (fun K hK => ?_) AllReadyH.nil
              go_simp
              refine hK.out _ _ ?_ (fun hHeld2 => ?_)
              · (try dsimp only); exact hd_10_2 hS0 (by repeat (first | (with_reducible exact Below.refl _ _) | (with_reducible assumption) | (with_reducible refine bel_set ?_ (by first | (simp; done) | (simp; omega)) _) | (with_reducible refine bel_alloc ?_ _) | (with_reducible refine bel_drew ?_) | (with_reducible refine bel_drewN ?_ _) | (with_reducible refine bel_trans ?_ (by with_reducible assumption))))
              clear hK K hHeld
              have hHeld := hHeld2
              clear hHeld2
              try simp only [Act.put, List.setIfInBounds_toArray, List.set_cons_zero, List.set_cons_succ]
              refine wpAnyH_done (by kernel_rfl) ?_ _
              go_wp2
              go_meet
              exact boxLate ⟨rfl, rfl⟩ hT hW (by first | (simp; done) | (simp; omega) | omega) (by repeat (first | (with_reducible exact Below.refl _ _) | (with_reducible assumption) | (with_reducible refine bel_set ?_ (by first | (simp; done) | (simp; omega)) _) | (with_reducible refine bel_alloc ?_ _) | (with_reducible refine bel_drew ?_) | (with_reducible refine bel_drewN ?_ _) | (with_reducible refine bel_trans ?_ (by with_reducible assumption))))
            refine AllReadyH.cons (by simp only [List.getElem?_toArray, List.getElem?_cons_zero, List.getElem?_cons_succ]; rfl) (fun K hK => ?_) AllReadyH.nil
            go_simp
            refine hK.out _ _ ?_ (fun hHeld2 => ?_)
            · (try dsimp only); exact hd_10_2 hS0 (by repeat (first | (with_reducible exact Below.refl _ _) | (with_reducible assumption) | (with_reducible refine bel_set ?_ (by first | (simp; done) | (simp; omega)) _) | (with_reducible refine bel_alloc ?_ _) | (with_reducible refine bel_drew ?_) | (with_reducible refine bel_drewN ?_ _) | (with_reducible refine bel_trans ?_ (by with_reducible assumption))))
            clear hK K hHeld
            have hHeld := hHeld2
            clear hHeld2
            try simp only [Act.put, List.setIfInBounds_toArray, List.set_cons_zero, List.set_cons_succ]
            refine wpAnyH_ready (rs := [6]) (by kernel_rfl) (by simp) ?_
            refine AllReadyH.cons (by simp only [List.getElem?_toArray, List.getElem?_cons_zero, List.getElem?_cons_succ]; rfl) (fun K hK => ?_) AllReadyH.nil
            go_simp
            (go_at_call 8; refine (specnew_eq s t k z p l e b v r m go len0 len0 ai len1 len1 z0 z1 _ (hGo.below (by repeat (first | (with_reducible exact Below.refl _ _) | (with_reducible assumption) | (with_reducible refine bel_set ?_ (by first | (simp; done) | (simp; omega)) _) | (with_reducible refine bel_alloc ?_ _) | (with_reducible refine bel_drew ?_) | (with_reducible refine bel_drewN ?_ _) | (with_reducible refine bel_trans ?_ (by with_reducible assumption))))) (hIi.below (by repeat (first | (with_reducible exact Below.refl _ _) | (with_reducible assumption) | (with_reducible refine bel_set ?_ (by first | (simp; done) | (simp; omega)) _) | (with_reducible refine bel_alloc ?_ _) | (with_reducible refine bel_drew ?_) | (with_reducible refine bel_drewN ?_ _) | (with_reducible refine bel_trans ?_ (by with_reducible assumption))))) hl0 hl1 hN).mono ?_; rintro e' pn ⟨ia, il, ic, oa, ol, oc, ⟨rfl, rfl⟩, rfl, hT, hW, hbpn⟩)
            (try go_wp2_with fail)
            have szpn := hbpn.size
            (try simp at szpn)
            have zc0 : pn.cell? ⟨pi.heap.size, 0, none⟩ = some (.slice none 0 0) := (hbpn.cell (p := ⟨pi.heap.size, 0, none⟩) (by first | (simp; done) | (simp; omega) | omega)).trans (by simp [go_sem])
            have zf0 : pn.frozen? ⟨pi.heap.size, 0, none⟩ = false := (hbpn.frozen (p := ⟨pi.heap.size, 0, none⟩) (by first | (simp; done) | (simp; omega) | omega)).trans (by simp [go_sem])
            have zc1 : pn.cell? ⟨pi.heap.size, 1, none⟩ = some (.int .i64 0) := (hbpn.cell (p := ⟨pi.heap.size, 1, none⟩) (by first | (simp; done) | (simp; omega) | omega)).trans (by simp [go_sem])
            have zf1 : pn.frozen? ⟨pi.heap.size, 1, none⟩ = false := (hbpn.frozen (p := ⟨pi.heap.size, 1, none⟩) (by first | (simp; done) | (simp; omega) | omega)).trans (by simp [go_sem])
            have zc2 : pn.cell? ⟨pi.heap.size, 2, none⟩ = some (.slice none 0 0) := (hbpn.cell (p := ⟨pi.heap.size, 2, none⟩) (by first | (simp; done) | (simp; omega) | omega)).trans (by simp [go_sem])
            have zf2 : pn.frozen? ⟨pi.heap.size, 2, none⟩ = false := (hbpn.frozen (p := ⟨pi.heap.size, 2, none⟩) (by first | (simp; done) | (simp; omega) | omega)).trans (by simp [go_sem])
            have zc3 : pn.cell? ⟨pi.heap.size, 3, none⟩ = some (.int .i64 0) := (hbpn.cell (p := ⟨pi.heap.size, 3, none⟩) (by first | (simp; done) | (simp; omega) | omega)).trans (by simp [go_sem])
            have zf3 : pn.frozen? ⟨pi.heap.size, 3, none⟩ = false := (hbpn.frozen (p := ⟨pi.heap.size, 3, none⟩) (by first | (simp; done) | (simp; omega) | omega)).trans (by simp [go_sem])
            have zc4 : pn.cell? ⟨pi.heap.size, 4, none⟩ = some (.int .i64 0) := (hbpn.cell (p := ⟨pi.heap.size, 4, none⟩) (by first | (simp; done) | (simp; omega) | omega)).trans (by simp [go_sem])
            have zf4 : pn.frozen? ⟨pi.heap.size, 4, none⟩ = false := (hbpn.frozen (p := ⟨pi.heap.size, 4, none⟩) (by first | (simp; done) | (simp; omega) | omega)).trans (by simp [go_sem])
            have zc5 : pn.cell? ⟨pi.heap.size, 5, none⟩ = some (.slice none 0 0) := (hbpn.cell (p := ⟨pi.heap.size, 5, none⟩) (by first | (simp; done) | (simp; omega) | omega)).trans (by simp [go_sem])
            have zf5 : pn.frozen? ⟨pi.heap.size, 5, none⟩ = false := (hbpn.frozen (p := ⟨pi.heap.size, 5, none⟩) (by first | (simp; done) | (simp; omega) | omega)).trans (by simp [go_sem])
            have zc6 : pn.cell? ⟨pi.heap.size, 6, none⟩ = some (.slice none 0 0) := (hbpn.cell (p := ⟨pi.heap.size, 6, none⟩) (by first | (simp; done) | (simp; omega) | omega)).trans (by simp [go_sem])
            have zf6 : pn.frozen? ⟨pi.heap.size, 6, none⟩ = false := (hbpn.frozen (p := ⟨pi.heap.size, 6, none⟩) (by first | (simp; done) | (simp; omega) | omega)).trans (by simp [go_sem])
            refine hK.out _ _ ?_ (fun hHeld2 => ?_)
            · (try dsimp only); exact hd_10_2 hS0 (by repeat (first | (with_reducible exact Below.refl _ _) | (with_reducible assumption) | (with_reducible refine bel_set ?_ (by first | (simp; done) | (simp; omega)) _) | (with_reducible refine bel_alloc ?_ _) | (with_reducible refine bel_drew ?_) | (with_reducible refine bel_drewN ?_ _) | (with_reducible refine bel_trans ?_ (by with_reducible assumption))))
            clear hK K hHeld
            have hHeld := hHeld2
            clear hHeld2
            try simp only [Act.put, List.setIfInBounds_toArray, List.set_cons_zero, List.set_cons_succ]
            refine wpAnyH_ready (rs := [8]) (by kernel_rfl) (by simp) ?_
            refine AllReadyH.cons (by simp only [List.getElem?_toArray, List.getElem?_cons_zero, List.getElem?_cons_succ]; rfl) (fun K hK => ?_) AllReadyH.nil
            go_simp
            refine hK.out _ _ ?_ (fun hHeld2 => ?_)
            · (try dsimp only); exact hd_10_2 hS0 (by repeat (first | (with_reducible exact Below.refl _ _) | (with_reducible assumption) | (with_reducible refine bel_set ?_ (by first | (simp; done) | (simp; omega)) _) | (with_reducible refine bel_alloc ?_ _) | (with_reducible refine bel_drew ?_) | (with_reducible refine bel_drewN ?_ _) | (with_reducible refine bel_trans ?_ (by with_reducible assumption))))
            clear hK K hHeld
            have hHeld := hHeld2
            clear hHeld2
            try simp only [Act.put, List.setIfInBounds_toArray, List.set_cons_zero, List.set_cons_succ]
            refine wpAnyH_done (by kernel_rfl) ?_ _
            go_wp2
            go_meet
            exact boxEarly ⟨rfl, rfl⟩ hT hW (by first | (simp; done) | (simp; omega) | omega) (by omega) (by omega) (by repeat (first | (with_reducible exact Below.refl _ _) | (with_reducible assumption) | (with_reducible refine bel_set ?_ (by first | (simp; done) | (simp; omega)) _) | (with_reducible refine bel_alloc ?_ _) | (with_reducible refine bel_drew ?_) | (with_reducible refine bel_drewN ?_ _) | (with_reducible refine bel_trans ?_ (by with_reducible assumption)))) zc0 zc1 zc2 zc3 zc4 zc5 zc6
          refine AllReadyH.cons (by simp only [List.getElem?_toArray, List.getElem?_cons_zero, List.getElem?_cons_succ]; rfl) (fun K hK => ?_) AllReadyH.nil
          go_simp
          refine hK.out _ _ ?_ (fun hHeld2 => ?_)
          · (try dsimp only); exact hd_10_2 hS0 (by repeat (first | (with_reducible exact Below.refl _ _) | (with_reducible assumption) | (with_reducible refine bel_set ?_ (by first | (simp; done) | (simp; omega)) _) | (with_reducible refine bel_alloc ?_ _) | (with_reducible refine bel_drew ?_) | (with_reducible refine bel_drewN ?_ _) | (with_reducible refine bel_trans ?_ (by with_reducible assumption))))
          clear hK K hHeld
          have hHeld := hHeld2
          clear hHeld2
          try simp only [Act.put, List.setIfInBounds_toArray, List.set_cons_zero, List.set_cons_succ]
          refine wpAnyH_ready (rs := [5]) (by kernel_rfl) (by simp) ?_
          refine AllReadyH.cons (by simp only [List.getElem?_toArray, List.getElem?_cons_zero, List.getElem?_cons_succ]; rfl) (fun K hK => ?_) AllReadyH.nil
          go_simp
          (go_at_call 11; refine (toIn_any a1 len1 cap1 z1 _ (HI.below (by repeat (first | (with_reducible exact Below.refl _ _) | (with_reducible assumption) | (with_reducible refine bel_set ?_ (by first | (simp; done) | (simp; omega)) _) | (with_reducible refine bel_alloc ?_ _) | (with_reducible refine bel_drew ?_) | (with_reducible refine bel_drewN ?_ _) | (with_reducible refine bel_trans ?_ (by with_reducible assumption))))) hl1).mono ?_; rintro e' pi ⟨ai, rfl, hIi, _, _, hbpi⟩)
          (try go_wp2_with fail)
          have szpi := hbpi.size
          (try simp at szpi)
          have zc0 : pi.cell? ⟨po.heap.size, 0, none⟩ = some (.slice none 0 0) := (hbpi.cell (p := ⟨po.heap.size, 0, none⟩) (by first | (simp; done) | (simp; omega) | omega)).trans (by simp [go_sem])
          have zf0 : pi.frozen? ⟨po.heap.size, 0, none⟩ = false := (hbpi.frozen (p := ⟨po.heap.size, 0, none⟩) (by first | (simp; done) | (simp; omega) | omega)).trans (by simp [go_sem])
          have zc1 : pi.cell? ⟨po.heap.size, 1, none⟩ = some (.int .i64 0) := (hbpi.cell (p := ⟨po.heap.size, 1, none⟩) (by first | (simp; done) | (simp; omega) | omega)).trans (by simp [go_sem])
          have zf1 : pi.frozen? ⟨po.heap.size, 1, none⟩ = false := (hbpi.frozen (p := ⟨po.heap.size, 1, none⟩) (by first | (simp; done) | (simp; omega) | omega)).trans (by simp [go_sem])
          have zc2 : pi.cell? ⟨po.heap.size, 2, none⟩ = some (.slice none 0 0) := (hbpi.cell (p := ⟨po.heap.size, 2, none⟩) (by first | (simp; done) | (simp; omega) | omega)).trans (by simp [go_sem])
          have zf2 : pi.frozen? ⟨po.heap.size, 2, none⟩ = false := (hbpi.frozen (p := ⟨po.heap.size, 2, none⟩) (by first | (simp; done) | (simp; omega) | omega)).trans (by simp [go_sem])
          have zc3 : pi.cell? ⟨po.heap.size, 3, none⟩ = some (.int .i64 0) := (hbpi.cell (p := ⟨po.heap.size, 3, none⟩) (by first | (simp; done) | (simp; omega) | omega)).trans (by simp [go_sem])
          have zf3 : pi.frozen? ⟨po.heap.size, 3, none⟩ = false := (hbpi.frozen (p := ⟨po.heap.size, 3, none⟩) (by first | (simp; done) | (simp; omega) | omega)).trans (by simp [go_sem])
          have zc4 : pi.cell? ⟨po.heap.size, 4, none⟩ = some (.int .i64 0) := (hbpi.cell (p := ⟨po.heap.size, 4, none⟩) (by first | (simp; done) | (simp; omega) | omega)).trans (by simp [go_sem])
          have zf4 : pi.frozen? ⟨po.heap.size, 4, none⟩ = false := (hbpi.frozen (p := ⟨po.heap.size, 4, none⟩) (by first | (simp; done) | (simp; omega) | omega)).trans (by simp [go_sem])
          have zc5 : pi.cell? ⟨po.heap.size, 5, none⟩ = some (.slice none 0 0) := (hbpi.cell (p := ⟨po.heap.size, 5, none⟩) (by first | (simp; done) | (simp; omega) | omega)).trans (by simp [go_sem])
          have zf5 : pi.frozen? ⟨po.heap.size, 5, none⟩ = false := (hbpi.frozen (p := ⟨po.heap.size, 5, none⟩) (by first | (simp; done) | (simp; omega) | omega)).trans (by simp [go_sem])
          have zc6 : pi.cell? ⟨po.heap.size, 6, none⟩ = some (.slice none 0 0) := (hbpi.cell (p := ⟨po.heap.size, 6, none⟩) (by first | (simp; done) | (simp; omega) | omega)).trans (by simp [go_sem])
          have zf6 : pi.frozen? ⟨po.heap.size, 6, none⟩ = false := (hbpi.frozen (p := ⟨po.heap.size, 6, none⟩) (by first | (simp; done) | (simp; omega) | omega)).trans (by simp [go_sem])
          refine hK.out _ _ ?_ (fun hHeld2 => ?_)
          · (try dsimp only); exact hd_10_2 hS0 (by repeat (first | (with_reducible exact Below.refl _ _) | (with_reducible assumption) | (with_reducible refine bel_set ?_ (by first | (simp; done) | (simp; omega)) _) | (with_reducible refine bel_alloc ?_ _) | (with_reducible refine bel_drew ?_) | (with_reducible refine bel_drewN ?_ _) | (with_reducible refine bel_trans ?_ (by with_reducible assumption))))
          clear hK K hHeld
          have hHeld := hHeld2
          clear hHeld2
          try simp only [Act.put, List.setIfInBounds_toArray, List.set_cons_zero, List.set_cons_succ]
          refine wpAnyH_ready (rs := [6]) (by kernel_rfl) (by simp) ?_
          refine AllReadyH.cons (by simp only [List.getElem?_toArray, List.getElem?_cons_zero, List.getElem?_cons_succ]; rfl) (fun K hK => ?_) AllReadyH.nil
          go_simp
          (go_at_call 8; refine (specnew_eq s t k z p l e b v r m go len0 len0 ai len1 len1 z0 z1 _ (hGo.below (by repeat (first | (with_reducible exact Below.refl _ _) | (with_reducible assumption) | (with_reducible refine bel_set ?_ (by first | (simp; done) | (simp; omega)) _) | (with_reducible refine bel_alloc ?_ _) | (with_reducible refine bel_drew ?_) | (with_reducible refine bel_drewN ?_ _) | (with_reducible refine bel_trans ?_ (by with_reducible assumption))))) (hIi.below (by repeat (first | (with_reducible exact Below.refl _ _) | (with_reducible assumption) | (with_reducible refine bel_set ?_ (by first | (simp; done) | (simp; omega)) _) | (with_reducible refine bel_alloc ?_ _) | (with_reducible refine bel_drew ?_) | (with_reducible refine bel_drewN ?_ _) | (with_reducible refine bel_trans ?_ (by with_reducible assumption))))) hl0 hl1 hN).mono ?_; rintro e' pn ⟨ia, il, ic, oa, ol, oc, ⟨rfl, rfl⟩, rfl, hT, hW, hbpn⟩)
          (try go_wp2_with fail)
          have szpn := hbpn.size
          (try simp at szpn)
          have zc0 : pn.cell? ⟨po.heap.size, 0, none⟩ = some (.slice none 0 0) := (hbpn.cell (p := ⟨po.heap.size, 0, none⟩) (by first | (simp; done) | (simp; omega) | omega)).trans zc0
          have zf0 : pn.frozen? ⟨po.heap.size, 0, none⟩ = false := (hbpn.frozen (p := ⟨po.heap.size, 0, none⟩) (by first | (simp; done) | (simp; omega) | omega)).trans zf0
          have zc1 : pn.cell? ⟨po.heap.size, 1, none⟩ = some (.int .i64 0) := (hbpn.cell (p := ⟨po.heap.size, 1, none⟩) (by first | (simp; done) | (simp; omega) | omega)).trans zc1
          have zf1 : pn.frozen? ⟨po.heap.size, 1, none⟩ = false := (hbpn.frozen (p := ⟨po.heap.size, 1, none⟩) (by first | (simp; done) | (simp; omega) | omega)).trans zf1
          have zc2 : pn.cell? ⟨po.heap.size, 2, none⟩ = some (.slice none 0 0) := (hbpn.cell (p := ⟨po.heap.size, 2, none⟩) (by first | (simp; done) | (simp; omega) | omega)).trans zc2
          have zf2 : pn.frozen? ⟨po.heap.size, 2, none⟩ = false := (hbpn.frozen (p := ⟨po.heap.size, 2, none⟩) (by first | (simp; done) | (simp; omega) | omega)).trans zf2
          have zc3 : pn.cell? ⟨po.heap.size, 3, none⟩ = some (.int .i64 0) := (hbpn.cell (p := ⟨po.heap.size, 3, none⟩) (by first | (simp; done) | (simp; omega) | omega)).trans zc3
          have zf3 : pn.frozen? ⟨po.heap.size, 3, none⟩ = false := (hbpn.frozen (p := ⟨po.heap.size, 3, none⟩) (by first | (simp; done) | (simp; omega) | omega)).trans zf3
          have zc4 : pn.cell? ⟨po.heap.size, 4, none⟩ = some (.int .i64 0) := (hbpn.cell (p := ⟨po.heap.size, 4, none⟩) (by first | (simp; done) | (simp; omega) | omega)).trans zc4
          have zf4 : pn.frozen? ⟨po.heap.size, 4, none⟩ = false := (hbpn.frozen (p := ⟨po.heap.size, 4, none⟩) (by first | (simp; done) | (simp; omega) | omega)).trans zf4
          have zc5 : pn.cell? ⟨po.heap.size, 5, none⟩ = some (.slice none 0 0) := (hbpn.cell (p := ⟨po.heap.size, 5, none⟩) (by first | (simp; done) | (simp; omega) | omega)).trans zc5
          have zf5 : pn.frozen? ⟨po.heap.size, 5, none⟩ = false := (hbpn.frozen (p := ⟨po.heap.size, 5, none⟩) (by first | (simp; done) | (simp; omega) | omega)).trans zf5
          have zc6 : pn.cell? ⟨po.heap.size, 6, none⟩ = some (.slice none 0 0) := (hbpn.cell (p := ⟨po.heap.size, 6, none⟩) (by first | (simp; done) | (simp; omega) | omega)).trans zc6
          have zf6 : pn.frozen? ⟨po.heap.size, 6, none⟩ = false := (hbpn.frozen (p := ⟨po.heap.size, 6, none⟩) (by first | (simp; done) | (simp; omega) | omega)).trans zf6
          refine hK.out _ _ ?_ (fun hHeld2 => ?_)
          · (try dsimp only); exact hd_10_2 hS0 (by repeat (first | (with_reducible exact Below.refl _ _) | (with_reducible assumption) | (with_reducible refine bel_set ?_ (by first | (simp; done) | (simp; omega)) _) | (with_reducible refine bel_alloc ?_ _) | (with_reducible refine bel_drew ?_) | (with_reducible refine bel_drewN ?_ _) | (with_reducible refine bel_trans ?_ (by with_reducible assumption))))
          clear hK K hHeld
          have hHeld := hHeld2
          clear hHeld2
          try simp only [Act.put, List.setIfInBounds_toArray, List.set_cons_zero, List.set_cons_succ]
          refine wpAnyH_ready (rs := [8]) (by kernel_rfl) (by simp) ?_
          refine AllReadyH.cons (by simp only [List.getElem?_toArray, List.getElem?_cons_zero, List.getElem?_cons_succ]; rfl) (fun K hK => ?_) AllReadyH.nil
          go_simp
          refine hK.out _ _ ?_ (fun hHeld2 => ?_)
          · (try dsimp only); exact hd_10_2 hS0 (by repeat (first | (with_reducible exact Below.refl _ _) | (with_reducible assumption) | (with_reducible refine bel_set ?_ (by first | (simp; done) | (simp; omega)) _) | (with_reducible refine bel_alloc ?_ _) | (with_reducible refine bel_drew ?_) | (with_reducible refine bel_drewN ?_ _) | (with_reducible refine bel_trans ?_ (by with_reducible assumption))))
          clear hK K hHeld
          have hHeld := hHeld2
          clear hHeld2
          try simp only [Act.put, List.setIfInBounds_toArray, List.set_cons_zero, List.set_cons_succ]
          refine wpAnyH_done (by kernel_rfl) ?_ _
          go_wp2
          go_meet
          exact boxEarly ⟨rfl, rfl⟩ hT hW (by first | (simp; done) | (simp; omega) | omega) (by omega) (by omega) (by repeat (first | (with_reducible exact Below.refl _ _) | (with_reducible assumption) | (with_reducible refine bel_set ?_ (by first | (simp; done) | (simp; omega)) _) | (with_reducible refine bel_alloc ?_ _) | (with_reducible refine bel_drew ?_) | (with_reducible refine bel_drewN ?_ _) | (with_reducible refine bel_trans ?_ (by with_reducible assumption)))) zc0 zc1 zc2 zc3 zc4 zc5 zc6
        refine AllReadyH.cons (by simp only [List.getElem?_toArray, List.getElem?_cons_zero, List.getElem?_cons_succ]; rfl) (fun K hK => ?_) AllReadyH.nil
        go_simp
        refine hK.out _ _ ?_ (fun hHeld2 => ?_)
        · (try dsimp only); exact hd_10_2 hS0 (by repeat (first | (with_reducible exact Below.refl _ _) | (with_reducible assumption) | (with_reducible refine bel_set ?_ (by first | (simp; done) | (simp; omega)) _) | (with_reducible refine bel_alloc ?_ _) | (with_reducible refine bel_drew ?_) | (with_reducible refine bel_drewN ?_ _) | (with_reducible refine bel_trans ?_ (by with_reducible assumption))))
        clear hK K hHeld
        have hHeld := hHeld2
        clear hHeld2
        try simp only [Act.put, List.setIfInBounds_toArray, List.set_cons_zero, List.set_cons_succ]
        refine wpAnyH_ready (rs := [3]) (by kernel_rfl) (by simp) ?_
        refine AllReadyH.cons (by simp only [List.getElem?_toArray, List.getElem?_cons_zero, List.getElem?_cons_succ]; rfl) (fun K hK => ?_) AllReadyH.nil
        go_simp
        (go_at_call 10; refine (toStG_any m a0 len0 cap0 z0 _ (HO.below (by repeat (first | (with_reducible exact Below.refl _ _) | (with_reducible assumption) | (with_reducible refine bel_set ?_ (by first | (simp; done) | (simp; omega)) _) | (with_reducible refine bel_alloc ?_ _) | (with_reducible refine bel_drew ?_) | (with_reducible refine bel_drewN ?_ _) | (with_reducible refine bel_trans ?_ (by with_reducible assumption))))) hl0).mono ?_; rintro e' po ⟨go, rfl, hGo, hgo, hbpo⟩)
        (try go_wp2_with fail)
        have szpo := hbpo.size
        (try simp at szpo)
        have zc0 : po.cell? ⟨pj.heap.size, 0, none⟩ = some (.slice none 0 0) := (hbpo.cell (p := ⟨pj.heap.size, 0, none⟩) (by first | (simp; done) | (simp; omega) | omega)).trans (by simp [go_sem])
        have zf0 : po.frozen? ⟨pj.heap.size, 0, none⟩ = false := (hbpo.frozen (p := ⟨pj.heap.size, 0, none⟩) (by first | (simp; done) | (simp; omega) | omega)).trans (by simp [go_sem])
        have zc1 : po.cell? ⟨pj.heap.size, 1, none⟩ = some (.int .i64 0) := (hbpo.cell (p := ⟨pj.heap.size, 1, none⟩) (by first | (simp; done) | (simp; omega) | omega)).trans (by simp [go_sem])
        have zf1 : po.frozen? ⟨pj.heap.size, 1, none⟩ = false := (hbpo.frozen (p := ⟨pj.heap.size, 1, none⟩) (by first | (simp; done) | (simp; omega) | omega)).trans (by simp [go_sem])
        have zc2 : po.cell? ⟨pj.heap.size, 2, none⟩ = some (.slice none 0 0) := (hbpo.cell (p := ⟨pj.heap.size, 2, none⟩) (by first | (simp; done) | (simp; omega) | omega)).trans (by simp [go_sem])
        have zf2 : po.frozen? ⟨pj.heap.size, 2, none⟩ = false := (hbpo.frozen (p := ⟨pj.heap.size, 2, none⟩) (by first | (simp; done) | (simp; omega) | omega)).trans (by simp [go_sem])
        have zc3 : po.cell? ⟨pj.heap.size, 3, none⟩ = some (.int .i64 0) := (hbpo.cell (p := ⟨pj.heap.size, 3, none⟩) (by first | (simp; done) | (simp; omega) | omega)).trans (by simp [go_sem])
        have zf3 : po.frozen? ⟨pj.heap.size, 3, none⟩ = false := (hbpo.frozen (p := ⟨pj.heap.size, 3, none⟩) (by first | (simp; done) | (simp; omega) | omega)).trans (by simp [go_sem])
        have zc4 : po.cell? ⟨pj.heap.size, 4, none⟩ = some (.int .i64 0) := (hbpo.cell (p := ⟨pj.heap.size, 4, none⟩) (by first | (simp; done) | (simp; omega) | omega)).trans (by simp [go_sem])
        have zf4 : po.frozen? ⟨pj.heap.size, 4, none⟩ = false := (hbpo.frozen (p := ⟨pj.heap.size, 4, none⟩) (by first | (simp; done) | (simp; omega) | omega)).trans (by simp [go_sem])
        have zc5 : po.cell? ⟨pj.heap.size, 5, none⟩ = some (.slice none 0 0) := (hbpo.cell (p := ⟨pj.heap.size, 5, none⟩) (by first | (simp; done) | (simp; omega) | omega)).trans (by simp [go_sem])
        have zf5 : po.frozen? ⟨pj.heap.size, 5, none⟩ = false := (hbpo.frozen (p := ⟨pj.heap.size, 5, none⟩) (by first | (simp; done) | (simp; omega) | omega)).trans (by simp [go_sem])
        have zc6 : po.cell? ⟨pj.heap.size, 6, none⟩ = some (.slice none 0 0) := (hbpo.cell (p := ⟨pj.heap.size, 6, none⟩) (by first | (simp; done) | (simp; omega) | omega)).trans (by simp [go_sem])
        have zf6 : po.frozen? ⟨pj.heap.size, 6, none⟩ = false := (hbpo.frozen (p := ⟨pj.heap.size, 6, none⟩) (by first | (simp; done) | (simp; omega) | omega)).trans (by simp [go_sem])
        refine hK.out _ _ ?_ (fun hHeld2 => ?_)
        · (try dsimp only); exact hd_10_2 hS0 (by repeat (first | (with_reducible exact Below.refl _ _) | (with_reducible assumption) | (with_reducible refine bel_set ?_ (by first | (simp; done) | (simp; omega)) _) | (with_reducible refine bel_alloc ?_ _) | (with_reducible refine bel_drew ?_) | (with_reducible refine bel_drewN ?_ _) | (with_reducible refine bel_trans ?_ (by with_reducible assumption))))
        clear hK K hHeld
        have hHeld := hHeld2
        clear hHeld2
        try simp only [Act.put, List.setIfInBounds_toArray, List.set_cons_zero, List.set_cons_succ]
        refine wpAnyH_ready (rs := [5]) (by kernel_rfl) (by simp) ?_
        refine AllReadyH.cons (by simp only [List.getElem?_toArray, List.getElem?_cons_zero, List.getElem?_cons_succ]; rfl) (fun K hK => ?_) AllReadyH.nil
        go_simp
        (go_at_call 11; refine (toIn_any a1 len1 cap1 z1 _ (HI.below (by repeat (first | (with_reducible exact Below.refl _ _) | (with_reducible assumption) | (with_reducible refine bel_set ?_ (by first | (simp; done) | (simp; omega)) _) | (with_reducible refine bel_alloc ?_ _) | (with_reducible refine bel_drew ?_) | (with_reducible refine bel_drewN ?_ _) | (with_reducible refine bel_trans ?_ (by with_reducible assumption))))) hl1).mono ?_; rintro e' pi ⟨ai, rfl, hIi, _, _, hbpi⟩)
        (try go_wp2_with fail)
        have szpi := hbpi.size
        (try simp at szpi)
        have zc0 : pi.cell? ⟨pj.heap.size, 0, none⟩ = some (.slice none 0 0) := (hbpi.cell (p := ⟨pj.heap.size, 0, none⟩) (by first | (simp; done) | (simp; omega) | omega)).trans zc0
        have zf0 : pi.frozen? ⟨pj.heap.size, 0, none⟩ = false := (hbpi.frozen (p := ⟨pj.heap.size, 0, none⟩) (by first | (simp; done) | (simp; omega) | omega)).trans zf0
        have zc1 : pi.cell? ⟨pj.heap.size, 1, none⟩ = some (.int .i64 0) := (hbpi.cell (p := ⟨pj.heap.size, 1, none⟩) (by first | (simp; done) | (simp; omega) | omega)).trans zc1
        have zf1 : pi.frozen? ⟨pj.heap.size, 1, none⟩ = false := (hbpi.frozen (p := ⟨pj.heap.size, 1, none⟩) (by first | (simp; done) | (simp; omega) | omega)).trans zf1
        have zc2 : pi.cell? ⟨pj.heap.size, 2, none⟩ = some (.slice none 0 0) := (hbpi.cell (p := ⟨pj.heap.size, 2, none⟩) (by first | (simp; done) | (simp; omega) | omega)).trans zc2
        have zf2 : pi.frozen? ⟨pj.heap.size, 2, none⟩ = false := (hbpi.frozen (p := ⟨pj.heap.size, 2, none⟩) (by first | (simp; done) | (simp; omega) | omega)).trans zf2
        have zc3 : pi.cell? ⟨pj.heap.size, 3, none⟩ = some (.int .i64 0) := (hbpi.cell (p := ⟨pj.heap.size, 3, none⟩) (by first | (simp; done) | (simp; omega) | omega)).trans zc3
        have zf3 : pi.frozen? ⟨pj.heap.size, 3, none⟩ = false := (hbpi.frozen (p := ⟨pj.heap.size, 3, none⟩) (by first | (simp; done) | (simp; omega) | omega)).trans zf3
        have zc4 : pi.cell? ⟨pj.heap.size, 4, none⟩ = some (.int .i64 0) := (hbpi.cell (p := ⟨pj.heap.size, 4, none⟩) (by first | (simp; done) | (simp; omega) | omega)).trans zc4
        have zf4 : pi.frozen? ⟨pj.heap.size, 4, none⟩ = false := (hbpi.frozen (p := ⟨pj.heap.size, 4, none⟩) (by first | (simp; done) | (simp; omega) | omega)).trans zf4
        have zc5 : pi.cell? ⟨pj.heap.size, 5, none⟩ = some (.slice none 0 0) := (hbpi.cell (p := ⟨pj.heap.size, 5, none⟩) (by first | (simp; done) | (simp; omega) | omega)).trans zc5
        have zf5 : pi.frozen? ⟨pj.heap.size, 5, none⟩ = false := (hbpi.frozen (p := ⟨pj.heap.size, 5, none⟩) (by first | (simp; done) | (simp; omega) | omega)).trans zf5
        have zc6 : pi.cell? ⟨pj.heap.size, 6, none⟩ = some (.slice none 0 0) := (hbpi.cell (p := ⟨pj.heap.size, 6, none⟩) (by first | (simp; done) | (simp; omega) | omega)).trans zc6
        have zf6 : pi.frozen? ⟨pj.heap.size, 6, none⟩ = false := (hbpi.frozen (p := ⟨pj.heap.size, 6, none⟩) (by first | (simp; done) | (simp; omega) | omega)).trans zf6
        refine hK.out _ _ ?_ (fun hHeld2 => ?_)
        · (try dsimp only); exact hd_10_2 hS0 (by repeat (first | (with_reducible exact Below.refl _ _) | (with_reducible assumption) | (with_reducible refine bel_set ?_ (by first | (simp; done) | (simp; omega)) _) | (with_reducible refine bel_alloc ?_ _) | (with_reducible refine bel_drew ?_) | (with_reducible refine bel_drewN ?_ _) | (with_reducible refine bel_trans ?_ (by with_reducible assumption))))
        clear hK K hHeld
        have hHeld := hHeld2
        clear hHeld2
        try simp only [Act.put, List.setIfInBounds_toArray, List.set_cons_zero, List.set_cons_succ]
        refine wpAnyH_ready (rs := [6]) (by kernel_rfl) (by simp) ?_
        refine AllReadyH.cons (by simp only [List.getElem?_toArray, List.getElem?_cons_zero, List.getElem?_cons_succ]; rfl) (fun K hK => ?_) AllReadyH.nil
        go_simp
        (go_at_call 8; refine (specnew_eq s t k z p l e b v r m go len0 len0 ai len1 len1 z0 z1 _ (hGo.below (by repeat (first | (with_reducible exact Below.refl _ _) | (with_reducible assumption) | (with_reducible refine bel_set ?_ (by first | (simp; done) | (simp; omega)) _) | (with_reducible refine bel_alloc ?_ _) | (with_reducible refine bel_drew ?_) | (with_reducible refine bel_drewN ?_ _) | (with_reducible refine bel_trans ?_ (by with_reducible assumption))))) (hIi.below (by repeat (first | (with_reducible exact Below.refl _ _) | (with_reducible assumption) | (with_reducible refine bel_set ?_ (by first | (simp; done) | (simp; omega)) _) | (with_reducible refine bel_alloc ?_ _) | (with_reducible refine bel_drew ?_) | (with_reducible refine bel_drewN ?_ _) | (with_reducible refine bel_trans ?_ (by with_reducible assumption))))) hl0 hl1 hN).mono ?_; rintro e' pn ⟨ia, il, ic, oa, ol, oc, ⟨rfl, rfl⟩, rfl, hT, hW, hbpn⟩)
        (try go_wp2_with fail)
        have szpn := hbpn.size
        (try simp at szpn)
        have zc0 : pn.cell? ⟨pj.heap.size, 0, none⟩ = some (.slice none 0 0) := (hbpn.cell (p := ⟨pj.heap.size, 0, none⟩) (by first | (simp; done) | (simp; omega) | omega)).trans zc0
        have zf0 : pn.frozen? ⟨pj.heap.size, 0, none⟩ = false := (hbpn.frozen (p := ⟨pj.heap.size, 0, none⟩) (by first | (simp; done) | (simp; omega) | omega)).trans zf0
        have zc1 : pn.cell? ⟨pj.heap.size, 1, none⟩ = some (.int .i64 0) := (hbpn.cell (p := ⟨pj.heap.size, 1, none⟩) (by first | (simp; done) | (simp; omega) | omega)).trans zc1
        have zf1 : pn.frozen? ⟨pj.heap.size, 1, none⟩ = false := (hbpn.frozen (p := ⟨pj.heap.size, 1, none⟩) (by first | (simp; done) | (simp; omega) | omega)).trans zf1
        have zc2 : pn.cell? ⟨pj.heap.size, 2, none⟩ = some (.slice none 0 0) := (hbpn.cell (p := ⟨pj.heap.size, 2, none⟩) (by first | (simp; done) | (simp; omega) | omega)).trans zc2
        have zf2 : pn.frozen? ⟨pj.heap.size, 2, none⟩ = false := (hbpn.frozen (p := ⟨pj.heap.size, 2, none⟩) (by first | (simp; done) | (simp; omega) | omega)).trans zf2
        have zc3 : pn.cell? ⟨pj.heap.size, 3, none⟩ = some (.int .i64 0) := (hbpn.cell (p := ⟨pj.heap.size, 3, none⟩) (by first | (simp; done) | (simp; omega) | omega)).trans zc3
        have zf3 : pn.frozen? ⟨pj.heap.size, 3, none⟩ = false := (hbpn.frozen (p := ⟨pj.heap.size, 3, none⟩) (by first | (simp; done) | (simp; omega) | omega)).trans zf3
        have zc4 : pn.cell? ⟨pj.heap.size, 4, none⟩ = some (.int .i64 0) := (hbpn.cell (p := ⟨pj.heap.size, 4, none⟩) (by first | (simp; done) | (simp; omega) | omega)).trans zc4
        have zf4 : pn.frozen? ⟨pj.heap.size, 4, none⟩ = false := (hbpn.frozen (p := ⟨pj.heap.size, 4, none⟩) (by first | (simp; done) | (simp; omega) | omega)).trans zf4
        have zc5 : pn.cell? ⟨pj.heap.size, 5, none⟩ = some (.slice none 0 0) := (hbpn.cell (p := ⟨pj.heap.size, 5, none⟩) (by first | (simp; done) | (simp; omega) | omega)).trans zc5
        have zf5 : pn.frozen? ⟨pj.heap.size, 5, none⟩ = false := (hbpn.frozen (p := ⟨pj.heap.size, 5, none⟩) (by first | (simp; done) | (simp; omega) | omega)).trans zf5
        have zc6 : pn.cell? ⟨pj.heap.size, 6, none⟩ = some (.slice none 0 0) := (hbpn.cell (p := ⟨pj.heap.size, 6, none⟩) (by first | (simp; done) | (simp; omega) | omega)).trans zc6
        have zf6 : pn.frozen? ⟨pj.heap.size, 6, none⟩ = false := (hbpn.frozen (p := ⟨pj.heap.size, 6, none⟩) (by first | (simp; done) | (simp; omega) | omega)).trans zf6
        refine hK.out _ _ ?_ (fun hHeld2 => ?_)
        · (try dsimp only); exact hd_10_2 hS0 (by repeat (first | (with_reducible exact Below.refl _ _) | (with_reducible assumption) | (with_reducible refine bel_set ?_ (by first | (simp; done) | (simp; omega)) _) | (with_reducible refine bel_alloc ?_ _) | (with_reducible refine bel_drew ?_) | (with_reducible refine bel_drewN ?_ _) | (with_reducible refine bel_trans ?_ (by with_reducible assumption))))
        clear hK K hHeld
        have hHeld := hHeld2
        clear hHeld2
        try simp only [Act.put, List.setIfInBounds_toArray, List.set_cons_zero, List.set_cons_succ]
        refine wpAnyH_ready (rs := [8]) (by kernel_rfl) (by simp) ?_
        refine AllReadyH.cons (by simp only [List.getElem?_toArray, List.getElem?_cons_zero, List.getElem?_cons_succ]; rfl) (fun K hK => ?_) AllReadyH.nil
        go_simp
        refine hK.out _ _ ?_ (fun hHeld2 => ?_)
        · (try dsimp only); exact hd_10_2 hS0 (by repeat (first | (with_reducible exact Below.refl _ _) | (with_reducible assumption) | (with_reducible refine bel_set ?_ (by first | (simp; done) | (simp; omega)) _) | (with_reducible refine bel_alloc ?_ _) | (with_reducible refine bel_drew ?_) | (with_reducible refine bel_drewN ?_ _) | (with_reducible refine bel_trans ?_ (by with_reducible assumption))))
        clear hK K hHeld
        have hHeld := hHeld2
        clear hHeld2
        try simp only [Act.put, List.setIfInBounds_toArray, List.set_cons_zero, List.set_cons_succ]
        refine wpAnyH_done (by kernel_rfl) ?_ _
        go_wp2
        go_meet
        exact boxEarly ⟨rfl, rfl⟩ hT hW (by first | (simp; done) | (simp; omega) | omega) (by omega) (by omega) (by repeat (first | (with_reducible exact Below.refl _ _) | (with_reducible assumption) | (with_reducible refine bel_set ?_ (by first | (simp; done) | (simp; omega)) _) | (with_reducible refine bel_alloc ?_ _) | (with_reducible refine bel_drew ?_) | (with_reducible refine bel_drewN ?_ _) | (with_reducible refine bel_trans ?_ (by with_reducible assumption)))) zc0 zc1 zc2 zc3 zc4 zc5 zc6
      refine AllReadyH.cons (by simp only [List.getElem?_toArray, List.getElem?_cons_zero, List.getElem?_cons_succ]; rfl) (fun K hK => ?_) AllReadyH.nil
      go_simp
      refine hK.out _ _ ?_ (fun hHeld2 => ?_)
      · (try dsimp only); exact hd_10_2 hS0 (by repeat (first | (with_reducible exact Below.refl _ _) | (with_reducible assumption) | (with_reducible refine bel_set ?_ (by first | (simp; done) | (simp; omega)) _) | (with_reducible refine bel_alloc ?_ _) | (with_reducible refine bel_drew ?_) | (with_reducible refine bel_drewN ?_ _) | (with_reducible refine bel_trans ?_ (by with_reducible assumption))))
      clear hK K hHeld
      have hHeld := hHeld2
      clear hHeld2
      try simp only [Act.put, List.setIfInBounds_toArray, List.set_cons_zero, List.set_cons_succ]
      refine wpAnyH_ready (rs := [1]) (by kernel_rfl) (by simp) ?_
      refine AllReadyH.cons (by simp only [List.getElem?_toArray, List.getElem?_cons_zero, List.getElem?_cons_succ]; rfl) (fun K hK => ?_) AllReadyH.nil
      go_simp
      (go_at_call 9; refine (toJob_any _ _ _ _ _ _ _ _ _ _ _).mono ?_; rintro e' pj ⟨rfl, hbpj⟩)
      (try go_wp2_with fail)
      have szpj := hbpj.size
      (try simp at szpj)
      have zc0 : pj.cell? ⟨w1.heap.size, 0, none⟩ = some (.slice none 0 0) := (hbpj.cell (p := ⟨w1.heap.size, 0, none⟩) (by first | (simp; done) | (simp; omega) | omega)).trans (by simp [go_sem])
      have zf0 : pj.frozen? ⟨w1.heap.size, 0, none⟩ = false := (hbpj.frozen (p := ⟨w1.heap.size, 0, none⟩) (by first | (simp; done) | (simp; omega) | omega)).trans (by simp [go_sem])
      have zc1 : pj.cell? ⟨w1.heap.size, 1, none⟩ = some (.int .i64 0) := (hbpj.cell (p := ⟨w1.heap.size, 1, none⟩) (by first | (simp; done) | (simp; omega) | omega)).trans (by simp [go_sem])
      have zf1 : pj.frozen? ⟨w1.heap.size, 1, none⟩ = false := (hbpj.frozen (p := ⟨w1.heap.size, 1, none⟩) (by first | (simp; done) | (simp; omega) | omega)).trans (by simp [go_sem])
      have zc2 : pj.cell? ⟨w1.heap.size, 2, none⟩ = some (.slice none 0 0) := (hbpj.cell (p := ⟨w1.heap.size, 2, none⟩) (by first | (simp; done) | (simp; omega) | omega)).trans (by simp [go_sem])
      have zf2 : pj.frozen? ⟨w1.heap.size, 2, none⟩ = false := (hbpj.frozen (p := ⟨w1.heap.size, 2, none⟩) (by first | (simp; done) | (simp; omega) | omega)).trans (by simp [go_sem])
      have zc3 : pj.cell? ⟨w1.heap.size, 3, none⟩ = some (.int .i64 0) := (hbpj.cell (p := ⟨w1.heap.size, 3, none⟩) (by first | (simp; done) | (simp; omega) | omega)).trans (by simp [go_sem])
      have zf3 : pj.frozen? ⟨w1.heap.size, 3, none⟩ = false := (hbpj.frozen (p := ⟨w1.heap.size, 3, none⟩) (by first | (simp; done) | (simp; omega) | omega)).trans (by simp [go_sem])
      have zc4 : pj.cell? ⟨w1.heap.size, 4, none⟩ = some (.int .i64 0) := (hbpj.cell (p := ⟨w1.heap.size, 4, none⟩) (by first | (simp; done) | (simp; omega) | omega)).trans (by simp [go_sem])
      have zf4 : pj.frozen? ⟨w1.heap.size, 4, none⟩ = false := (hbpj.frozen (p := ⟨w1.heap.size, 4, none⟩) (by first | (simp; done) | (simp; omega) | omega)).trans (by simp [go_sem])
      have zc5 : pj.cell? ⟨w1.heap.size, 5, none⟩ = some (.slice none 0 0) := (hbpj.cell (p := ⟨w1.heap.size, 5, none⟩) (by first | (simp; done) | (simp; omega) | omega)).trans (by simp [go_sem])
      have zf5 : pj.frozen? ⟨w1.heap.size, 5, none⟩ = false := (hbpj.frozen (p := ⟨w1.heap.size, 5, none⟩) (by first | (simp; done) | (simp; omega) | omega)).trans (by simp [go_sem])
      have zc6 : pj.cell? ⟨w1.heap.size, 6, none⟩ = some (.slice none 0 0) := (hbpj.cell (p := ⟨w1.heap.size, 6, none⟩) (by first | (simp; done) | (simp; omega) | omega)).trans (by simp [go_sem])
      have zf6 : pj.frozen? ⟨w1.heap.size, 6, none⟩ = false := (hbpj.frozen (p := ⟨w1.heap.size, 6, none⟩) (by first | (simp; done) | (simp; omega) | omega)).trans (by simp [go_sem])
      refine hK.out _ _ ?_ (fun hHeld2 => ?_)
      · (try dsimp only); exact hd_10_2 hS0 (by repeat (first | (with_reducible exact Below.refl _ _) | (with_reducible assumption) | (with_reducible refine bel_set ?_ (by first | (simp; done) | (simp; omega)) _) | (with_reducible refine bel_alloc ?_ _) | (with_reducible refine bel_drew ?_) | (with_reducible refine bel_drewN ?_ _) | (with_reducible refine bel_trans ?_ (by with_reducible assumption))))
      clear hK K hHeld
      have hHeld := hHeld2
      clear hHeld2
      try simp only [Act.put, List.setIfInBounds_toArray, List.set_cons_zero, List.set_cons_succ]
      refine wpAnyH_ready (rs := [3]) (by kernel_rfl) (by simp) ?_
      refine AllReadyH.cons (by simp only [List.getElem?_toArray, List.getElem?_cons_zero, List.getElem?_cons_succ]; rfl) (fun K hK => ?_) AllReadyH.nil
      go_simp
      (go_at_call 10; refine (toStG_any m a0 len0 cap0 z0 _ (HO.below (by repeat (first | (with_reducible exact Below.refl _ _) | (with_reducible assumption) | (with_reducible refine bel_set ?_ (by first | (simp; done) | (simp; omega)) _) | (with_reducible refine bel_alloc ?_ _) | (with_reducible refine bel_drew ?_) | (with_reducible refine bel_drewN ?_ _) | (with_reducible refine bel_trans ?_ (by with_reducible assumption))))) hl0).mono ?_; rintro e' po ⟨go, rfl, hGo, hgo, hbpo⟩)
      (try go_wp2_with fail)
      have szpo := hbpo.size
      (try simp at szpo)
      have zc0 : po.cell? ⟨w1.heap.size, 0, none⟩ = some (.slice none 0 0) := (hbpo.cell (p := ⟨w1.heap.size, 0, none⟩) (by first | (simp; done) | (simp; omega) | omega)).trans zc0
      have zf0 : po.frozen? ⟨w1.heap.size, 0, none⟩ = false := (hbpo.frozen (p := ⟨w1.heap.size, 0, none⟩) (by first | (simp; done) | (simp; omega) | omega)).trans zf0
      have zc1 : po.cell? ⟨w1.heap.size, 1, none⟩ = some (.int .i64 0) := (hbpo.cell (p := ⟨w1.heap.size, 1, none⟩) (by first | (simp; done) | (simp; omega) | omega)).trans zc1
      have zf1 : po.frozen? ⟨w1.heap.size, 1, none⟩ = false := (hbpo.frozen (p := ⟨w1.heap.size, 1, none⟩) (by first | (simp; done) | (simp; omega) | omega)).trans zf1
      have zc2 : po.cell? ⟨w1.heap.size, 2, none⟩ = some (.slice none 0 0) := (hbpo.cell (p := ⟨w1.heap.size, 2, none⟩) (by first | (simp; done) | (simp; omega) | omega)).trans zc2
      have zf2 : po.frozen? ⟨w1.heap.size, 2, none⟩ = false := (hbpo.frozen (p := ⟨w1.heap.size, 2, none⟩) (by first | (simp; done) | (simp; omega) | omega)).trans zf2
      have zc3 : po.cell? ⟨w1.heap.size, 3, none⟩ = some (.int .i64 0) := (hbpo.cell (p := ⟨w1.heap.size, 3, none⟩) (by first | (simp; done) | (simp; omega) | omega)).trans zc3
      have zf3 : po.frozen? ⟨w1.heap.size, 3, none⟩ = false := (hbpo.frozen (p := ⟨w1.heap.size, 3, none⟩) (by first | (simp; done) | (simp; omega) | omega)).trans zf3
      have zc4 : po.cell? ⟨w1.heap.size, 4, none⟩ = some (.int .i64 0) := (hbpo.cell (p := ⟨w1.heap.size, 4, none⟩) (by first | (simp; done) | (simp; omega) | omega)).trans zc4
      have zf4 : po.frozen? ⟨w1.heap.size, 4, none⟩ = false := (hbpo.frozen (p := ⟨w1.heap.size, 4, none⟩) (by first | (simp; done) | (simp; omega) | omega)).trans zf4
      have zc5 : po.cell? ⟨w1.heap.size, 5, none⟩ = some (.slice none 0 0) := (hbpo.cell (p := ⟨w1.heap.size, 5, none⟩) (by first | (simp; done) | (simp; omega) | omega)).trans zc5
      have zf5 : po.frozen? ⟨w1.heap.size, 5, none⟩ = false := (hbpo.frozen (p := ⟨w1.heap.size, 5, none⟩) (by first | (simp; done) | (simp; omega) | omega)).trans zf5
      have zc6 : po.cell? ⟨w1.heap.size, 6, none⟩ = some (.slice none 0 0) := (hbpo.cell (p := ⟨w1.heap.size, 6, none⟩) (by first | (simp; done) | (simp; omega) | omega)).trans zc6
      have zf6 : po.frozen? ⟨w1.heap.size, 6, none⟩ = false := (hbpo.frozen (p := ⟨w1.heap.size, 6, none⟩) (by first | (simp; done) | (simp; omega) | omega)).trans zf6
      refine hK.out _ _ ?_ (fun hHeld2 => ?_)
      · (try dsimp only); exact hd_10_2 hS0 (by repeat (first | (with_reducible exact Below.refl _ _) | (with_reducible assumption) | (with_reducible refine bel_set ?_ (by first | (simp; done) | (simp; omega)) _) | (with_reducible refine bel_alloc ?_ _) | (with_reducible refine bel_drew ?_) | (with_reducible refine bel_drewN ?_ _) | (with_reducible refine bel_trans ?_ (by with_reducible assumption))))
      clear hK K hHeld
      have hHeld := hHeld2
      clear hHeld2
      try simp only [Act.put, List.setIfInBounds_toArray, List.set_cons_zero, List.set_cons_succ]
      refine wpAnyH_ready (rs := [5]) (by kernel_rfl) (by simp) ?_
      refine AllReadyH.cons (by simp only [List.getElem?_toArray, List.getElem?_cons_zero, List.getElem?_cons_succ]; rfl) (fun K hK => ?_) AllReadyH.nil
      go_simp
      (go_at_call 11; refine (toIn_any a1 len1 cap1 z1 _ (HI.below (by repeat (first | (with_reducible exact Below.refl _ _) | (with_reducible assumption) | (with_reducible refine bel_set ?_ (by first | (simp; done) | (simp; omega)) _) | (with_reducible refine bel_alloc ?_ _) | (with_reducible refine bel_drew ?_) | (with_reducible refine bel_drewN ?_ _) | (with_reducible refine bel_trans ?_ (by with_reducible assumption))))) hl1).mono ?_; rintro e' pi ⟨ai, rfl, hIi, _, _, hbpi⟩)
      (try go_wp2_with fail)
      have szpi := hbpi.size
      (try simp at szpi)
      have zc0 : pi.cell? ⟨w1.heap.size, 0, none⟩ = some (.slice none 0 0) := (hbpi.cell (p := ⟨w1.heap.size, 0, none⟩) (by first | (simp; done) | (simp; omega) | omega)).trans zc0
      have zf0 : pi.frozen? ⟨w1.heap.size, 0, none⟩ = false := (hbpi.frozen (p := ⟨w1.heap.size, 0, none⟩) (by first | (simp; done) | (simp; omega) | omega)).trans zf0
      have zc1 : pi.cell? ⟨w1.heap.size, 1, none⟩ = some (.int .i64 0) := (hbpi.cell (p := ⟨w1.heap.size, 1, none⟩) (by first | (simp; done) | (simp; omega) | omega)).trans zc1
      have zf1 : pi.frozen? ⟨w1.heap.size, 1, none⟩ = false := (hbpi.frozen (p := ⟨w1.heap.size, 1, none⟩) (by first | (simp; done) | (simp; omega) | omega)).trans zf1
      have zc2 : pi.cell? ⟨w1.heap.size, 2, none⟩ = some (.slice none 0 0) := (hbpi.cell (p := ⟨w1.heap.size, 2, none⟩) (by first | (simp; done) | (simp; omega) | omega)).trans zc2
      have zf2 : pi.frozen? ⟨w1.heap.size, 2, none⟩ = false := (hbpi.frozen (p := ⟨w1.heap.size, 2, none⟩) (by first | (simp; done) | (simp; omega) | omega)).trans zf2
      have zc3 : pi.cell? ⟨w1.heap.size, 3, none⟩ = some (.int .i64 0) := (hbpi.cell (p := ⟨w1.heap.size, 3, none⟩) (by first | (simp; done) | (simp; omega) | omega)).trans zc3
      have zf3 : pi.frozen? ⟨w1.heap.size, 3, none⟩ = false := (hbpi.frozen (p := ⟨w1.heap.size, 3, none⟩) (by first | (simp; done) | (simp; omega) | omega)).trans zf3
      have zc4 : pi.cell? ⟨w1.heap.size, 4, none⟩ = some (.int .i64 0) := (hbpi.cell (p := ⟨w1.heap.size, 4, none⟩) (by first | (simp; done) | (simp; omega) | omega)).trans zc4
      have zf4 : pi.frozen? ⟨w1.heap.size, 4, none⟩ = false := (hbpi.frozen (p := ⟨w1.heap.size, 4, none⟩) (by first | (simp; done) | (simp; omega) | omega)).trans zf4
      have zc5 : pi.cell? ⟨w1.heap.size, 5, none⟩ = some (.slice none 0 0) := (hbpi.cell (p := ⟨w1.heap.size, 5, none⟩) (by first | (simp; done) | (simp; omega) | omega)).trans zc5
      have zf5 : pi.frozen? ⟨w1.heap.size, 5, none⟩ = false := (hbpi.frozen (p := ⟨w1.heap.size, 5, none⟩) (by first | (simp; done) | (simp; omega) | omega)).trans zf5
      have zc6 : pi.cell? ⟨w1.heap.size, 6, none⟩ = some (.slice none 0 0) := (hbpi.cell (p := ⟨w1.heap.size, 6, none⟩) (by first | (simp; done) | (simp; omega) | omega)).trans zc6
      have zf6 : pi.frozen? ⟨w1.heap.size, 6, none⟩ = false := (hbpi.frozen (p := ⟨w1.heap.size, 6, none⟩) (by first | (simp; done) | (simp; omega) | omega)).trans zf6
      refine hK.out _ _ ?_ (fun hHeld2 => ?_)
      · (try dsimp only); exact hd_10_2 hS0 (by repeat (first | (with_reducible exact Below.refl _ _) | (with_reducible assumption) | (with_reducible refine bel_set ?_ (by first | (simp; done) | (simp; omega)) _) | (with_reducible refine bel_alloc ?_ _) | (with_reducible refine bel_drew ?_) | (with_reducible refine bel_drewN ?_ _) | (with_reducible refine bel_trans ?_ (by with_reducible assumption))))
      clear hK K hHeld
      have hHeld := hHeld2
      clear hHeld2
      try simp only [Act.put, List.setIfInBounds_toArray, List.set_cons_zero, List.set_cons_succ]
      refine wpAnyH_ready (rs := [6]) (by kernel_rfl) (by simp) ?_
      refine AllReadyH.cons (by simp only [List.getElem?_toArray, List.getElem?_cons_zero, List.getElem?_cons_succ]; rfl) (fun K hK => ?_) AllReadyH.nil
      go_simp
      (go_at_call 8; refine (specnew_eq s t k z p l e b v r m go len0 len0 ai len1 len1 z0 z1 _ (hGo.below (by repeat (first | (with_reducible exact Below.refl _ _) | (with_reducible assumption) | (with_reducible refine bel_set ?_ (by first | (simp; done) | (simp; omega)) _) | (with_reducible refine bel_alloc ?_ _) | (with_reducible refine bel_drew ?_) | (with_reducible refine bel_drewN ?_ _) | (with_reducible refine bel_trans ?_ (by with_reducible assumption))))) (hIi.below (by repeat (first | (with_reducible exact Below.refl _ _) | (with_reducible assumption) | (with_reducible refine bel_set ?_ (by first | (simp; done) | (simp; omega)) _) | (with_reducible refine bel_alloc ?_ _) | (with_reducible refine bel_drew ?_) | (with_reducible refine bel_drewN ?_ _) | (with_reducible refine bel_trans ?_ (by with_reducible assumption))))) hl0 hl1 hN).mono ?_; rintro e' pn ⟨ia, il, ic, oa, ol, oc, ⟨rfl, rfl⟩, rfl, hT, hW, hbpn⟩)
      (try go_wp2_with fail)
      have szpn := hbpn.size
      (try simp at szpn)
      have zc0 : pn.cell? ⟨w1.heap.size, 0, none⟩ = some (.slice none 0 0) := (hbpn.cell (p := ⟨w1.heap.size, 0, none⟩) (by first | (simp; done) | (simp; omega) | omega)).trans zc0
      have zf0 : pn.frozen? ⟨w1.heap.size, 0, none⟩ = false := (hbpn.frozen (p := ⟨w1.heap.size, 0, none⟩) (by first | (simp; done) | (simp; omega) | omega)).trans zf0
      have zc1 : pn.cell? ⟨w1.heap.size, 1, none⟩ = some (.int .i64 0) := (hbpn.cell (p := ⟨w1.heap.size, 1, none⟩) (by first | (simp; done) | (simp; omega) | omega)).trans zc1
      have zf1 : pn.frozen? ⟨w1.heap.size, 1, none⟩ = false := (hbpn.frozen (p := ⟨w1.heap.size, 1, none⟩) (by first | (simp; done) | (simp; omega) | omega)).trans zf1
      have zc2 : pn.cell? ⟨w1.heap.size, 2, none⟩ = some (.slice none 0 0) := (hbpn.cell (p := ⟨w1.heap.size, 2, none⟩) (by first | (simp; done) | (simp; omega) | omega)).trans zc2
      have zf2 : pn.frozen? ⟨w1.heap.size, 2, none⟩ = false := (hbpn.frozen (p := ⟨w1.heap.size, 2, none⟩) (by first | (simp; done) | (simp; omega) | omega)).trans zf2
      have zc3 : pn.cell? ⟨w1.heap.size, 3, none⟩ = some (.int .i64 0) := (hbpn.cell (p := ⟨w1.heap.size, 3, none⟩) (by first | (simp; done) | (simp; omega) | omega)).trans zc3
      have zf3 : pn.frozen? ⟨w1.heap.size, 3, none⟩ = false := (hbpn.frozen (p := ⟨w1.heap.size, 3, none⟩) (by first | (simp; done) | (simp; omega) | omega)).trans zf3
      have zc4 : pn.cell? ⟨w1.heap.size, 4, none⟩ = some (.int .i64 0) := (hbpn.cell (p := ⟨w1.heap.size, 4, none⟩) (by first | (simp; done) | (simp; omega) | omega)).trans zc4
      have zf4 : pn.frozen? ⟨w1.heap.size, 4, none⟩ = false := (hbpn.frozen (p := ⟨w1.heap.size, 4, none⟩) (by first | (simp; done) | (simp; omega) | omega)).trans zf4
      have zc5 : pn.cell? ⟨w1.heap.size, 5, none⟩ = some (.slice none 0 0) := (hbpn.cell (p := ⟨w1.heap.size, 5, none⟩) (by first | (simp; done) | (simp; omega) | omega)).trans zc5
      have zf5 : pn.frozen? ⟨w1.heap.size, 5, none⟩ = false := (hbpn.frozen (p := ⟨w1.heap.size, 5, none⟩) (by first | (simp; done) | (simp; omega) | omega)).trans zf5
      have zc6 : pn.cell? ⟨w1.heap.size, 6, none⟩ = some (.slice none 0 0) := (hbpn.cell (p := ⟨w1.heap.size, 6, none⟩) (by first | (simp; done) | (simp; omega) | omega)).trans zc6
      have zf6 : pn.frozen? ⟨w1.heap.size, 6, none⟩ = false := (hbpn.frozen (p := ⟨w1.heap.size, 6, none⟩) (by first | (simp; done) | (simp; omega) | omega)).trans zf6
      refine hK.out _ _ ?_ (fun hHeld2 => ?_)
      · (try dsimp only); exact hd_10_2 hS0 (by repeat (first | (with_reducible exact Below.refl _ _) | (with_reducible assumption) | (with_reducible refine bel_set ?_ (by first | (simp; done) | (simp; omega)) _) | (with_reducible refine bel_alloc ?_ _) | (with_reducible refine bel_drew ?_) | (with_reducible refine bel_drewN ?_ _) | (with_reducible refine bel_trans ?_ (by with_reducible assumption))))
      clear hK K hHeld
      have hHeld := hHeld2
      clear hHeld2
      try simp only [Act.put, List.setIfInBounds_toArray, List.set_cons_zero, List.set_cons_succ]
      refine wpAnyH_ready (rs := [8]) (by kernel_rfl) (by simp) ?_
      refine AllReadyH.cons (by simp only [List.getElem?_toArray, List.getElem?_cons_zero, List.getElem?_cons_succ]; rfl) (fun K hK => ?_) AllReadyH.nil
      go_simp
      refine hK.out _ _ ?_ (fun hHeld2 => ?_)
      · (try dsimp only); exact hd_10_2 hS0 (by repeat (first | (with_reducible exact Below.refl _ _) | (with_reducible assumption) | (with_reducible refine bel_set ?_ (by first | (simp; done) | (simp; omega)) _) | (with_reducible refine bel_alloc ?_ _) | (with_reducible refine bel_drew ?_) | (with_reducible refine bel_drewN ?_ _) | (with_reducible refine bel_trans ?_ (by with_reducible assumption))))
      clear hK K hHeld
      have hHeld := hHeld2
      clear hHeld2
      try simp only [Act.put, List.setIfInBounds_toArray, List.set_cons_zero, List.set_cons_succ]
      refine wpAnyH_done (by kernel_rfl) ?_ _
      go_wp2
      go_meet
      exact boxEarly ⟨rfl, rfl⟩ hT hW (by first | (simp; done) | (simp; omega) | omega) (by omega) (by omega) (by repeat (first | (with_reducible exact Below.refl _ _) | (with_reducible assumption) | (with_reducible refine bel_set ?_ (by first | (simp; done) | (simp; omega)) _) | (with_reducible refine bel_alloc ?_ _) | (with_reducible refine bel_drew ?_) | (with_reducible refine bel_drewN ?_ _) | (with_reducible refine bel_trans ?_ (by with_reducible assumption)))) zc0 zc1 zc2 zc3 zc4 zc5 zc6
    case rest =>
      rename World => wa
      obtain ⟨Bw, Btw, ilw, olw, iaw, icw, oaw, ocw, rfl, ⟨hilw, holw⟩, ⟨cw0, cw1, cw2, cw3, cw4, cw5, cw6⟩, hTw, hWw, ⟨pw1, pw2, pw3, pw4⟩, hba⟩ := hcut
      subst hilw holw
      have hSa := hd_10_2 hS0 hba
      obtain ⟨⟨s0, s1, s2, s3, s4, s5, s6, s7, s8, s9, s10, s11⟩, ya, yb⟩ := hSa
      go_wp2_with fail
      refine (toStG_any m a0 len0 cap0 z0 _ (HO.below hba) hl0).mono ?_
      rintro e' wb ⟨g1, rfl, hG1, hge1, hbb1⟩
      clear s0 s1 s2 s3 s4 s5 s6 s7 s8 s9 s10 s11
      have hbX : Below wb.heap.size wb (wb.alloc (.cells #[.int .i64 m, .slice (some ⟨g1, 0, none⟩) len0 len0] 32)) := bel_one _ _
      go_wp2_with fail
      refine (toIn_any a1 len1 cap1 z1 _ (((HI.below hba).below hbb1).below hbX) hl1).mono ?_
      rintro e' wc ⟨a2, rfl, hI2, hW2, hge2, hbc2⟩
      have hbac : Below wa.heap.size wa wc := bel_trans hbb1 (bel_trans hbX hbc2)
      have hb1c : Below w1.heap.size w1 wc := bel_trans hba hbac
      have yc : wb.heap.size < wc.heap.size := by have h9 := hbc2.size; simp at h9; omega
      have hG1c : OrG wc g1 len0 z0 := (hG1.below hbX).below hbc2
      have hg1b : g1 < wb.heap.size := hG1.lt
      have hXc0 : wc.cell? ⟨wb.heap.size, 0, none⟩ = some (.int .i64 m) := (hbc2.cell (p := ⟨wb.heap.size, 0, none⟩) (by simp)).trans (by simp [go_sem])
      have hXc1 : wc.cell? ⟨wb.heap.size, 1, none⟩ = some (.slice (some ⟨g1, 0, none⟩) len0 len0) := (hbc2.cell (p := ⟨wb.heap.size, 1, none⟩) (by simp)).trans (by simp [go_sem])
      have hS1 : ((wc.cell? ⟨w.heap.size, 0, none⟩ = some (.int .i64 s) ∧ wc.cell? ⟨w.heap.size, 1, none⟩ = some (.int .i64 t) ∧ wc.cell? ⟨w.heap.size, 2, none⟩ = some (.int .i64 k) ∧ wc.cell? ⟨w.heap.size, 3, none⟩ = some (.int .i64 z) ∧ wc.cell? ⟨w.heap.size, 4, none⟩ = some (.int .i64 p) ∧ wc.cell? ⟨w.heap.size, 5, none⟩ = some (.int .i64 l) ∧ wc.cell? ⟨w.heap.size, 6, none⟩ = some (.int .i64 e) ∧ wc.cell? ⟨w.heap.size, 7, none⟩ = some (.bool b) ∧ wc.cell? ⟨w.heap.size, 8, none⟩ = some (.int .i64 v) ∧ wc.cell? ⟨w.heap.size, 9, none⟩ = some (.int .i64 r) ∧ wc.cell? ⟨wb.heap.size, 0, none⟩ = some (.int .i64 m) ∧ wc.cell? ⟨wb.heap.size, 1, none⟩ = some (.slice (some ⟨g1, 0, none⟩) len0 len0)) ∧ w.heap.size < wc.heap.size ∧ wb.heap.size < wc.heap.size) := by
        obtain ⟨⟨s0, s1, s2, s3, s4, s5, s6, s7, s8, s9, s10, s11⟩, yd, ye⟩ := hd_10_2 hS0 hb1c
        exact ⟨⟨s0, s1, s2, s3, s4, s5, s6, s7, s8, s9, hXc0, hXc1⟩, yd, yc⟩
      go_wp2_with fail
      go_cut [11] (fun pv W => BoxP wc D om pv W)
      case first =>
        refine wp_region_held_drew (S := (fun W => ((W.cell? ⟨w.heap.size, 0, none⟩ = some (.int .i64 s) ∧ W.cell? ⟨w.heap.size, 1, none⟩ = some (.int .i64 t) ∧ W.cell? ⟨w.heap.size, 2, none⟩ = some (.int .i64 k) ∧ W.cell? ⟨w.heap.size, 3, none⟩ = some (.int .i64 z) ∧ W.cell? ⟨w.heap.size, 4, none⟩ = some (.int .i64 p) ∧ W.cell? ⟨w.heap.size, 5, none⟩ = some (.int .i64 l) ∧ W.cell? ⟨w.heap.size, 6, none⟩ = some (.int .i64 e) ∧ W.cell? ⟨w.heap.size, 7, none⟩ = some (.bool b) ∧ W.cell? ⟨w.heap.size, 8, none⟩ = some (.int .i64 v) ∧ W.cell? ⟨w.heap.size, 9, none⟩ = some (.int .i64 r) ∧ W.cell? ⟨wb.heap.size, 0, none⟩ = some (.int .i64 m) ∧ W.cell? ⟨wb.heap.size, 1, none⟩ = some (.slice (some ⟨g1, 0, none⟩) len0 len0)) ∧ w.heap.size < W.heap.size ∧ wb.heap.size < W.heap.size))) (by kernel_rfl) ?_ (fun hHeld => ?_)
        · (try dsimp only); exact hd_10_2 hS1 (by repeat (first | (with_reducible exact Below.refl _ _) | (with_reducible assumption) | (with_reducible refine bel_set ?_ (by first | (simp; done) | (simp; omega)) _) | (with_reducible refine bel_alloc ?_ _) | (with_reducible refine bel_drew ?_) | (with_reducible refine bel_drewN ?_ _) | (with_reducible refine bel_trans ?_ (by with_reducible assumption))))
        refine wpAnyH_take (i := 0) (v := ?_) (by simp only [List.getElem?_toArray, List.getElem?_cons_zero, List.getElem?_cons_succ]; rfl) (by kernel_rfl) (by kernel_rfl) (by kernel_rfl) (by intro _ _ _ h; exact h) (Or.inl ⟨by rfl, ?_⟩) (by assumption) ?_
        rotate_left
        · (intro w9 hSw; (try dsimp only at hSw); go_simp <;> with_reducible rfl)
        try simp only [Act.put, List.setIfInBounds_toArray, List.set_cons_zero, List.set_cons_succ]
        refine wpAnyH_take (i := 2) (v := ?_) (by simp only [List.getElem?_toArray, List.getElem?_cons_zero, List.getElem?_cons_succ]; rfl) (by kernel_rfl) (by kernel_rfl) (by kernel_rfl) (by intro _ _ _ h; exact h) (Or.inl ⟨by rfl, ?_⟩) (by assumption) ?_
        rotate_left
        · (intro w9 hSw; (try dsimp only at hSw); go_simp <;> with_reducible rfl)
        try simp only [Act.put, List.setIfInBounds_toArray, List.set_cons_zero, List.set_cons_succ]
        refine wpAnyH_take (i := 3) (v := ?_) (by simp only [List.getElem?_toArray, List.getElem?_cons_zero, List.getElem?_cons_succ]; rfl) (by kernel_rfl) (by kernel_rfl) (by kernel_rfl) (by intro _ _ _ h; exact h) (Or.inl ⟨by rfl, ?_⟩) (by assumption) ?_
        rotate_left
        · (intro w9 hSw; (try dsimp only at hSw); go_simp <;> with_reducible rfl)
        try simp only [Act.put, List.setIfInBounds_toArray, List.set_cons_zero, List.set_cons_succ]
        refine wpAnyH_ready (rs := [1, 5]) (by kernel_rfl) (by simp) ?_
        refine AllReadyH.cons (by simp only [List.getElem?_toArray, List.getElem?_cons_zero, List.getElem?_cons_succ]; rfl) (fun K hK => ?_) ?_
        · go_simp
          (go_at_call 9; refine (toJob_any _ _ _ _ _ _ _ _ _ _ _).mono ?_; rintro e' qj ⟨rfl, hbqj⟩)
          (try go_wp2_with fail)
          have szqj := hbqj.size
          (try simp at szqj)
          refine hK.out _ _ ?_ (fun hHeld2 => ?_)
          · (try dsimp only); exact hd_10_2 hS1 (by repeat (first | (with_reducible exact Below.refl _ _) | (with_reducible assumption) | (with_reducible refine bel_set ?_ (by first | (simp; done) | (simp; omega)) _) | (with_reducible refine bel_alloc ?_ _) | (with_reducible refine bel_drew ?_) | (with_reducible refine bel_drewN ?_ _) | (with_reducible refine bel_trans ?_ (by with_reducible assumption))))
          clear hK K hHeld
          have hHeld := hHeld2
          clear hHeld2
          try simp only [Act.put, List.setIfInBounds_toArray, List.set_cons_zero, List.set_cons_succ]
          refine wpAnyH_ready (rs := [4, 5]) (by kernel_rfl) (by simp) ?_
          refine AllReadyH.cons (by simp only [List.getElem?_toArray, List.getElem?_cons_zero, List.getElem?_cons_succ]; rfl) (fun K hK => ?_) ?_
          · go_simp
            (go_at_call 12; refine (implnew_eq s t k z p l e b v r m g1 len0 len0 a2 len1 len1 z0 z1 _ (hG1c.below (by repeat (first | (with_reducible exact Below.refl _ _) | (with_reducible assumption) | (with_reducible refine bel_set ?_ (by first | (simp; done) | (simp; omega)) _) | (with_reducible refine bel_alloc ?_ _) | (with_reducible refine bel_drew ?_) | (with_reducible refine bel_drewN ?_ _) | (with_reducible refine bel_trans ?_ (by with_reducible assumption))))) (hI2.below (by repeat (first | (with_reducible exact Below.refl _ _) | (with_reducible assumption) | (with_reducible refine bel_set ?_ (by first | (simp; done) | (simp; omega)) _) | (with_reducible refine bel_alloc ?_ _) | (with_reducible refine bel_drew ?_) | (with_reducible refine bel_drewN ?_ _) | (with_reducible refine bel_trans ?_ (by with_reducible assumption))))) hl0 hl1 hN).mono ?_; rintro e' qn ⟨ia, il, ic, oa, ol, oc, ⟨rfl, rfl⟩, rfl, hT, hW, hbqn⟩)
            (try go_wp2_with fail)
            have szqn := hbqn.size
            (try simp at szqn)
            refine hK.out _ _ ?_ (fun hHeld2 => ?_)
            · (try dsimp only); exact hd_10_2 hS1 (by repeat (first | (with_reducible exact Below.refl _ _) | (with_reducible assumption) | (with_reducible refine bel_set ?_ (by first | (simp; done) | (simp; omega)) _) | (with_reducible refine bel_alloc ?_ _) | (with_reducible refine bel_drew ?_) | (with_reducible refine bel_drewN ?_ _) | (with_reducible refine bel_trans ?_ (by with_reducible assumption))))
            clear hK K hHeld
            have hHeld := hHeld2
            clear hHeld2
            try simp only [Act.put, List.setIfInBounds_toArray, List.set_cons_zero, List.set_cons_succ]
            refine wpAnyH_ready (rs := [5]) (by kernel_rfl) (by simp) ?_
            refine AllReadyH.cons (by simp only [List.getElem?_toArray, List.getElem?_cons_zero, List.getElem?_cons_succ]; rfl) (fun K hK => ?_) AllReadyH.nil
            go_simp
            refine hK.out _ _ ?_ (fun hHeld2 => ?_)
            · (try dsimp only); exact hd_10_2 hS1 (by repeat (first | (with_reducible exact Below.refl _ _) | (with_reducible assumption) | (with_reducible refine bel_set ?_ (by first | (simp; done) | (simp; omega)) _) | (with_reducible refine bel_alloc ?_ _) | (with_reducible refine bel_drew ?_) | (with_reducible refine bel_drewN ?_ _) | (with_reducible refine bel_trans ?_ (by with_reducible assumption))))
            clear hK K hHeld
            have hHeld := hHeld2
            clear hHeld2
            try simp only [Act.put, List.setIfInBounds_toArray, List.set_cons_zero, List.set_cons_succ]
            refine wpAnyH_ready (rs := [6]) (by kernel_rfl) (by simp) ?_
            refine AllReadyH.cons (by simp only [List.getElem?_toArray, List.getElem?_cons_zero, List.getElem?_cons_succ]; rfl) (fun K hK => ?_) AllReadyH.nil
            go_simp
            refine hK.out _ _ ?_ (fun hHeld2 => ?_)
            · (try dsimp only); exact hd_10_2 hS1 (by repeat (first | (with_reducible exact Below.refl _ _) | (with_reducible assumption) | (with_reducible refine bel_set ?_ (by first | (simp; done) | (simp; omega)) _) | (with_reducible refine bel_alloc ?_ _) | (with_reducible refine bel_drew ?_) | (with_reducible refine bel_drewN ?_ _) | (with_reducible refine bel_trans ?_ (by with_reducible assumption))))
            clear hK K hHeld
            have hHeld := hHeld2
            clear hHeld2
            try simp only [Act.put, List.setIfInBounds_toArray, List.set_cons_zero, List.set_cons_succ]
            refine wpAnyH_done (by kernel_rfl) ?_ _
            go_wp2
            go_meet
            exact boxLate ⟨rfl, rfl⟩ hT hW (by first | (simp; done) | (simp; omega) | omega) (by repeat (first | (with_reducible exact Below.refl _ _) | (with_reducible assumption) | (with_reducible refine bel_set ?_ (by first | (simp; done) | (simp; omega)) _) | (with_reducible refine bel_alloc ?_ _) | (with_reducible refine bel_drew ?_) | (with_reducible refine bel_drewN ?_ _) | (with_reducible refine bel_trans ?_ (by with_reducible assumption))))
          refine AllReadyH.cons (by simp only [List.getElem?_toArray, List.getElem?_cons_zero, List.getElem?_cons_succ]; rfl) (fun K hK => ?_) AllReadyH.nil
          go_simp
          refine hK.out _ _ ?_ (fun hHeld2 => ?_)
          · (try dsimp only); exact hd_10_2 hS1 (by repeat (first | (with_reducible exact Below.refl _ _) | (with_reducible assumption) | (with_reducible refine bel_set ?_ (by first | (simp; done) | (simp; omega)) _) | (with_reducible refine bel_alloc ?_ _) | (with_reducible refine bel_drew ?_) | (with_reducible refine bel_drewN ?_ _) | (with_reducible refine bel_trans ?_ (by with_reducible assumption))))
          clear hK K hHeld
          have hHeld := hHeld2
          clear hHeld2
          try simp only [Act.put, List.setIfInBounds_toArray, List.set_cons_zero, List.set_cons_succ]
          refine wpAnyH_ready (rs := [4]) (by kernel_rfl) (by simp) ?_
          refine AllReadyH.cons (by simp only [List.getElem?_toArray, List.getElem?_cons_zero, List.getElem?_cons_succ]; rfl) (fun K hK => ?_) AllReadyH.nil
          go_simp
          (go_at_call 12; refine (implnew_eq s t k z p l e b v r m g1 len0 len0 a2 len1 len1 z0 z1 _ (hG1c.below (by repeat (first | (with_reducible exact Below.refl _ _) | (with_reducible assumption) | (with_reducible refine bel_set ?_ (by first | (simp; done) | (simp; omega)) _) | (with_reducible refine bel_alloc ?_ _) | (with_reducible refine bel_drew ?_) | (with_reducible refine bel_drewN ?_ _) | (with_reducible refine bel_trans ?_ (by with_reducible assumption))))) (hI2.below (by repeat (first | (with_reducible exact Below.refl _ _) | (with_reducible assumption) | (with_reducible refine bel_set ?_ (by first | (simp; done) | (simp; omega)) _) | (with_reducible refine bel_alloc ?_ _) | (with_reducible refine bel_drew ?_) | (with_reducible refine bel_drewN ?_ _) | (with_reducible refine bel_trans ?_ (by with_reducible assumption))))) hl0 hl1 hN).mono ?_; rintro e' qn ⟨ia, il, ic, oa, ol, oc, ⟨rfl, rfl⟩, rfl, hT, hW, hbqn⟩)
          (try go_wp2_with fail)
          have szqn := hbqn.size
          (try simp at szqn)
          have zc0 : qn.cell? ⟨qj.heap.size, 0, none⟩ = some (.slice none 0 0) := (hbqn.cell (p := ⟨qj.heap.size, 0, none⟩) (by first | (simp; done) | (simp; omega) | omega)).trans (by simp [go_sem])
          have zf0 : qn.frozen? ⟨qj.heap.size, 0, none⟩ = false := (hbqn.frozen (p := ⟨qj.heap.size, 0, none⟩) (by first | (simp; done) | (simp; omega) | omega)).trans (by simp [go_sem])
          have zc1 : qn.cell? ⟨qj.heap.size, 1, none⟩ = some (.int .i64 0) := (hbqn.cell (p := ⟨qj.heap.size, 1, none⟩) (by first | (simp; done) | (simp; omega) | omega)).trans (by simp [go_sem])
          have zf1 : qn.frozen? ⟨qj.heap.size, 1, none⟩ = false := (hbqn.frozen (p := ⟨qj.heap.size, 1, none⟩) (by first | (simp; done) | (simp; omega) | omega)).trans (by simp [go_sem])
          have zc2 : qn.cell? ⟨qj.heap.size, 2, none⟩ = some (.slice none 0 0) := (hbqn.cell (p := ⟨qj.heap.size, 2, none⟩) (by first | (simp; done) | (simp; omega) | omega)).trans (by simp [go_sem])
          have zf2 : qn.frozen? ⟨qj.heap.size, 2, none⟩ = false := (hbqn.frozen (p := ⟨qj.heap.size, 2, none⟩) (by first | (simp; done) | (simp; omega) | omega)).trans (by simp [go_sem])
          have zc3 : qn.cell? ⟨qj.heap.size, 3, none⟩ = some (.int .i64 0) := (hbqn.cell (p := ⟨qj.heap.size, 3, none⟩) (by first | (simp; done) | (simp; omega) | omega)).trans (by simp [go_sem])
          have zf3 : qn.frozen? ⟨qj.heap.size, 3, none⟩ = false := (hbqn.frozen (p := ⟨qj.heap.size, 3, none⟩) (by first | (simp; done) | (simp; omega) | omega)).trans (by simp [go_sem])
          have zc4 : qn.cell? ⟨qj.heap.size, 4, none⟩ = some (.int .i64 0) := (hbqn.cell (p := ⟨qj.heap.size, 4, none⟩) (by first | (simp; done) | (simp; omega) | omega)).trans (by simp [go_sem])
          have zf4 : qn.frozen? ⟨qj.heap.size, 4, none⟩ = false := (hbqn.frozen (p := ⟨qj.heap.size, 4, none⟩) (by first | (simp; done) | (simp; omega) | omega)).trans (by simp [go_sem])
          have zc5 : qn.cell? ⟨qj.heap.size, 5, none⟩ = some (.slice none 0 0) := (hbqn.cell (p := ⟨qj.heap.size, 5, none⟩) (by first | (simp; done) | (simp; omega) | omega)).trans (by simp [go_sem])
          have zf5 : qn.frozen? ⟨qj.heap.size, 5, none⟩ = false := (hbqn.frozen (p := ⟨qj.heap.size, 5, none⟩) (by first | (simp; done) | (simp; omega) | omega)).trans (by simp [go_sem])
          have zc6 : qn.cell? ⟨qj.heap.size, 6, none⟩ = some (.slice none 0 0) := (hbqn.cell (p := ⟨qj.heap.size, 6, none⟩) (by first | (simp; done) | (simp; omega) | omega)).trans (by simp [go_sem])
          have zf6 : qn.frozen? ⟨qj.heap.size, 6, none⟩ = false := (hbqn.frozen (p := ⟨qj.heap.size, 6, none⟩) (by first | (simp; done) | (simp; omega) | omega)).trans (by simp [go_sem])
          refine hK.out _ _ ?_ (fun hHeld2 => ?_)
          · (try dsimp only); exact hd_10_2 hS1 (by repeat (first | (with_reducible exact Below.refl _ _) | (with_reducible assumption) | (with_reducible refine bel_set ?_ (by first | (simp; done) | (simp; omega)) _) | (with_reducible refine bel_alloc ?_ _) | (with_reducible refine bel_drew ?_) | (with_reducible refine bel_drewN ?_ _) | (with_reducible refine bel_trans ?_ (by with_reducible assumption))))
          clear hK K hHeld
          have hHeld := hHeld2
          clear hHeld2
          try simp only [Act.put, List.setIfInBounds_toArray, List.set_cons_zero, List.set_cons_succ]
          refine wpAnyH_ready (rs := [6]) (by kernel_rfl) (by simp) ?_
          refine AllReadyH.cons (by simp only [List.getElem?_toArray, List.getElem?_cons_zero, List.getElem?_cons_succ]; rfl) (fun K hK => ?_) AllReadyH.nil
          go_simp
          refine hK.out _ _ ?_ (fun hHeld2 => ?_)
          · (try dsimp only); exact hd_10_2 hS1 (by repeat (first | (with_reducible exact Below.refl _ _) | (with_reducible assumption) | (with_reducible refine bel_set ?_ (by first | (simp; done) | (simp; omega)) _) | (with_reducible refine bel_alloc ?_ _) | (with_reducible refine bel_drew ?_) | (with_reducible refine bel_drewN ?_ _) | (with_reducible refine bel_trans ?_ (by with_reducible assumption))))
          clear hK K hHeld
          have hHeld := hHeld2
          clear hHeld2
          try simp only [Act.put, List.setIfInBounds_toArray, List.set_cons_zero, List.set_cons_succ]
          refine wpAnyH_done (by kernel_rfl) ?_ _
          go_wp2
          go_meet
          exact boxEarly ⟨rfl, rfl⟩ hT hW (by first | (simp; done) | (simp; omega) | omega) (by omega) (by omega) (by repeat (first | (with_reducible exact Below.refl _ _) | (with_reducible assumption) | (with_reducible refine bel_set ?_ (by first | (simp; done) | (simp; omega)) _) | (with_reducible refine bel_alloc ?_ _) | (with_reducible refine bel_drew ?_) | (with_reducible refine bel_drewN ?_ _) | (with_reducible refine bel_trans ?_ (by with_reducible assumption)))) zc0 zc1 zc2 zc3 zc4 zc5 zc6
        refine AllReadyH.cons (by simp only [List.getElem?_toArray, List.getElem?_cons_zero, List.getElem?_cons_succ]; rfl) (fun K hK => ?_) AllReadyH.nil
        go_simp
        refine hK.out _ _ ?_ (fun hHeld2 => ?_)
        · (try dsimp only); exact hd_10_2 hS1 (by repeat (first | (with_reducible exact Below.refl _ _) | (with_reducible assumption) | (with_reducible refine bel_set ?_ (by first | (simp; done) | (simp; omega)) _) | (with_reducible refine bel_alloc ?_ _) | (with_reducible refine bel_drew ?_) | (with_reducible refine bel_drewN ?_ _) | (with_reducible refine bel_trans ?_ (by with_reducible assumption))))
        clear hK K hHeld
        have hHeld := hHeld2
        clear hHeld2
        try simp only [Act.put, List.setIfInBounds_toArray, List.set_cons_zero, List.set_cons_succ]
        refine wpAnyH_ready (rs := [1]) (by kernel_rfl) (by simp) ?_
        refine AllReadyH.cons (by simp only [List.getElem?_toArray, List.getElem?_cons_zero, List.getElem?_cons_succ]; rfl) (fun K hK => ?_) AllReadyH.nil
        go_simp
        (go_at_call 9; refine (toJob_any _ _ _ _ _ _ _ _ _ _ _).mono ?_; rintro e' qj ⟨rfl, hbqj⟩)
        (try go_wp2_with fail)
        have szqj := hbqj.size
        (try simp at szqj)
        have zc0 : qj.cell? ⟨wc.heap.size, 0, none⟩ = some (.slice none 0 0) := (hbqj.cell (p := ⟨wc.heap.size, 0, none⟩) (by first | (simp; done) | (simp; omega) | omega)).trans (by simp [go_sem])
        have zf0 : qj.frozen? ⟨wc.heap.size, 0, none⟩ = false := (hbqj.frozen (p := ⟨wc.heap.size, 0, none⟩) (by first | (simp; done) | (simp; omega) | omega)).trans (by simp [go_sem])
        have zc1 : qj.cell? ⟨wc.heap.size, 1, none⟩ = some (.int .i64 0) := (hbqj.cell (p := ⟨wc.heap.size, 1, none⟩) (by first | (simp; done) | (simp; omega) | omega)).trans (by simp [go_sem])
        have zf1 : qj.frozen? ⟨wc.heap.size, 1, none⟩ = false := (hbqj.frozen (p := ⟨wc.heap.size, 1, none⟩) (by first | (simp; done) | (simp; omega) | omega)).trans (by simp [go_sem])
        have zc2 : qj.cell? ⟨wc.heap.size, 2, none⟩ = some (.slice none 0 0) := (hbqj.cell (p := ⟨wc.heap.size, 2, none⟩) (by first | (simp; done) | (simp; omega) | omega)).trans (by simp [go_sem])
        have zf2 : qj.frozen? ⟨wc.heap.size, 2, none⟩ = false := (hbqj.frozen (p := ⟨wc.heap.size, 2, none⟩) (by first | (simp; done) | (simp; omega) | omega)).trans (by simp [go_sem])
        have zc3 : qj.cell? ⟨wc.heap.size, 3, none⟩ = some (.int .i64 0) := (hbqj.cell (p := ⟨wc.heap.size, 3, none⟩) (by first | (simp; done) | (simp; omega) | omega)).trans (by simp [go_sem])
        have zf3 : qj.frozen? ⟨wc.heap.size, 3, none⟩ = false := (hbqj.frozen (p := ⟨wc.heap.size, 3, none⟩) (by first | (simp; done) | (simp; omega) | omega)).trans (by simp [go_sem])
        have zc4 : qj.cell? ⟨wc.heap.size, 4, none⟩ = some (.int .i64 0) := (hbqj.cell (p := ⟨wc.heap.size, 4, none⟩) (by first | (simp; done) | (simp; omega) | omega)).trans (by simp [go_sem])
        have zf4 : qj.frozen? ⟨wc.heap.size, 4, none⟩ = false := (hbqj.frozen (p := ⟨wc.heap.size, 4, none⟩) (by first | (simp; done) | (simp; omega) | omega)).trans (by simp [go_sem])
        have zc5 : qj.cell? ⟨wc.heap.size, 5, none⟩ = some (.slice none 0 0) := (hbqj.cell (p := ⟨wc.heap.size, 5, none⟩) (by first | (simp; done) | (simp; omega) | omega)).trans (by simp [go_sem])
        have zf5 : qj.frozen? ⟨wc.heap.size, 5, none⟩ = false := (hbqj.frozen (p := ⟨wc.heap.size, 5, none⟩) (by first | (simp; done) | (simp; omega) | omega)).trans (by simp [go_sem])
        have zc6 : qj.cell? ⟨wc.heap.size, 6, none⟩ = some (.slice none 0 0) := (hbqj.cell (p := ⟨wc.heap.size, 6, none⟩) (by first | (simp; done) | (simp; omega) | omega)).trans (by simp [go_sem])
        have zf6 : qj.frozen? ⟨wc.heap.size, 6, none⟩ = false := (hbqj.frozen (p := ⟨wc.heap.size, 6, none⟩) (by first | (simp; done) | (simp; omega) | omega)).trans (by simp [go_sem])
        refine hK.out _ _ ?_ (fun hHeld2 => ?_)
        · (try dsimp only); exact hd_10_2 hS1 (by repeat (first | (with_reducible exact Below.refl _ _) | (with_reducible assumption) | (with_reducible refine bel_set ?_ (by first | (simp; done) | (simp; omega)) _) | (with_reducible refine bel_alloc ?_ _) | (with_reducible refine bel_drew ?_) | (with_reducible refine bel_drewN ?_ _) | (with_reducible refine bel_trans ?_ (by with_reducible assumption))))
        clear hK K hHeld
        have hHeld := hHeld2
        clear hHeld2
        try simp only [Act.put, List.setIfInBounds_toArray, List.set_cons_zero, List.set_cons_succ]
        refine wpAnyH_ready (rs := [4]) (by kernel_rfl) (by simp) ?_
        refine AllReadyH.cons (by simp only [List.getElem?_toArray, List.getElem?_cons_zero, List.getElem?_cons_succ]; rfl) (fun K hK => ?_) AllReadyH.nil
        go_simp
        (go_at_call 12; refine (implnew_eq s t k z p l e b v r m g1 len0 len0 a2 len1 len1 z0 z1 _ (hG1c.below (by repeat (first | (with_reducible exact Below.refl _ _) | (with_reducible assumption) | (with_reducible refine bel_set ?_ (by first | (simp; done) | (simp; omega)) _) | (with_reducible refine bel_alloc ?_ _) | (with_reducible refine bel_drew ?_) | (with_reducible refine bel_drewN ?_ _) | (with_reducible refine bel_trans ?_ (by with_reducible assumption))))) (hI2.below (by repeat (first | (with_reducible exact Below.refl _ _) | (with_reducible assumption) | (with_reducible refine bel_set ?_ (by first | (simp; done) | (simp; omega)) _) | (with_reducible refine bel_alloc ?_ _) | (with_reducible refine bel_drew ?_) | (with_reducible refine bel_drewN ?_ _) | (with_reducible refine bel_trans ?_ (by with_reducible assumption))))) hl0 hl1 hN).mono ?_; rintro e' qn ⟨ia, il, ic, oa, ol, oc, ⟨rfl, rfl⟩, rfl, hT, hW, hbqn⟩)
        (try go_wp2_with fail)
        have szqn := hbqn.size
        (try simp at szqn)
        have zc0 : qn.cell? ⟨wc.heap.size, 0, none⟩ = some (.slice none 0 0) := (hbqn.cell (p := ⟨wc.heap.size, 0, none⟩) (by first | (simp; done) | (simp; omega) | omega)).trans zc0
        have zf0 : qn.frozen? ⟨wc.heap.size, 0, none⟩ = false := (hbqn.frozen (p := ⟨wc.heap.size, 0, none⟩) (by first | (simp; done) | (simp; omega) | omega)).trans zf0
        have zc1 : qn.cell? ⟨wc.heap.size, 1, none⟩ = some (.int .i64 0) := (hbqn.cell (p := ⟨wc.heap.size, 1, none⟩) (by first | (simp; done) | (simp; omega) | omega)).trans zc1
        have zf1 : qn.frozen? ⟨wc.heap.size, 1, none⟩ = false := (hbqn.frozen (p := ⟨wc.heap.size, 1, none⟩) (by first | (simp; done) | (simp; omega) | omega)).trans zf1
        have zc2 : qn.cell? ⟨wc.heap.size, 2, none⟩ = some (.slice none 0 0) := (hbqn.cell (p := ⟨wc.heap.size, 2, none⟩) (by first | (simp; done) | (simp; omega) | omega)).trans zc2
        have zf2 : qn.frozen? ⟨wc.heap.size, 2, none⟩ = false := (hbqn.frozen (p := ⟨wc.heap.size, 2, none⟩) (by first | (simp; done) | (simp; omega) | omega)).trans zf2
        have zc3 : qn.cell? ⟨wc.heap.size, 3, none⟩ = some (.int .i64 0) := (hbqn.cell (p := ⟨wc.heap.size, 3, none⟩) (by first | (simp; done) | (simp; omega) | omega)).trans zc3
        have zf3 : qn.frozen? ⟨wc.heap.size, 3, none⟩ = false := (hbqn.frozen (p := ⟨wc.heap.size, 3, none⟩) (by first | (simp; done) | (simp; omega) | omega)).trans zf3
        have zc4 : qn.cell? ⟨wc.heap.size, 4, none⟩ = some (.int .i64 0) := (hbqn.cell (p := ⟨wc.heap.size, 4, none⟩) (by first | (simp; done) | (simp; omega) | omega)).trans zc4
        have zf4 : qn.frozen? ⟨wc.heap.size, 4, none⟩ = false := (hbqn.frozen (p := ⟨wc.heap.size, 4, none⟩) (by first | (simp; done) | (simp; omega) | omega)).trans zf4
        have zc5 : qn.cell? ⟨wc.heap.size, 5, none⟩ = some (.slice none 0 0) := (hbqn.cell (p := ⟨wc.heap.size, 5, none⟩) (by first | (simp; done) | (simp; omega) | omega)).trans zc5
        have zf5 : qn.frozen? ⟨wc.heap.size, 5, none⟩ = false := (hbqn.frozen (p := ⟨wc.heap.size, 5, none⟩) (by first | (simp; done) | (simp; omega) | omega)).trans zf5
        have zc6 : qn.cell? ⟨wc.heap.size, 6, none⟩ = some (.slice none 0 0) := (hbqn.cell (p := ⟨wc.heap.size, 6, none⟩) (by first | (simp; done) | (simp; omega) | omega)).trans zc6
        have zf6 : qn.frozen? ⟨wc.heap.size, 6, none⟩ = false := (hbqn.frozen (p := ⟨wc.heap.size, 6, none⟩) (by first | (simp; done) | (simp; omega) | omega)).trans zf6
        refine hK.out _ _ ?_ (fun hHeld2 => ?_)
        · (try dsimp only); exact hd_10_2 hS1 (by repeat (first | (with_reducible exact Below.refl _ _) | (with_reducible assumption) | (with_reducible refine bel_set ?_ (by first | (simp; done) | (simp; omega)) _) | (with_reducible refine bel_alloc ?_ _) | (with_reducible refine bel_drew ?_) | (with_reducible refine bel_drewN ?_ _) | (with_reducible refine bel_trans ?_ (by with_reducible assumption))))
        clear hK K hHeld
        have hHeld := hHeld2
        clear hHeld2
        try simp only [Act.put, List.setIfInBounds_toArray, List.set_cons_zero, List.set_cons_succ]
        refine wpAnyH_ready (rs := [6]) (by kernel_rfl) (by simp) ?_
        refine AllReadyH.cons (by simp only [List.getElem?_toArray, List.getElem?_cons_zero, List.getElem?_cons_succ]; rfl) (fun K hK => ?_) AllReadyH.nil
        go_simp
        refine hK.out _ _ ?_ (fun hHeld2 => ?_)
        · (try dsimp only); exact hd_10_2 hS1 (by repeat (first | (with_reducible exact Below.refl _ _) | (with_reducible assumption) | (with_reducible refine bel_set ?_ (by first | (simp; done) | (simp; omega)) _) | (with_reducible refine bel_alloc ?_ _) | (with_reducible refine bel_drew ?_) | (with_reducible refine bel_drewN ?_ _) | (with_reducible refine bel_trans ?_ (by with_reducible assumption))))
        clear hK K hHeld
        have hHeld := hHeld2
        clear hHeld2
        try simp only [Act.put, List.setIfInBounds_toArray, List.set_cons_zero, List.set_cons_succ]
        refine wpAnyH_done (by kernel_rfl) ?_ _
        go_wp2
        go_meet
        exact boxEarly ⟨rfl, rfl⟩ hT hW (by first | (simp; done) | (simp; omega) | omega) (by omega) (by omega) (by repeat (first | (with_reducible exact Below.refl _ _) | (with_reducible assumption) | (with_reducible refine bel_set ?_ (by first | (simp; done) | (simp; omega)) _) | (with_reducible refine bel_alloc ?_ _) | (with_reducible refine bel_drew ?_) | (with_reducible refine bel_drewN ?_ _) | (with_reducible refine bel_trans ?_ (by with_reducible assumption)))) zc0 zc1 zc2 zc3 zc4 zc5 zc6
      case rest =>
        rename World => wd
        obtain ⟨Bg, Btg, ilg, olg, iag, icg, oag, ocg, rfl, ⟨hilg, holg⟩, ⟨cg0, cg1, cg2, cg3, cg4, cg5, cg6⟩, hTg, hWg, ⟨pg1, pg2, pg3, pg4⟩, hbd⟩ := hcut
        subst hilg holg
        have hbad : Below wa.heap.size wa wd := bel_trans hbac hbd
        have zd := hbd.size
        have dw0 : wd.cell? ⟨Bw, 0, none⟩ = some (.slice iaw D.ins.length icw) := (hbad.cell (p := ⟨Bw, 0, none⟩) pw3).trans cw0
        have dw1 : wd.cell? ⟨Bw, 1, none⟩ = some (.int .i64 om) := (hbad.cell (p := ⟨Bw, 1, none⟩) pw3).trans cw1
        have dw2 : wd.cell? ⟨Bw, 2, none⟩ = some (.slice oaw D.rows.length ocw) := (hbad.cell (p := ⟨Bw, 2, none⟩) pw3).trans cw2
        have dw3 : wd.cell? ⟨Bw, 3, none⟩ = some (.int .i64 0) := (hbad.cell (p := ⟨Bw, 3, none⟩) pw3).trans cw3
        have dw4 : wd.cell? ⟨Bw, 4, none⟩ = some (.int .i64 0) := (hbad.cell (p := ⟨Bw, 4, none⟩) pw3).trans cw4
        have dw5 : wd.cell? ⟨Bw, 5, none⟩ = some (.slice none 0 0) := (hbad.cell (p := ⟨Bw, 5, none⟩) pw3).trans cw5
        have dw6 : wd.cell? ⟨Bw, 6, none⟩ = some (.slice none 0 0) := (hbad.cell (p := ⟨Bw, 6, none⟩) pw3).trans cw6
        go_wp2_with fail
        refine (eqTk_any _ _ iag iaw D.ins.length icg icw om oag oaw D.rows.length ocg ocw 0 0 none none 0 0 0 none none 0 0 0 D _ hTg (hTw.below hbad)).mono ?_
        rintro e' we ⟨rfl, hbe⟩
        have hbae : Below wa.heap.size wa we := bel_trans hbad hbe
        have hb1e : Below w1.heap.size w1 we := bel_trans hba hbae
        have hbce : Below wc.heap.size wc we := bel_trans hbd hbe
        have ze := hbe.size
        clear dw0 dw1 dw2 dw3 dw4 dw5 dw6
        have hS2 : ((we.cell? ⟨wb.heap.size, 0, none⟩ = some (.int .i64 m) ∧ we.cell? ⟨wb.heap.size, 1, none⟩ = some (.slice (some ⟨g1, 0, none⟩) len0 len0) ∧ we.cell? ⟨w.heap.size + 1, 0, none⟩ = some (.int .i64 m) ∧ we.cell? ⟨w.heap.size + 1, 1, none⟩ = some (.slice a0 len0 cap0)) ∧ wb.heap.size < we.heap.size ∧ w.heap.size + 1 < we.heap.size) := by
          obtain ⟨⟨s0, s1, s2, s3, s4, s5, s6, s7, s8, s9, s10, s11⟩, yd, ye⟩ := hd_10_2 hS0 hb1e
          exact ⟨⟨(hbce.cell (p := ⟨wb.heap.size, 0, none⟩) yc).trans hXc0, (hbce.cell (p := ⟨wb.heap.size, 1, none⟩) yc).trans hXc1, s10, s11⟩, by omega, ye⟩
        have hG1e := hG1c.below hbce
        go_wp2_with fail
        go_region_held3 (fun W => ((W.cell? ⟨wb.heap.size, 0, none⟩ = some (.int .i64 m) ∧ W.cell? ⟨wb.heap.size, 1, none⟩ = some (.slice (some ⟨g1, 0, none⟩) len0 len0) ∧ W.cell? ⟨w.heap.size + 1, 0, none⟩ = some (.int .i64 m) ∧ W.cell? ⟨w.heap.size + 1, 1, none⟩ = some (.slice a0 len0 cap0)) ∧ wb.heap.size < W.heap.size ∧ w.heap.size + 1 < W.heap.size)) ((first | ((repeat (first | (with_reducible assumption) | (with_reducible refine hd_2_2 ?_ (by with_reducible assumption)) | (with_reducible refine hd_2_2 ?_ (bel_drew (Below.refl _ _))) | (with_reducible exact hd_2_2_re (by with_reducible assumption) (by first | omega | (simp; done) | (simp; omega)) (by first | omega | (simp; done) | (simp; omega))) | (with_reducible refine hd_2_2 ?_ (bel_one _ _)) | (with_reducible refine hd_2_2_set ?_ (by first | omega | (simp; done) | (simp; omega)) (by first | omega | (simp; done) | (simp; omega)) _))); done) | (refine ⟨⟨?_, ?_, ?_, ?_⟩, ?_, ?_⟩ <;> first | (go_keep; done) | (simp; done) | (simp; omega) | omega)))
          (first
          | (go_at_call 10; refine (toSt_any m a0 len0 cap0 z0 _ ((HO.below hb1e).below (by repeat (first | (with_reducible exact Below.refl _ _) | (with_reducible assumption) | (with_reducible refine bel_set ?_ (by first | (simp; done) | (simp; omega)) _) | (with_reducible refine bel_alloc ?_ _) | (with_reducible refine bel_drew ?_) | (with_reducible refine bel_drewN ?_ _) | (with_reducible refine bel_trans ?_ (by with_reducible assumption))))) hl0).mono ?_; rintro e' wf1 ⟨af, rfl, hOf, _, _, hbf1⟩; obtain ⟨hcf, hff, hsf⟩ := bcell hbf1)
          | (go_at_call 14; refine (eqSt_any m (some ⟨g1, 0, none⟩) af len0 len0 len0 z0 _ (hG1e.rs.below (by repeat (first | (with_reducible exact Below.refl _ _) | (with_reducible assumption) | (with_reducible refine bel_set ?_ (by first | (simp; done) | (simp; omega)) _) | (with_reducible refine bel_alloc ?_ _) | (with_reducible refine bel_drew ?_) | (with_reducible refine bel_drewN ?_ _) | (with_reducible refine bel_trans ?_ (by with_reducible assumption))))) (hOf.below (by repeat (first | (with_reducible exact Below.refl _ _) | (with_reducible assumption) | (with_reducible refine bel_set ?_ (by first | (simp; done) | (simp; omega)) _) | (with_reducible refine bel_alloc ?_ _) | (with_reducible refine bel_drew ?_) | (with_reducible refine bel_drewN ?_ _) | (with_reducible refine bel_trans ?_ (by with_reducible assumption)))))).mono ?_; rintro e' wf ⟨rfl, hbf2⟩))
        have hbef : Below we.heap.size we wf := (by repeat (first | (with_reducible exact Below.refl _ _) | (with_reducible assumption) | (with_reducible refine bel_set ?_ (by first | (simp; done) | (simp; omega)) _) | (with_reducible refine bel_alloc ?_ _) | (with_reducible refine bel_drew ?_) | (with_reducible refine bel_drewN ?_ _) | (with_reducible refine bel_trans ?_ (by with_reducible assumption))))
        have zf := hbef.size
        (try clear hcf hff hsf)
        have hI2f := (hI2.below hbce).below hbef
        go_wp2_with fail
        refine (toIn_any a1 len1 cap1 z1 _ ((HI.below hb1e).below hbef) hl1).mono ?_
        rintro e' wg ⟨a3, rfl, hI3, _, _, hbg⟩
        go_wp2_with fail
        refine (eqIn_any a2 a3 len1 len1 len1 z1 _ (hI2f.below hbg) hI3).mono ?_
        rintro e' wh ⟨rfl, hbh⟩
        have hbeh : Below we.heap.size we wh := bel_trans hbef (bel_trans hbg hbh)
        have hbch : Below wc.heap.size wc wh := bel_trans hbce hbeh
        have hbdh : Below wd.heap.size wd wh := bel_trans hbe hbeh
        have hbah : Below wa.heap.size wa wh := bel_trans hbae hbeh
        have zh := hbeh.size
        have hx0 : wh.cell? ⟨wb.heap.size, 0, none⟩ = some (.int .i64 m) := (hbch.cell (p := ⟨wb.heap.size, 0, none⟩) yc).trans hXc0
        have hx1 : wh.cell? ⟨wb.heap.size, 1, none⟩ = some (.slice (some ⟨g1, 0, none⟩) len0 len0) := (hbch.cell (p := ⟨wb.heap.size, 1, none⟩) yc).trans hXc1
        go_wp2_with fail
        refine (markStK_any 1 (by omega) (by omega) m (some ⟨g1, 0, none⟩) len0 len0 _ (hG1c.below hbch).wr hl0).mono ?_
        rintro e' wi ⟨rfl, _, hK1⟩
        have zi := hK1.size
        have r1 : ∀ b, rowOr (some ⟨g1, 0, none⟩) len0 = some b → b = g1 := fun b hb => by
          by_cases hz : len0 = 0
          · rw [hz, rowOr_zero] at hb; cases hb
          · rw [rowOr_pos hz] at hb; cases hb; rfl
        have r2 : ∀ b, rowIn a2 len1 = some b → (wb.alloc (.cells #[.int .i64 m, .slice (some ⟨g1, 0, none⟩) len0 len0] 32)).heap.size ≤ b ∧ b < wc.heap.size := fun b hb => by
          by_cases hz : len1 = 0
          · unfold rowIn at hb; rw [if_pos hz] at hb; cases hb
          · obtain ⟨g3, ha3, hB3⟩ := hW2.resolve_left hz
            rw [ha3, rowIn_pos hz] at hb
            cases hb
            exact ⟨hge2 _ 0 (by omega) ha3, hB3.lt⟩
        clear hx0 hx1
        go_wp2_with fail
        refine (markIn_any (1 + 13 * (len0 : Int)) (by omega) (by omega) a2 len1 len1 _ ((hW2.below hbch).keepB hK1 (fun b hb hT => by have h8 := r1 b hT; have h9 := (r2 b hb).1; simp at h9; omega)) hl1).mono ?_
        rintro e' wj ⟨rfl, _, hK2⟩
        have zj := hK2.size
        have hlow1 : ∀ b, rowOr (some ⟨g1, 0, none⟩) len0 = some b → b < Btg := fun b hb => by have := r1 b hb; omega
        have hlow2 : ∀ b, rowIn a2 len1 = some b → b < Btg := fun b hb => by have := (r2 b hb).2; omega
        have hTg2 := ((hTg.below hbdh).keepLow hK1 hlow1).keepLow hK2 hlow2
        have hWg1 := WrTk.keepLow (hTg.below hbdh) (hWg.below hbdh) hK1 hlow1
        have hWg2 := WrTk.keepLow ((hTg.below hbdh).keepLow hK1 hlow1) hWg1 hK2 hlow2
        have hbaj : Below wa.heap.size wa wj := Kept.bel (Kept.bel hbah hbah.size hK1 (fun b hb => by have := r1 b hb; omega)) (by omega) hK2 (fun b hb => by have h9 := (r2 b hb).1; simp at h9; have h8 := hbb1.size; omega)
        have hcg : ∀ k, wj.cell? ⟨Bg, k, none⟩ = wd.cell? ⟨Bg, k, none⟩ := fun k => (hK2.cell (by omega) (fun hT => by have := (r2 _ hT).2; omega)).trans ((hK1.cell (by omega) (fun hT => by have := r1 _ hT; omega)).trans (hbdh.cell (p := ⟨Bg, k, none⟩) pg3))
        have ew0 : wj.cell? ⟨Bw, 0, none⟩ = some (.slice iaw D.ins.length icw) := (hbaj.cell (p := ⟨Bw, 0, none⟩) pw3).trans cw0
        have ew1 : wj.cell? ⟨Bw, 1, none⟩ = some (.int .i64 om) := (hbaj.cell (p := ⟨Bw, 1, none⟩) pw3).trans cw1
        have ew2 : wj.cell? ⟨Bw, 2, none⟩ = some (.slice oaw D.rows.length ocw) := (hbaj.cell (p := ⟨Bw, 2, none⟩) pw3).trans cw2
        have ew3 : wj.cell? ⟨Bw, 3, none⟩ = some (.int .i64 0) := (hbaj.cell (p := ⟨Bw, 3, none⟩) pw3).trans cw3
        have ew4 : wj.cell? ⟨Bw, 4, none⟩ = some (.int .i64 0) := (hbaj.cell (p := ⟨Bw, 4, none⟩) pw3).trans cw4
        have ew5 : wj.cell? ⟨Bw, 5, none⟩ = some (.slice none 0 0) := (hbaj.cell (p := ⟨Bw, 5, none⟩) pw3).trans cw5
        have ew6 : wj.cell? ⟨Bw, 6, none⟩ = some (.slice none 0 0) := (hbaj.cell (p := ⟨Bw, 6, none⟩) pw3).trans cw6
        have eg0 : wj.cell? ⟨Bg, 0, none⟩ = some (.slice iag D.ins.length icg) := (hcg 0).trans cg0
        have eg1 : wj.cell? ⟨Bg, 1, none⟩ = some (.int .i64 om) := (hcg 1).trans cg1
        have eg2 : wj.cell? ⟨Bg, 2, none⟩ = some (.slice oag D.rows.length ocg) := (hcg 2).trans cg2
        have eg3 : wj.cell? ⟨Bg, 3, none⟩ = some (.int .i64 0) := (hcg 3).trans cg3
        have eg4 : wj.cell? ⟨Bg, 4, none⟩ = some (.int .i64 0) := (hcg 4).trans cg4
        have eg5 : wj.cell? ⟨Bg, 5, none⟩ = some (.slice none 0 0) := (hcg 5).trans cg5
        have eg6 : wj.cell? ⟨Bg, 6, none⟩ = some (.slice none 0 0) := (hcg 6).trans cg6
        have hnk : ¬ (1 + 13 * (len0 : Int) + (len1 : Int) < 0) := by omega
        have hnk' : decide (1 + 13 * (len0 : Int) + (len1 : Int) < 0) = false := decide_eq_false hnk
        clear hcg
        go_wp2_with fail
        refine (eqTk_any _ _ iag iaw D.ins.length icg icw om oag oaw D.rows.length ocg ocw 0 0 none none 0 0 0 none none 0 0 0 D _ hTg2 (hTw.below hbaj)).mono ?_
        rintro e' wk ⟨rfl, hbk⟩
        have hbak : Below wa.heap.size wa wk := bel_trans hbaj hbk
        have hWg3 := hWg2.below hbk
        have hTg3 := hTg2.below hbk
        have zk := hbk.size
        have hgS := tkS_ge hTg3 hWg3
        have fg0 : wk.cell? ⟨Bg, 0, none⟩ = some (.slice iag D.ins.length icg) := (hbk.cell (p := ⟨Bg, 0, none⟩) (by show Bg < wj.heap.size; omega)).trans eg0
        have fg1 : wk.cell? ⟨Bg, 1, none⟩ = some (.int .i64 om) := (hbk.cell (p := ⟨Bg, 1, none⟩) (by show Bg < wj.heap.size; omega)).trans eg1
        have fg2 : wk.cell? ⟨Bg, 2, none⟩ = some (.slice oag D.rows.length ocg) := (hbk.cell (p := ⟨Bg, 2, none⟩) (by show Bg < wj.heap.size; omega)).trans eg2
        have fg3 : wk.cell? ⟨Bg, 3, none⟩ = some (.int .i64 0) := (hbk.cell (p := ⟨Bg, 3, none⟩) (by show Bg < wj.heap.size; omega)).trans eg3
        have fg4 : wk.cell? ⟨Bg, 4, none⟩ = some (.int .i64 0) := (hbk.cell (p := ⟨Bg, 4, none⟩) (by show Bg < wj.heap.size; omega)).trans eg4
        have fg5 : wk.cell? ⟨Bg, 5, none⟩ = some (.slice none 0 0) := (hbk.cell (p := ⟨Bg, 5, none⟩) (by show Bg < wj.heap.size; omega)).trans eg5
        have fg6 : wk.cell? ⟨Bg, 6, none⟩ = some (.slice none 0 0) := (hbk.cell (p := ⟨Bg, 6, none⟩) (by show Bg < wj.heap.size; omega)).trans eg6
        clear ew0 eg0 ew1 eg1 ew2 eg2 ew3 eg3 ew4 eg4 ew5 eg5 ew6 eg6
        obtain ⟨KT, hKT⟩ : ∃ KT, kTk (qvs D.ins) D.rows.length 0 0 = KT := ⟨_, rfl⟩
        have hKT0 : 0 ≤ KT := by rw [← hKT]; unfold kTk; have := kUp_all 1 (qvs D.ins) hWg3.ti.lim (by rw [hWg3.ti.len]; exact hWg3.lims.1); omega
        go_wp2_with fail
        refine (markTk_any iag D.ins.length icg om oag D.rows.length ocg 0 0 none 0 0 none 0 0 (qvs D.ins) _ hWg3).mono ?_
        rw [hKT]
        rintro e' wl ⟨rfl, hM, hK3⟩
        have zl := hK3.size
        have hbal : Below wa.heap.size wa wl := Kept.bel hbak hbak.size hK3 (fun b hb => by have := hgS b hb; have h8 := hbac.size; omega)
        have hg0 : wl.cell? ⟨Bg, 0, none⟩ = some (.slice iag D.ins.length icg) := (hK3.cell (by omega) pg4).trans fg0
        have hg1 : wl.cell? ⟨Bg, 1, none⟩ = some (.int .i64 om) := (hK3.cell (by omega) pg4).trans fg1
        have hg2 : wl.cell? ⟨Bg, 2, none⟩ = some (.slice oag D.rows.length ocg) := (hK3.cell (by omega) pg4).trans fg2
        have hg3 : wl.cell? ⟨Bg, 3, none⟩ = some (.int .i64 0) := (hK3.cell (by omega) pg4).trans fg3
        have hg4 : wl.cell? ⟨Bg, 4, none⟩ = some (.int .i64 0) := (hK3.cell (by omega) pg4).trans fg4
        have hg5 : wl.cell? ⟨Bg, 5, none⟩ = some (.slice none 0 0) := (hK3.cell (by omega) pg4).trans fg5
        have hg6 : wl.cell? ⟨Bg, 6, none⟩ = some (.slice none 0 0) := (hK3.cell (by omega) pg4).trans fg6
        clear fg0 fg1 fg2 fg3 fg4 fg5 fg6
        go_wp2_with fail
        refine (heldTk_any iag D.ins.length icg om oag D.rows.length ocg 0 0 none 0 0 none 0 0 (qvs D.ins) _ hM).mono ?_
        rw [hKT]
        rintro e' wm ⟨rfl, hbm⟩
        have zm := hbm.size
        have hbam : Below wa.heap.size wa wm := bel_trans hbal hbm
        have hb1m : Below w1.heap.size w1 wm := bel_trans hba hbam
        have hM2 := hM.below hbm
        have hS5 := hd_10_2 hS0 hb1m
        have jg0 : wm.cell? ⟨Bg, 0, none⟩ = some (.slice iag D.ins.length icg) := (hbm.cell (p := ⟨Bg, 0, none⟩) (by show Bg < wl.heap.size; omega)).trans hg0
        have jg1 : wm.cell? ⟨Bg, 1, none⟩ = some (.int .i64 om) := (hbm.cell (p := ⟨Bg, 1, none⟩) (by show Bg < wl.heap.size; omega)).trans hg1
        have jg2 : wm.cell? ⟨Bg, 2, none⟩ = some (.slice oag D.rows.length ocg) := (hbm.cell (p := ⟨Bg, 2, none⟩) (by show Bg < wl.heap.size; omega)).trans hg2
        have jg3 : wm.cell? ⟨Bg, 3, none⟩ = some (.int .i64 0) := (hbm.cell (p := ⟨Bg, 3, none⟩) (by show Bg < wl.heap.size; omega)).trans hg3
        have jg4 : wm.cell? ⟨Bg, 4, none⟩ = some (.int .i64 0) := (hbm.cell (p := ⟨Bg, 4, none⟩) (by show Bg < wl.heap.size; omega)).trans hg4
        have jg5 : wm.cell? ⟨Bg, 5, none⟩ = some (.slice none 0 0) := (hbm.cell (p := ⟨Bg, 5, none⟩) (by show Bg < wl.heap.size; omega)).trans hg5
        have jg6 : wm.cell? ⟨Bg, 6, none⟩ = some (.slice none 0 0) := (hbm.cell (p := ⟨Bg, 6, none⟩) (by show Bg < wl.heap.size; omega)).trans hg6
        clear hg0 hg1 hg2 hg3 hg4 hg5 hg6
        have HO0 := HO
        have HI0 := HI
        replace HO := HO.below hb1m
        replace HI := HI.below hb1m
        have hKn : ¬ KT < 0 := by omega
        have hKn' : decide (KT < 0) = false := decide_eq_false hKn
        go_wp2_with fail
        go_cut [15] (fun pv W => BoxP wm D om pv W)
        case first =>
          refine wp_region_held_drew (S := (fun W => ((W.cell? ⟨w.heap.size, 0, none⟩ = some (.int .i64 s) ∧ W.cell? ⟨w.heap.size, 1, none⟩ = some (.int .i64 t) ∧ W.cell? ⟨w.heap.size, 2, none⟩ = some (.int .i64 k) ∧ W.cell? ⟨w.heap.size, 3, none⟩ = some (.int .i64 z) ∧ W.cell? ⟨w.heap.size, 4, none⟩ = some (.int .i64 p) ∧ W.cell? ⟨w.heap.size, 5, none⟩ = some (.int .i64 l) ∧ W.cell? ⟨w.heap.size, 6, none⟩ = some (.int .i64 e) ∧ W.cell? ⟨w.heap.size, 7, none⟩ = some (.bool b) ∧ W.cell? ⟨w.heap.size, 8, none⟩ = some (.int .i64 v) ∧ W.cell? ⟨w.heap.size, 9, none⟩ = some (.int .i64 r) ∧ W.cell? ⟨w.heap.size + 1, 0, none⟩ = some (.int .i64 m) ∧ W.cell? ⟨w.heap.size + 1, 1, none⟩ = some (.slice a0 len0 cap0)) ∧ w.heap.size < W.heap.size ∧ w.heap.size + 1 < W.heap.size))) (by kernel_rfl) ?_ (fun hHeld => ?_)
          · (try dsimp only); exact hd_10_2 hS5 (by repeat (first | (with_reducible exact Below.refl _ _) | (with_reducible assumption) | (with_reducible refine bel_set ?_ (by first | (simp; done) | (simp; omega)) _) | (with_reducible refine bel_alloc ?_ _) | (with_reducible refine bel_drew ?_) | (with_reducible refine bel_drewN ?_ _) | (with_reducible refine bel_trans ?_ (by with_reducible assumption))))
          refine wpAnyH_take (i := 0) (v := ?_) (by simp only [List.getElem?_toArray, List.getElem?_cons_zero, List.getElem?_cons_succ]; rfl) (by kernel_rfl) (by kernel_rfl) (by kernel_rfl) (by intro _ _ _ h; exact h) (Or.inl ⟨by rfl, ?_⟩) (by assumption) ?_
          rotate_left
          · (intro w9 hSw; (try dsimp only at hSw); go_simp <;> with_reducible rfl)
          try simp only [Act.put, List.setIfInBounds_toArray, List.set_cons_zero, List.set_cons_succ]
          refine wpAnyH_take (i := 2) (v := ?_) (by simp only [List.getElem?_toArray, List.getElem?_cons_zero, List.getElem?_cons_succ]; rfl) (by kernel_rfl) (by kernel_rfl) (by kernel_rfl) (by intro _ _ _ h; exact h) (Or.inl ⟨by rfl, ?_⟩) (by assumption) ?_
          rotate_left
          · (intro w9 hSw; (try dsimp only at hSw); go_simp <;> with_reducible rfl)
          try simp only [Act.put, List.setIfInBounds_toArray, List.set_cons_zero, List.set_cons_succ]
          refine wpAnyH_take (i := 4) (v := ?_) (by simp only [List.getElem?_toArray, List.getElem?_cons_zero, List.getElem?_cons_succ]; rfl) (by kernel_rfl) (by kernel_rfl) (by kernel_rfl) (by intro _ _ _ h; exact h) (Or.inl ⟨by rfl, ?_⟩) (by assumption) ?_
          rotate_left
          · (intro w9 hSw; (try dsimp only at hSw); go_simp <;> with_reducible rfl)
          try simp only [Act.put, List.setIfInBounds_toArray, List.set_cons_zero, List.set_cons_succ]
          refine wpAnyH_ready (rs := [1, 7]) (by kernel_rfl) (by simp) ?_
          refine AllReadyH.cons (by simp only [List.getElem?_toArray, List.getElem?_cons_zero, List.getElem?_cons_succ]; rfl) (fun K hK => ?_) ?_
          · go_simp
            (go_at_call 9; refine (toJob_any _ _ _ _ _ _ _ _ _ _ _).mono ?_; rintro e' rj ⟨rfl, hbrj⟩)
            (try go_wp2_with fail)
            have szrj := hbrj.size
            (try simp at szrj)
            refine hK.out _ _ ?_ (fun hHeld2 => ?_)
            · (try dsimp only); exact hd_10_2 hS5 (by repeat (first | (with_reducible exact Below.refl _ _) | (with_reducible assumption) | (with_reducible refine bel_set ?_ (by first | (simp; done) | (simp; omega)) _) | (with_reducible refine bel_alloc ?_ _) | (with_reducible refine bel_drew ?_) | (with_reducible refine bel_drewN ?_ _) | (with_reducible refine bel_trans ?_ (by with_reducible assumption))))
            clear hK K hHeld
            have hHeld := hHeld2
            clear hHeld2
            try simp only [Act.put, List.setIfInBounds_toArray, List.set_cons_zero, List.set_cons_succ]
            refine wpAnyH_ready (rs := [3, 7]) (by kernel_rfl) (by simp) ?_
            refine AllReadyH.cons (by simp only [List.getElem?_toArray, List.getElem?_cons_zero, List.getElem?_cons_succ]; rfl) (fun K hK => ?_) ?_
            · go_simp
              (go_at_call 10; refine (toStG_any m a0 len0 cap0 z0 _ (HO.below (by repeat (first | (with_reducible exact Below.refl _ _) | (with_reducible assumption) | (with_reducible refine bel_set ?_ (by first | (simp; done) | (simp; omega)) _) | (with_reducible refine bel_alloc ?_ _) | (with_reducible refine bel_drew ?_) | (with_reducible refine bel_drewN ?_ _) | (with_reducible refine bel_trans ?_ (by with_reducible assumption))))) hl0).mono ?_; rintro e' ro ⟨go, rfl, hGo, hgo, hbro⟩)
              (try go_wp2_with fail)
              have szro := hbro.size
              (try simp at szro)
              refine hK.out _ _ ?_ (fun hHeld2 => ?_)
              · (try dsimp only); exact hd_10_2 hS5 (by repeat (first | (with_reducible exact Below.refl _ _) | (with_reducible assumption) | (with_reducible refine bel_set ?_ (by first | (simp; done) | (simp; omega)) _) | (with_reducible refine bel_alloc ?_ _) | (with_reducible refine bel_drew ?_) | (with_reducible refine bel_drewN ?_ _) | (with_reducible refine bel_trans ?_ (by with_reducible assumption))))
              clear hK K hHeld
              have hHeld := hHeld2
              clear hHeld2
              try simp only [Act.put, List.setIfInBounds_toArray, List.set_cons_zero, List.set_cons_succ]
              refine wpAnyH_ready (rs := [5, 7]) (by kernel_rfl) (by simp) ?_
              refine AllReadyH.cons (by simp only [List.getElem?_toArray, List.getElem?_cons_zero, List.getElem?_cons_succ]; rfl) (fun K hK => ?_) ?_
              · go_simp
                (go_at_call 11; refine (toIn_any a1 len1 cap1 z1 _ (HI.below (by repeat (first | (with_reducible exact Below.refl _ _) | (with_reducible assumption) | (with_reducible refine bel_set ?_ (by first | (simp; done) | (simp; omega)) _) | (with_reducible refine bel_alloc ?_ _) | (with_reducible refine bel_drew ?_) | (with_reducible refine bel_drewN ?_ _) | (with_reducible refine bel_trans ?_ (by with_reducible assumption))))) hl1).mono ?_; rintro e' ri ⟨ai, rfl, hIi, _, _, hbri⟩)
                (try go_wp2_with fail)
                have szri := hbri.size
                (try simp at szri)
                refine hK.out _ _ ?_ (fun hHeld2 => ?_)
                · (try dsimp only); exact hd_10_2 hS5 (by repeat (first | (with_reducible exact Below.refl _ _) | (with_reducible assumption) | (with_reducible refine bel_set ?_ (by first | (simp; done) | (simp; omega)) _) | (with_reducible refine bel_alloc ?_ _) | (with_reducible refine bel_drew ?_) | (with_reducible refine bel_drewN ?_ _) | (with_reducible refine bel_trans ?_ (by with_reducible assumption))))
                clear hK K hHeld
                have hHeld := hHeld2
                clear hHeld2
                try simp only [Act.put, List.setIfInBounds_toArray, List.set_cons_zero, List.set_cons_succ]
                refine wpAnyH_ready (rs := [6, 7]) (by kernel_rfl) (by simp) ?_
                refine AllReadyH.cons (by simp only [List.getElem?_toArray, List.getElem?_cons_zero, List.getElem?_cons_succ]; rfl) (fun K hK => ?_) ?_
                · go_simp
                  (go_at_call 12; refine (implnew_eq s t k z p l e b v r m go len0 len0 ai len1 len1 z0 z1 _ (hGo.below (by repeat (first | (with_reducible exact Below.refl _ _) | (with_reducible assumption) | (with_reducible refine bel_set ?_ (by first | (simp; done) | (simp; omega)) _) | (with_reducible refine bel_alloc ?_ _) | (with_reducible refine bel_drew ?_) | (with_reducible refine bel_drewN ?_ _) | (with_reducible refine bel_trans ?_ (by with_reducible assumption))))) (hIi.below (by repeat (first | (with_reducible exact Below.refl _ _) | (with_reducible assumption) | (with_reducible refine bel_set ?_ (by first | (simp; done) | (simp; omega)) _) | (with_reducible refine bel_alloc ?_ _) | (with_reducible refine bel_drew ?_) | (with_reducible refine bel_drewN ?_ _) | (with_reducible refine bel_trans ?_ (by with_reducible assumption))))) hl0 hl1 hN).mono ?_; rintro e' rn ⟨ia, il, ic, oa, ol, oc, ⟨rfl, rfl⟩, rfl, hT, hW, hbrn⟩)
                  (try go_wp2_with fail)
                  have szrn := hbrn.size
                  (try simp at szrn)
                  refine hK.out _ _ ?_ (fun hHeld2 => ?_)
                  · (try dsimp only); exact hd_10_2 hS5 (by repeat (first | (with_reducible exact Below.refl _ _) | (with_reducible assumption) | (with_reducible refine bel_set ?_ (by first | (simp; done) | (simp; omega)) _) | (with_reducible refine bel_alloc ?_ _) | (with_reducible refine bel_drew ?_) | (with_reducible refine bel_drewN ?_ _) | (with_reducible refine bel_trans ?_ (by with_reducible assumption))))
                  clear hK K hHeld
                  have hHeld := hHeld2
                  clear hHeld2
                  try simp only [Act.put, List.setIfInBounds_toArray, List.set_cons_zero, List.set_cons_succ]
                  refine wpAnyH_ready (rs := [7]) (by kernel_rfl) (by simp) ?_
                  refine AllReadyH.cons (by simp only [List.getElem?_toArray, List.getElem?_cons_zero, List.getElem?_cons_succ]; rfl) (fun K hK => ?_) AllReadyH.nil
                  go_simp
                  refine hK.out _ _ ?_ (fun hHeld2 => ?_)
                  · (try dsimp only); exact hd_10_2 hS5 (by repeat (first | (with_reducible exact Below.refl _ _) | (with_reducible assumption) | (with_reducible refine bel_set ?_ (by first | (simp; done) | (simp; omega)) _) | (with_reducible refine bel_alloc ?_ _) | (with_reducible refine bel_drew ?_) | (with_reducible refine bel_drewN ?_ _) | (with_reducible refine bel_trans ?_ (by with_reducible assumption))))
                  clear hK K hHeld
                  have hHeld := hHeld2
                  clear hHeld2
                  try simp only [Act.put, List.setIfInBounds_toArray, List.set_cons_zero, List.set_cons_succ]
                  refine wpAnyH_ready (rs := [8]) (by kernel_rfl) (by simp) ?_
                  refine AllReadyH.cons (by simp only [List.getElem?_toArray, List.getElem?_cons_zero, List.getElem?_cons_succ]; rfl) (fun K hK => ?_) AllReadyH.nil
                  go_simp
                  refine hK.out _ _ ?_ (fun hHeld2 => ?_)
                  · (try dsimp only); exact hd_10_2 hS5 (by repeat (first | (with_reducible exact Below.refl _ _) | (with_reducible assumption) | (with_reducible refine bel_set ?_ (by first | (simp; done) | (simp; omega)) _) | (with_reducible refine bel_alloc ?_ _) | (with_reducible refine bel_drew ?_) | (with_reducible refine bel_drewN ?_ _) | (with_reducible refine bel_trans ?_ (by with_reducible assumption))))
                  clear hK K hHeld
                  have hHeld := hHeld2
                  clear hHeld2
                  try simp only [Act.put, List.setIfInBounds_toArray, List.set_cons_zero, List.set_cons_succ]
                  refine wpAnyH_done (by kernel_rfl) ?_ _
                  go_wp2
                  go_meet
                  exact boxLate ⟨rfl, rfl⟩ hT hW (by first | (simp; done) | (simp; omega) | omega) (by repeat (first | (with_reducible exact Below.refl _ _) | (with_reducible assumption) | (with_reducible refine bel_set ?_ (by first | (simp; done) | (simp; omega)) _) | (with_reducible refine bel_alloc ?_ _) | (with_reducible refine bel_drew ?_) | (with_reducible refine bel_drewN ?_ _) | (with_reducible refine bel_trans ?_ (by with_reducible assumption))))
                refine AllReadyH.cons (by simp only [List.getElem?_toArray, List.getElem?_cons_zero, List.getElem?_cons_succ]; rfl) (fun K hK => ?_) AllReadyH.nil
                go_simp
                refine hK.out _ _ ?_ (fun hHeld2 => ?_)
                · (try dsimp only); exact hd_10_2 hS5 (by repeat (first | (with_reducible exact Below.refl _ _) | (with_reducible assumption) | (with_reducible refine bel_set ?_ (by first | (simp; done) | (simp; omega)) _) | (with_reducible refine bel_alloc ?_ _) | (with_reducible refine bel_drew ?_) | (with_reducible refine bel_drewN ?_ _) | (with_reducible refine bel_trans ?_ (by with_reducible assumption))))
                clear hK K hHeld
                have hHeld := hHeld2
                clear hHeld2
                try simp only [Act.put, List.setIfInBounds_toArray, List.set_cons_zero, List.set_cons_succ]
                refine wpAnyH_ready (rs := [6]) (by kernel_rfl) (by simp) ?_
                refine AllReadyH.cons (by simp only [List.getElem?_toArray, List.getElem?_cons_zero, List.getElem?_cons_succ]; rfl) (fun K hK => ?_) AllReadyH.nil
                go_simp
                (go_at_call 12; refine (implnew_eq s t k z p l e b v r m go len0 len0 ai len1 len1 z0 z1 _ (hGo.below (by repeat (first | (with_reducible exact Below.refl _ _) | (with_reducible assumption) | (with_reducible refine bel_set ?_ (by first | (simp; done) | (simp; omega)) _) | (with_reducible refine bel_alloc ?_ _) | (with_reducible refine bel_drew ?_) | (with_reducible refine bel_drewN ?_ _) | (with_reducible refine bel_trans ?_ (by with_reducible assumption))))) (hIi.below (by repeat (first | (with_reducible exact Below.refl _ _) | (with_reducible assumption) | (with_reducible refine bel_set ?_ (by first | (simp; done) | (simp; omega)) _) | (with_reducible refine bel_alloc ?_ _) | (with_reducible refine bel_drew ?_) | (with_reducible refine bel_drewN ?_ _) | (with_reducible refine bel_trans ?_ (by with_reducible assumption))))) hl0 hl1 hN).mono ?_; rintro e' rn ⟨ia, il, ic, oa, ol, oc, ⟨rfl, rfl⟩, rfl, hT, hW, hbrn⟩)
                (try go_wp2_with fail)
                have szrn := hbrn.size
                (try simp at szrn)
                have zc0 : rn.cell? ⟨ri.heap.size, 0, none⟩ = some (.slice none 0 0) := (hbrn.cell (p := ⟨ri.heap.size, 0, none⟩) (by first | (simp; done) | (simp; omega) | omega)).trans (by simp [go_sem])
                have zf0 : rn.frozen? ⟨ri.heap.size, 0, none⟩ = false := (hbrn.frozen (p := ⟨ri.heap.size, 0, none⟩) (by first | (simp; done) | (simp; omega) | omega)).trans (by simp [go_sem])
                have zc1 : rn.cell? ⟨ri.heap.size, 1, none⟩ = some (.int .i64 0) := (hbrn.cell (p := ⟨ri.heap.size, 1, none⟩) (by first | (simp; done) | (simp; omega) | omega)).trans (by simp [go_sem])
                have zf1 : rn.frozen? ⟨ri.heap.size, 1, none⟩ = false := (hbrn.frozen (p := ⟨ri.heap.size, 1, none⟩) (by first | (simp; done) | (simp; omega) | omega)).trans (by simp [go_sem])
                have zc2 : rn.cell? ⟨ri.heap.size, 2, none⟩ = some (.slice none 0 0) := (hbrn.cell (p := ⟨ri.heap.size, 2, none⟩) (by first | (simp; done) | (simp; omega) | omega)).trans (by simp [go_sem])
                have zf2 : rn.frozen? ⟨ri.heap.size, 2, none⟩ = false := (hbrn.frozen (p := ⟨ri.heap.size, 2, none⟩) (by first | (simp; done) | (simp; omega) | omega)).trans (by simp [go_sem])
                have zc3 : rn.cell? ⟨ri.heap.size, 3, none⟩ = some (.int .i64 0) := (hbrn.cell (p := ⟨ri.heap.size, 3, none⟩) (by first | (simp; done) | (simp; omega) | omega)).trans (by simp [go_sem])
                have zf3 : rn.frozen? ⟨ri.heap.size, 3, none⟩ = false := (hbrn.frozen (p := ⟨ri.heap.size, 3, none⟩) (by first | (simp; done) | (simp; omega) | omega)).trans (by simp [go_sem])
                have zc4 : rn.cell? ⟨ri.heap.size, 4, none⟩ = some (.int .i64 0) := (hbrn.cell (p := ⟨ri.heap.size, 4, none⟩) (by first | (simp; done) | (simp; omega) | omega)).trans (by simp [go_sem])
                have zf4 : rn.frozen? ⟨ri.heap.size, 4, none⟩ = false := (hbrn.frozen (p := ⟨ri.heap.size, 4, none⟩) (by first | (simp; done) | (simp; omega) | omega)).trans (by simp [go_sem])
                have zc5 : rn.cell? ⟨ri.heap.size, 5, none⟩ = some (.slice none 0 0) := (hbrn.cell (p := ⟨ri.heap.size, 5, none⟩) (by first | (simp; done) | (simp; omega) | omega)).trans (by simp [go_sem])
                have zf5 : rn.frozen? ⟨ri.heap.size, 5, none⟩ = false := (hbrn.frozen (p := ⟨ri.heap.size, 5, none⟩) (by first | (simp; done) | (simp; omega) | omega)).trans (by simp [go_sem])
                have zc6 : rn.cell? ⟨ri.heap.size, 6, none⟩ = some (.slice none 0 0) := (hbrn.cell (p := ⟨ri.heap.size, 6, none⟩) (by first | (simp; done) | (simp; omega) | omega)).trans (by simp [go_sem])
                have zf6 : rn.frozen? ⟨ri.heap.size, 6, none⟩ = false := (hbrn.frozen (p := ⟨ri.heap.size, 6, none⟩) (by first | (simp; done) | (simp; omega) | omega)).trans (by simp [go_sem])
                refine hK.out _ _ ?_ (fun hHeld2 => ?_)
                · (try dsimp only); exact hd_10_2 hS5 (by repeat (first | (with_reducible exact Below.refl _ _) | (with_reducible assumption) | (with_reducible refine bel_set ?_ (by first | (simp; done) | (simp; omega)) _) | (with_reducible refine bel_alloc ?_ _) | (with_reducible refine bel_drew ?_) | (with_reducible refine bel_drewN ?_ _) | (with_reducible refine bel_trans ?_ (by with_reducible assumption))))
                clear hK K hHeld
                have hHeld := hHeld2
                clear hHeld2
                try simp only [Act.put, List.setIfInBounds_toArray, List.set_cons_zero, List.set_cons_succ]
                refine wpAnyH_ready (rs := [8]) (by kernel_rfl) (by simp) ?_
                refine AllReadyH.cons (by simp only [List.getElem?_toArray, List.getElem?_cons_zero, List.getElem?_cons_succ]; rfl) (fun K hK => ?_) AllReadyH.nil
                go_simp
                refine hK.out _ _ ?_ (fun hHeld2 => ?_)
                · (try dsimp only); exact hd_10_2 hS5 (by repeat (first | (with_reducible exact Below.refl _ _) | (with_reducible assumption) | (with_reducible refine bel_set ?_ (by first | (simp; done) | (simp; omega)) _) | (with_reducible refine bel_alloc ?_ _) | (with_reducible refine bel_drew ?_) | (with_reducible refine bel_drewN ?_ _) | (with_reducible refine bel_trans ?_ (by with_reducible assumption))))
                clear hK K hHeld
                have hHeld := hHeld2
                clear hHeld2
                try simp only [Act.put, List.setIfInBounds_toArray, List.set_cons_zero, List.set_cons_succ]
                refine wpAnyH_done (by kernel_rfl) ?_ _
                go_wp2
                go_meet
                exact boxEarly ⟨rfl, rfl⟩ hT hW (by first | (simp; done) | (simp; omega) | omega) (by omega) (by omega) (by repeat (first | (with_reducible exact Below.refl _ _) | (with_reducible assumption) | (with_reducible refine bel_set ?_ (by first | (simp; done) | (simp; omega)) _) | (with_reducible refine bel_alloc ?_ _) | (with_reducible refine bel_drew ?_) | (with_reducible refine bel_drewN ?_ _) | (with_reducible refine bel_trans ?_ (by with_reducible assumption)))) zc0 zc1 zc2 zc3 zc4 zc5 zc6
              refine AllReadyH.cons (by simp only [List.getElem?_toArray, List.getElem?_cons_zero, List.getElem?_cons_succ]; rfl) (fun K hK => ?_) AllReadyH.nil
              go_simp
              refine hK.out _ _ ?_ (fun hHeld2 => ?_)
              · (try dsimp only); exact hd_10_2 hS5 (by repeat (first | (with_reducible exact Below.refl _ _) | (with_reducible assumption) | (with_reducible refine bel_set ?_ (by first | (simp; done) | (simp; omega)) _) | (with_reducible refine bel_alloc ?_ _) | (with_reducible refine bel_drew ?_) | (with_reducible refine bel_drewN ?_ _) | (with_reducible refine bel_trans ?_ (by with_reducible assumption))))
              clear hK K hHeld
              have hHeld := hHeld2
              clear hHeld2
              try simp only [Act.put, List.setIfInBounds_toArray, List.set_cons_zero, List.set_cons_succ]
              refine wpAnyH_ready (rs := [5]) (by kernel_rfl) (by simp) ?_
              refine AllReadyH.cons (by simp only [List.getElem?_toArray, List.getElem?_cons_zero, List.getElem?_cons_succ]; rfl) (fun K hK => ?_) AllReadyH.nil
              go_simp
              (go_at_call 11; refine (toIn_any a1 len1 cap1 z1 _ (HI.below (by repeat (first | (with_reducible exact Below.refl _ _) | (with_reducible assumption) | (with_reducible refine bel_set ?_ (by first | (simp; done) | (simp; omega)) _) | (with_reducible refine bel_alloc ?_ _) | (with_reducible refine bel_drew ?_) | (with_reducible refine bel_drewN ?_ _) | (with_reducible refine bel_trans ?_ (by with_reducible assumption))))) hl1).mono ?_; rintro e' ri ⟨ai, rfl, hIi, _, _, hbri⟩)
              (try go_wp2_with fail)
              have szri := hbri.size
              (try simp at szri)
              have zc0 : ri.cell? ⟨ro.heap.size, 0, none⟩ = some (.slice none 0 0) := (hbri.cell (p := ⟨ro.heap.size, 0, none⟩) (by first | (simp; done) | (simp; omega) | omega)).trans (by simp [go_sem])
              have zf0 : ri.frozen? ⟨ro.heap.size, 0, none⟩ = false := (hbri.frozen (p := ⟨ro.heap.size, 0, none⟩) (by first | (simp; done) | (simp; omega) | omega)).trans (by simp [go_sem])
              have zc1 : ri.cell? ⟨ro.heap.size, 1, none⟩ = some (.int .i64 0) := (hbri.cell (p := ⟨ro.heap.size, 1, none⟩) (by first | (simp; done) | (simp; omega) | omega)).trans (by simp [go_sem])
              have zf1 : ri.frozen? ⟨ro.heap.size, 1, none⟩ = false := (hbri.frozen (p := ⟨ro.heap.size, 1, none⟩) (by first | (simp; done) | (simp; omega) | omega)).trans (by simp [go_sem])
              have zc2 : ri.cell? ⟨ro.heap.size, 2, none⟩ = some (.slice none 0 0) := (hbri.cell (p := ⟨ro.heap.size, 2, none⟩) (by first | (simp; done) | (simp; omega) | omega)).trans (by simp [go_sem])
              have zf2 : ri.frozen? ⟨ro.heap.size, 2, none⟩ = false := (hbri.frozen (p := ⟨ro.heap.size, 2, none⟩) (by first | (simp; done) | (simp; omega) | omega)).trans (by simp [go_sem])
              have zc3 : ri.cell? ⟨ro.heap.size, 3, none⟩ = some (.int .i64 0) := (hbri.cell (p := ⟨ro.heap.size, 3, none⟩) (by first | (simp; done) | (simp; omega) | omega)).trans (by simp [go_sem])
              have zf3 : ri.frozen? ⟨ro.heap.size, 3, none⟩ = false := (hbri.frozen (p := ⟨ro.heap.size, 3, none⟩) (by first | (simp; done) | (simp; omega) | omega)).trans (by simp [go_sem])
              have zc4 : ri.cell? ⟨ro.heap.size, 4, none⟩ = some (.int .i64 0) := (hbri.cell (p := ⟨ro.heap.size, 4, none⟩) (by first | (simp; done) | (simp; omega) | omega)).trans (by simp [go_sem])
              have zf4 : ri.frozen? ⟨ro.heap.size, 4, none⟩ = false := (hbri.frozen (p := ⟨ro.heap.size, 4, none⟩) (by first | (simp; done) | (simp; omega) | omega)).trans (by simp [go_sem])
              have zc5 : ri.cell? ⟨ro.heap.size, 5, none⟩ = some (.slice none 0 0) := (hbri.cell (p := ⟨ro.heap.size, 5, none⟩) (by first | (simp; done) | (simp; omega) | omega)).trans (by simp [go_sem])
              have zf5 : ri.frozen? ⟨ro.heap.size, 5, none⟩ = false := (hbri.frozen (p := ⟨ro.heap.size, 5, none⟩) (by first | (simp; done) | (simp; omega) | omega)).trans (by simp [go_sem])
              have zc6 : ri.cell? ⟨ro.heap.size, 6, none⟩ = some (.slice none 0 0) := (hbri.cell (p := ⟨ro.heap.size, 6, none⟩) (by first | (simp; done) | (simp; omega) | omega)).trans (by simp [go_sem])
              have zf6 : ri.frozen? ⟨ro.heap.size, 6, none⟩ = false := (hbri.frozen (p := ⟨ro.heap.size, 6, none⟩) (by first | (simp; done) | (simp; omega) | omega)).trans (by simp [go_sem])
              refine hK.out _ _ ?_ (fun hHeld2 => ?_)
              · (try dsimp only); exact hd_10_2 hS5 (by repeat (first | (with_reducible exact Below.refl _ _) | (with_reducible assumption) | (with_reducible refine bel_set ?_ (by first | (simp; done) | (simp; omega)) _) | (with_reducible refine bel_alloc ?_ _) | (with_reducible refine bel_drew ?_) | (with_reducible refine bel_drewN ?_ _) | (with_reducible refine bel_trans ?_ (by with_reducible assumption))))
              clear hK K hHeld
              have hHeld := hHeld2
              clear hHeld2
              try simp only [Act.put, List.setIfInBounds_toArray, List.set_cons_zero, List.set_cons_succ]
              refine wpAnyH_ready (rs := [6]) (by kernel_rfl) (by simp) ?_
              refine AllReadyH.cons (by simp only [List.getElem?_toArray, List.getElem?_cons_zero, List.getElem?_cons_succ]; rfl) (fun K hK => ?_) AllReadyH.nil
              go_simp
              (go_at_call 12; refine (implnew_eq s t k z p l e b v r m go len0 len0 ai len1 len1 z0 z1 _ (hGo.below (by repeat (first | (with_reducible exact Below.refl _ _) | (with_reducible assumption) | (with_reducible refine bel_set ?_ (by first | (simp; done) | (simp; omega)) _) | (with_reducible refine bel_alloc ?_ _) | (with_reducible refine bel_drew ?_) | (with_reducible refine bel_drewN ?_ _) | (with_reducible refine bel_trans ?_ (by with_reducible assumption))))) (hIi.below (by repeat (first | (with_reducible exact Below.refl _ _) | (with_reducible assumption) | (with_reducible refine bel_set ?_ (by first | (simp; done) | (simp; omega)) _) | (with_reducible refine bel_alloc ?_ _) | (with_reducible refine bel_drew ?_) | (with_reducible refine bel_drewN ?_ _) | (with_reducible refine bel_trans ?_ (by with_reducible assumption))))) hl0 hl1 hN).mono ?_; rintro e' rn ⟨ia, il, ic, oa, ol, oc, ⟨rfl, rfl⟩, rfl, hT, hW, hbrn⟩)
              (try go_wp2_with fail)
              have szrn := hbrn.size
              (try simp at szrn)
              have zc0 : rn.cell? ⟨ro.heap.size, 0, none⟩ = some (.slice none 0 0) := (hbrn.cell (p := ⟨ro.heap.size, 0, none⟩) (by first | (simp; done) | (simp; omega) | omega)).trans zc0
              have zf0 : rn.frozen? ⟨ro.heap.size, 0, none⟩ = false := (hbrn.frozen (p := ⟨ro.heap.size, 0, none⟩) (by first | (simp; done) | (simp; omega) | omega)).trans zf0
              have zc1 : rn.cell? ⟨ro.heap.size, 1, none⟩ = some (.int .i64 0) := (hbrn.cell (p := ⟨ro.heap.size, 1, none⟩) (by first | (simp; done) | (simp; omega) | omega)).trans zc1
              have zf1 : rn.frozen? ⟨ro.heap.size, 1, none⟩ = false := (hbrn.frozen (p := ⟨ro.heap.size, 1, none⟩) (by first | (simp; done) | (simp; omega) | omega)).trans zf1
              have zc2 : rn.cell? ⟨ro.heap.size, 2, none⟩ = some (.slice none 0 0) := (hbrn.cell (p := ⟨ro.heap.size, 2, none⟩) (by first | (simp; done) | (simp; omega) | omega)).trans zc2
              have zf2 : rn.frozen? ⟨ro.heap.size, 2, none⟩ = false := (hbrn.frozen (p := ⟨ro.heap.size, 2, none⟩) (by first | (simp; done) | (simp; omega) | omega)).trans zf2
              have zc3 : rn.cell? ⟨ro.heap.size, 3, none⟩ = some (.int .i64 0) := (hbrn.cell (p := ⟨ro.heap.size, 3, none⟩) (by first | (simp; done) | (simp; omega) | omega)).trans zc3
              have zf3 : rn.frozen? ⟨ro.heap.size, 3, none⟩ = false := (hbrn.frozen (p := ⟨ro.heap.size, 3, none⟩) (by first | (simp; done) | (simp; omega) | omega)).trans zf3
              have zc4 : rn.cell? ⟨ro.heap.size, 4, none⟩ = some (.int .i64 0) := (hbrn.cell (p := ⟨ro.heap.size, 4, none⟩) (by first | (simp; done) | (simp; omega) | omega)).trans zc4
              have zf4 : rn.frozen? ⟨ro.heap.size, 4, none⟩ = false := (hbrn.frozen (p := ⟨ro.heap.size, 4, none⟩) (by first | (simp; done) | (simp; omega) | omega)).trans zf4
              have zc5 : rn.cell? ⟨ro.heap.size, 5, none⟩ = some (.slice none 0 0) := (hbrn.cell (p := ⟨ro.heap.size, 5, none⟩) (by first | (simp; done) | (simp; omega) | omega)).trans zc5
              have zf5 : rn.frozen? ⟨ro.heap.size, 5, none⟩ = false := (hbrn.frozen (p := ⟨ro.heap.size, 5, none⟩) (by first | (simp; done) | (simp; omega) | omega)).trans zf5
              have zc6 : rn.cell? ⟨ro.heap.size, 6, none⟩ = some (.slice none 0 0) := (hbrn.cell (p := ⟨ro.heap.size, 6, none⟩) (by first | (simp; done) | (simp; omega) | omega)).trans zc6
              have zf6 : rn.frozen? ⟨ro.heap.size, 6, none⟩ = false := (hbrn.frozen (p := ⟨ro.heap.size, 6, none⟩) (by first | (simp; done) | (simp; omega) | omega)).trans zf6
              refine hK.out _ _ ?_ (fun hHeld2 => ?_)
              · (try dsimp only); exact hd_10_2 hS5 (by repeat (first | (with_reducible exact Below.refl _ _) | (with_reducible assumption) | (with_reducible refine bel_set ?_ (by first | (simp; done) | (simp; omega)) _) | (with_reducible refine bel_alloc ?_ _) | (with_reducible refine bel_drew ?_) | (with_reducible refine bel_drewN ?_ _) | (with_reducible refine bel_trans ?_ (by with_reducible assumption))))
              clear hK K hHeld
              have hHeld := hHeld2
              clear hHeld2
              try simp only [Act.put, List.setIfInBounds_toArray, List.set_cons_zero, List.set_cons_succ]
              refine wpAnyH_ready (rs := [8]) (by kernel_rfl) (by simp) ?_
              refine AllReadyH.cons (by simp only [List.getElem?_toArray, List.getElem?_cons_zero, List.getElem?_cons_succ]; rfl) (fun K hK => ?_) AllReadyH.nil
              go_simp
              refine hK.out _ _ ?_ (fun hHeld2 => ?_)
              · (try dsimp only); exact hd_10_2 hS5 (by repeat (first | (with_reducible exact Below.refl _ _) | (with_reducible assumption) | (with_reducible refine bel_set ?_ (by first | (simp; done) | (simp; omega)) _) | (with_reducible refine bel_alloc ?_ _) | (with_reducible refine bel_drew ?_) | (with_reducible refine bel_drewN ?_ _) | (with_reducible refine bel_trans ?_ (by with_reducible assumption))))
              clear hK K hHeld
              have hHeld := hHeld2
              clear hHeld2
              try simp only [Act.put, List.setIfInBounds_toArray, List.set_cons_zero, List.set_cons_succ]
              refine wpAnyH_done (by kernel_rfl) ?_ _
              go_wp2
              go_meet
              exact boxEarly ⟨rfl, rfl⟩ hT hW (by first | (simp; done) | (simp; omega) | omega) (by omega) (by omega) (by repeat (first | (with_reducible exact Below.refl _ _) | (with_reducible assumption) | (with_reducible refine bel_set ?_ (by first | (simp; done) | (simp; omega)) _) | (with_reducible refine bel_alloc ?_ _) | (with_reducible refine bel_drew ?_) | (with_reducible refine bel_drewN ?_ _) | (with_reducible refine bel_trans ?_ (by with_reducible assumption)))) zc0 zc1 zc2 zc3 zc4 zc5 zc6
            refine AllReadyH.cons (by simp only [List.getElem?_toArray, List.getElem?_cons_zero, List.getElem?_cons_succ]; rfl) (fun K hK => ?_) AllReadyH.nil
            go_simp
            refine hK.out _ _ ?_ (fun hHeld2 => ?_)
            · (try dsimp only); exact hd_10_2 hS5 (by repeat (first | (with_reducible exact Below.refl _ _) | (with_reducible assumption) | (with_reducible refine bel_set ?_ (by first | (simp; done) | (simp; omega)) _) | (with_reducible refine bel_alloc ?_ _) | (with_reducible refine bel_drew ?_) | (with_reducible refine bel_drewN ?_ _) | (with_reducible refine bel_trans ?_ (by with_reducible assumption))))
            clear hK K hHeld
            have hHeld := hHeld2
            clear hHeld2
            try simp only [Act.put, List.setIfInBounds_toArray, List.set_cons_zero, List.set_cons_succ]
            refine wpAnyH_ready (rs := [3]) (by kernel_rfl) (by simp) ?_
            refine AllReadyH.cons (by simp only [List.getElem?_toArray, List.getElem?_cons_zero, List.getElem?_cons_succ]; rfl) (fun K hK => ?_) AllReadyH.nil
            go_simp
            (go_at_call 10; refine (toStG_any m a0 len0 cap0 z0 _ (HO.below (by repeat (first | (with_reducible exact Below.refl _ _) | (with_reducible assumption) | (with_reducible refine bel_set ?_ (by first | (simp; done) | (simp; omega)) _) | (with_reducible refine bel_alloc ?_ _) | (with_reducible refine bel_drew ?_) | (with_reducible refine bel_drewN ?_ _) | (with_reducible refine bel_trans ?_ (by with_reducible assumption))))) hl0).mono ?_; rintro e' ro ⟨go, rfl, hGo, hgo, hbro⟩)
            (try go_wp2_with fail)
            have szro := hbro.size
            (try simp at szro)
            have zc0 : ro.cell? ⟨rj.heap.size, 0, none⟩ = some (.slice none 0 0) := (hbro.cell (p := ⟨rj.heap.size, 0, none⟩) (by first | (simp; done) | (simp; omega) | omega)).trans (by simp [go_sem])
            have zf0 : ro.frozen? ⟨rj.heap.size, 0, none⟩ = false := (hbro.frozen (p := ⟨rj.heap.size, 0, none⟩) (by first | (simp; done) | (simp; omega) | omega)).trans (by simp [go_sem])
            have zc1 : ro.cell? ⟨rj.heap.size, 1, none⟩ = some (.int .i64 0) := (hbro.cell (p := ⟨rj.heap.size, 1, none⟩) (by first | (simp; done) | (simp; omega) | omega)).trans (by simp [go_sem])
            have zf1 : ro.frozen? ⟨rj.heap.size, 1, none⟩ = false := (hbro.frozen (p := ⟨rj.heap.size, 1, none⟩) (by first | (simp; done) | (simp; omega) | omega)).trans (by simp [go_sem])
            have zc2 : ro.cell? ⟨rj.heap.size, 2, none⟩ = some (.slice none 0 0) := (hbro.cell (p := ⟨rj.heap.size, 2, none⟩) (by first | (simp; done) | (simp; omega) | omega)).trans (by simp [go_sem])
            have zf2 : ro.frozen? ⟨rj.heap.size, 2, none⟩ = false := (hbro.frozen (p := ⟨rj.heap.size, 2, none⟩) (by first | (simp; done) | (simp; omega) | omega)).trans (by simp [go_sem])
            have zc3 : ro.cell? ⟨rj.heap.size, 3, none⟩ = some (.int .i64 0) := (hbro.cell (p := ⟨rj.heap.size, 3, none⟩) (by first | (simp; done) | (simp; omega) | omega)).trans (by simp [go_sem])
            have zf3 : ro.frozen? ⟨rj.heap.size, 3, none⟩ = false := (hbro.frozen (p := ⟨rj.heap.size, 3, none⟩) (by first | (simp; done) | (simp; omega) | omega)).trans (by simp [go_sem])
            have zc4 : ro.cell? ⟨rj.heap.size, 4, none⟩ = some (.int .i64 0) := (hbro.cell (p := ⟨rj.heap.size, 4, none⟩) (by first | (simp; done) | (simp; omega) | omega)).trans (by simp [go_sem])
            have zf4 : ro.frozen? ⟨rj.heap.size, 4, none⟩ = false := (hbro.frozen (p := ⟨rj.heap.size, 4, none⟩) (by first | (simp; done) | (simp; omega) | omega)).trans (by simp [go_sem])
            have zc5 : ro.cell? ⟨rj.heap.size, 5, none⟩ = some (.slice none 0 0) := (hbro.cell (p := ⟨rj.heap.size, 5, none⟩) (by first | (simp; done) | (simp; omega) | omega)).trans (by simp [go_sem])
            have zf5 : ro.frozen? ⟨rj.heap.size, 5, none⟩ = false := (hbro.frozen (p := ⟨rj.heap.size, 5, none⟩) (by first | (simp; done) | (simp; omega) | omega)).trans (by simp [go_sem])
            have zc6 : ro.cell? ⟨rj.heap.size, 6, none⟩ = some (.slice none 0 0) := (hbro.cell (p := ⟨rj.heap.size, 6, none⟩) (by first | (simp; done) | (simp; omega) | omega)).trans (by simp [go_sem])
            have zf6 : ro.frozen? ⟨rj.heap.size, 6, none⟩ = false := (hbro.frozen (p := ⟨rj.heap.size, 6, none⟩) (by first | (simp; done) | (simp; omega) | omega)).trans (by simp [go_sem])
            refine hK.out _ _ ?_ (fun hHeld2 => ?_)
            · (try dsimp only); exact hd_10_2 hS5 (by repeat (first | (with_reducible exact Below.refl _ _) | (with_reducible assumption) | (with_reducible refine bel_set ?_ (by first | (simp; done) | (simp; omega)) _) | (with_reducible refine bel_alloc ?_ _) | (with_reducible refine bel_drew ?_) | (with_reducible refine bel_drewN ?_ _) | (with_reducible refine bel_trans ?_ (by with_reducible assumption))))
            clear hK K hHeld
            have hHeld := hHeld2
            clear hHeld2
            try simp only [Act.put, List.setIfInBounds_toArray, List.set_cons_zero, List.set_cons_succ]
            refine wpAnyH_ready (rs := [5]) (by kernel_rfl) (by simp) ?_
            refine AllReadyH.cons (by simp only [List.getElem?_toArray, List.getElem?_cons_zero, List.getElem?_cons_succ]; rfl) (fun K hK => ?_) AllReadyH.nil
            go_simp
            (go_at_call 11; refine (toIn_any a1 len1 cap1 z1 _ (HI.below (by repeat (first | (with_reducible exact Below.refl _ _) | (with_reducible assumption) | (with_reducible refine bel_set ?_ (by first | (simp; done) | (simp; omega)) _) | (with_reducible refine bel_alloc ?_ _) | (with_reducible refine bel_drew ?_) | (with_reducible refine bel_drewN ?_ _) | (with_reducible refine bel_trans ?_ (by with_reducible assumption))))) hl1).mono ?_; rintro e' ri ⟨ai, rfl, hIi, _, _, hbri⟩)
            (try go_wp2_with fail)
            have szri := hbri.size
            (try simp at szri)
            have zc0 : ri.cell? ⟨rj.heap.size, 0, none⟩ = some (.slice none 0 0) := (hbri.cell (p := ⟨rj.heap.size, 0, none⟩) (by first | (simp; done) | (simp; omega) | omega)).trans zc0
            have zf0 : ri.frozen? ⟨rj.heap.size, 0, none⟩ = false := (hbri.frozen (p := ⟨rj.heap.size, 0, none⟩) (by first | (simp; done) | (simp; omega) | omega)).trans zf0
            have zc1 : ri.cell? ⟨rj.heap.size, 1, none⟩ = some (.int .i64 0) := (hbri.cell (p := ⟨rj.heap.size, 1, none⟩) (by first | (simp; done) | (simp; omega) | omega)).trans zc1
            have zf1 : ri.frozen? ⟨rj.heap.size, 1, none⟩ = false := (hbri.frozen (p := ⟨rj.heap.size, 1, none⟩) (by first | (simp; done) | (simp; omega) | omega)).trans zf1
            have zc2 : ri.cell? ⟨rj.heap.size, 2, none⟩ = some (.slice none 0 0) := (hbri.cell (p := ⟨rj.heap.size, 2, none⟩) (by first | (simp; done) | (simp; omega) | omega)).trans zc2
            have zf2 : ri.frozen? ⟨rj.heap.size, 2, none⟩ = false := (hbri.frozen (p := ⟨rj.heap.size, 2, none⟩) (by first | (simp; done) | (simp; omega) | omega)).trans zf2
            have zc3 : ri.cell? ⟨rj.heap.size, 3, none⟩ = some (.int .i64 0) := (hbri.cell (p := ⟨rj.heap.size, 3, none⟩) (by first | (simp; done) | (simp; omega) | omega)).trans zc3
            have zf3 : ri.frozen? ⟨rj.heap.size, 3, none⟩ = false := (hbri.frozen (p := ⟨rj.heap.size, 3, none⟩) (by first | (simp; done) | (simp; omega) | omega)).trans zf3
            have zc4 : ri.cell? ⟨rj.heap.size, 4, none⟩ = some (.int .i64 0) := (hbri.cell (p := ⟨rj.heap.size, 4, none⟩) (by first | (simp; done) | (simp; omega) | omega)).trans zc4
            have zf4 : ri.frozen? ⟨rj.heap.size, 4, none⟩ = false := (hbri.frozen (p := ⟨rj.heap.size, 4, none⟩) (by first | (simp; done) | (simp; omega) | omega)).trans zf4
            have zc5 : ri.cell? ⟨rj.heap.size, 5, none⟩ = some (.slice none 0 0) := (hbri.cell (p := ⟨rj.heap.size, 5, none⟩) (by first | (simp; done) | (simp; omega) | omega)).trans zc5
            have zf5 : ri.frozen? ⟨rj.heap.size, 5, none⟩ = false := (hbri.frozen (p := ⟨rj.heap.size, 5, none⟩) (by first | (simp; done) | (simp; omega) | omega)).trans zf5
            have zc6 : ri.cell? ⟨rj.heap.size, 6, none⟩ = some (.slice none 0 0) := (hbri.cell (p := ⟨rj.heap.size, 6, none⟩) (by first | (simp; done) | (simp; omega) | omega)).trans zc6
            have zf6 : ri.frozen? ⟨rj.heap.size, 6, none⟩ = false := (hbri.frozen (p := ⟨rj.heap.size, 6, none⟩) (by first | (simp; done) | (simp; omega) | omega)).trans zf6
            refine hK.out _ _ ?_ (fun hHeld2 => ?_)
            · (try dsimp only); exact hd_10_2 hS5 (by repeat (first | (with_reducible exact Below.refl _ _) | (with_reducible assumption) | (with_reducible refine bel_set ?_ (by first | (simp; done) | (simp; omega)) _) | (with_reducible refine bel_alloc ?_ _) | (with_reducible refine bel_drew ?_) | (with_reducible refine bel_drewN ?_ _) | (with_reducible refine bel_trans ?_ (by with_reducible assumption))))
            clear hK K hHeld
            have hHeld := hHeld2
            clear hHeld2
            try simp only [Act.put, List.setIfInBounds_toArray, List.set_cons_zero, List.set_cons_succ]
            refine wpAnyH_ready (rs := [6]) (by kernel_rfl) (by simp) ?_
            refine AllReadyH.cons (by simp only [List.getElem?_toArray, List.getElem?_cons_zero, List.getElem?_cons_succ]; rfl) (fun K hK => ?_) AllReadyH.nil
            go_simp
            (go_at_call 12; refine (implnew_eq s t k z p l e b v r m go len0 len0 ai len1 len1 z0 z1 _ (hGo.below (by repeat (first | (with_reducible exact Below.refl _ _) | (with_reducible assumption) | (with_reducible refine bel_set ?_ (by first | (simp; done) | (simp; omega)) _) | (with_reducible refine bel_alloc ?_ _) | (with_reducible refine bel_drew ?_) | (with_reducible refine bel_drewN ?_ _) | (with_reducible refine bel_trans ?_ (by with_reducible assumption))))) (hIi.below (by repeat (first | (with_reducible exact Below.refl _ _) | (with_reducible assumption) | (with_reducible refine bel_set ?_ (by first | (simp; done) | (simp; omega)) _) | (with_reducible refine bel_alloc ?_ _) | (with_reducible refine bel_drew ?_) | (with_reducible refine bel_drewN ?_ _) | (with_reducible refine bel_trans ?_ (by with_reducible assumption))))) hl0 hl1 hN).mono ?_; rintro e' rn ⟨ia, il, ic, oa, ol, oc, ⟨rfl, rfl⟩, rfl, hT, hW, hbrn⟩)
            (try go_wp2_with fail)
            have szrn := hbrn.size
            (try simp at szrn)
            have zc0 : rn.cell? ⟨rj.heap.size, 0, none⟩ = some (.slice none 0 0) := (hbrn.cell (p := ⟨rj.heap.size, 0, none⟩) (by first | (simp; done) | (simp; omega) | omega)).trans zc0
            have zf0 : rn.frozen? ⟨rj.heap.size, 0, none⟩ = false := (hbrn.frozen (p := ⟨rj.heap.size, 0, none⟩) (by first | (simp; done) | (simp; omega) | omega)).trans zf0
            have zc1 : rn.cell? ⟨rj.heap.size, 1, none⟩ = some (.int .i64 0) := (hbrn.cell (p := ⟨rj.heap.size, 1, none⟩) (by first | (simp; done) | (simp; omega) | omega)).trans zc1
            have zf1 : rn.frozen? ⟨rj.heap.size, 1, none⟩ = false := (hbrn.frozen (p := ⟨rj.heap.size, 1, none⟩) (by first | (simp; done) | (simp; omega) | omega)).trans zf1
            have zc2 : rn.cell? ⟨rj.heap.size, 2, none⟩ = some (.slice none 0 0) := (hbrn.cell (p := ⟨rj.heap.size, 2, none⟩) (by first | (simp; done) | (simp; omega) | omega)).trans zc2
            have zf2 : rn.frozen? ⟨rj.heap.size, 2, none⟩ = false := (hbrn.frozen (p := ⟨rj.heap.size, 2, none⟩) (by first | (simp; done) | (simp; omega) | omega)).trans zf2
            have zc3 : rn.cell? ⟨rj.heap.size, 3, none⟩ = some (.int .i64 0) := (hbrn.cell (p := ⟨rj.heap.size, 3, none⟩) (by first | (simp; done) | (simp; omega) | omega)).trans zc3
            have zf3 : rn.frozen? ⟨rj.heap.size, 3, none⟩ = false := (hbrn.frozen (p := ⟨rj.heap.size, 3, none⟩) (by first | (simp; done) | (simp; omega) | omega)).trans zf3
            have zc4 : rn.cell? ⟨rj.heap.size, 4, none⟩ = some (.int .i64 0) := (hbrn.cell (p := ⟨rj.heap.size, 4, none⟩) (by first | (simp; done) | (simp; omega) | omega)).trans zc4
            have zf4 : rn.frozen? ⟨rj.heap.size, 4, none⟩ = false := (hbrn.frozen (p := ⟨rj.heap.size, 4, none⟩) (by first | (simp; done) | (simp; omega) | omega)).trans zf4
            have zc5 : rn.cell? ⟨rj.heap.size, 5, none⟩ = some (.slice none 0 0) := (hbrn.cell (p := ⟨rj.heap.size, 5, none⟩) (by first | (simp; done) | (simp; omega) | omega)).trans zc5
            have zf5 : rn.frozen? ⟨rj.heap.size, 5, none⟩ = false := (hbrn.frozen (p := ⟨rj.heap.size, 5, none⟩) (by first | (simp; done) | (simp; omega) | omega)).trans zf5
            have zc6 : rn.cell? ⟨rj.heap.size, 6, none⟩ = some (.slice none 0 0) := (hbrn.cell (p := ⟨rj.heap.size, 6, none⟩) (by first | (simp; done) | (simp; omega) | omega)).trans zc6
            have zf6 : rn.frozen? ⟨rj.heap.size, 6, none⟩ = false := (hbrn.frozen (p := ⟨rj.heap.size, 6, none⟩) (by first | (simp; done) | (simp; omega) | omega)).trans zf6
            refine hK.out _ _ ?_ (fun hHeld2 => ?_)
            · (try dsimp only); exact hd_10_2 hS5 (by repeat (first | (with_reducible exact Below.refl _ _) | (with_reducible assumption) | (with_reducible refine bel_set ?_ (by first | (simp; done) | (simp; omega)) _) | (with_reducible refine bel_alloc ?_ _) | (with_reducible refine bel_drew ?_) | (with_reducible refine bel_drewN ?_ _) | (with_reducible refine bel_trans ?_ (by with_reducible assumption))))
            clear hK K hHeld
            have hHeld := hHeld2
            clear hHeld2
            try simp only [Act.put, List.setIfInBounds_toArray, List.set_cons_zero, List.set_cons_succ]
            refine wpAnyH_ready (rs := [8]) (by kernel_rfl) (by simp) ?_
            refine AllReadyH.cons (by simp only [List.getElem?_toArray, List.getElem?_cons_zero, List.getElem?_cons_succ]; rfl) (fun K hK => ?_) AllReadyH.nil
            go_simp
            refine hK.out _ _ ?_ (fun hHeld2 => ?_)
            · (try dsimp only); exact hd_10_2 hS5 (by repeat (first | (with_reducible exact Below.refl _ _) | (with_reducible assumption) | (with_reducible refine bel_set ?_ (by first | (simp; done) | (simp; omega)) _) | (with_reducible refine bel_alloc ?_ _) | (with_reducible refine bel_drew ?_) | (with_reducible refine bel_drewN ?_ _) | (with_reducible refine bel_trans ?_ (by with_reducible assumption))))
            clear hK K hHeld
            have hHeld := hHeld2
            clear hHeld2
            try simp only [Act.put, List.setIfInBounds_toArray, List.set_cons_zero, List.set_cons_succ]
            refine wpAnyH_done (by kernel_rfl) ?_ _
            go_wp2
            go_meet
            exact boxEarly ⟨rfl, rfl⟩ hT hW (by first | (simp; done) | (simp; omega) | omega) (by omega) (by omega) (by repeat (first | (with_reducible exact Below.refl _ _) | (with_reducible assumption) | (with_reducible refine bel_set ?_ (by first | (simp; done) | (simp; omega)) _) | (with_reducible refine bel_alloc ?_ _) | (with_reducible refine bel_drew ?_) | (with_reducible refine bel_drewN ?_ _) | (with_reducible refine bel_trans ?_ (by with_reducible assumption)))) zc0 zc1 zc2 zc3 zc4 zc5 zc6
          refine AllReadyH.cons (by simp only [List.getElem?_toArray, List.getElem?_cons_zero, List.getElem?_cons_succ]; rfl) (fun K hK => ?_) AllReadyH.nil
          go_simp
          refine hK.out _ _ ?_ (fun hHeld2 => ?_)
          · (try dsimp only); exact hd_10_2 hS5 (by repeat (first | (with_reducible exact Below.refl _ _) | (with_reducible assumption) | (with_reducible refine bel_set ?_ (by first | (simp; done) | (simp; omega)) _) | (with_reducible refine bel_alloc ?_ _) | (with_reducible refine bel_drew ?_) | (with_reducible refine bel_drewN ?_ _) | (with_reducible refine bel_trans ?_ (by with_reducible assumption))))
          clear hK K hHeld
          have hHeld := hHeld2
          clear hHeld2
          try simp only [Act.put, List.setIfInBounds_toArray, List.set_cons_zero, List.set_cons_succ]
          refine wpAnyH_ready (rs := [1]) (by kernel_rfl) (by simp) ?_
          refine AllReadyH.cons (by simp only [List.getElem?_toArray, List.getElem?_cons_zero, List.getElem?_cons_succ]; rfl) (fun K hK => ?_) AllReadyH.nil
          go_simp
          (go_at_call 9; refine (toJob_any _ _ _ _ _ _ _ _ _ _ _).mono ?_; rintro e' rj ⟨rfl, hbrj⟩)
          (try go_wp2_with fail)
          have szrj := hbrj.size
          (try simp at szrj)
          have zc0 : rj.cell? ⟨wm.heap.size, 0, none⟩ = some (.slice none 0 0) := (hbrj.cell (p := ⟨wm.heap.size, 0, none⟩) (by first | (simp; done) | (simp; omega) | omega)).trans (by simp [go_sem])
          have zf0 : rj.frozen? ⟨wm.heap.size, 0, none⟩ = false := (hbrj.frozen (p := ⟨wm.heap.size, 0, none⟩) (by first | (simp; done) | (simp; omega) | omega)).trans (by simp [go_sem])
          have zc1 : rj.cell? ⟨wm.heap.size, 1, none⟩ = some (.int .i64 0) := (hbrj.cell (p := ⟨wm.heap.size, 1, none⟩) (by first | (simp; done) | (simp; omega) | omega)).trans (by simp [go_sem])
          have zf1 : rj.frozen? ⟨wm.heap.size, 1, none⟩ = false := (hbrj.frozen (p := ⟨wm.heap.size, 1, none⟩) (by first | (simp; done) | (simp; omega) | omega)).trans (by simp [go_sem])
          have zc2 : rj.cell? ⟨wm.heap.size, 2, none⟩ = some (.slice none 0 0) := (hbrj.cell (p := ⟨wm.heap.size, 2, none⟩) (by first | (simp; done) | (simp; omega) | omega)).trans (by simp [go_sem])
          have zf2 : rj.frozen? ⟨wm.heap.size, 2, none⟩ = false := (hbrj.frozen (p := ⟨wm.heap.size, 2, none⟩) (by first | (simp; done) | (simp; omega) | omega)).trans (by simp [go_sem])
          have zc3 : rj.cell? ⟨wm.heap.size, 3, none⟩ = some (.int .i64 0) := (hbrj.cell (p := ⟨wm.heap.size, 3, none⟩) (by first | (simp; done) | (simp; omega) | omega)).trans (by simp [go_sem])
          have zf3 : rj.frozen? ⟨wm.heap.size, 3, none⟩ = false := (hbrj.frozen (p := ⟨wm.heap.size, 3, none⟩) (by first | (simp; done) | (simp; omega) | omega)).trans (by simp [go_sem])
          have zc4 : rj.cell? ⟨wm.heap.size, 4, none⟩ = some (.int .i64 0) := (hbrj.cell (p := ⟨wm.heap.size, 4, none⟩) (by first | (simp; done) | (simp; omega) | omega)).trans (by simp [go_sem])
          have zf4 : rj.frozen? ⟨wm.heap.size, 4, none⟩ = false := (hbrj.frozen (p := ⟨wm.heap.size, 4, none⟩) (by first | (simp; done) | (simp; omega) | omega)).trans (by simp [go_sem])
          have zc5 : rj.cell? ⟨wm.heap.size, 5, none⟩ = some (.slice none 0 0) := (hbrj.cell (p := ⟨wm.heap.size, 5, none⟩) (by first | (simp; done) | (simp; omega) | omega)).trans (by simp [go_sem])
          have zf5 : rj.frozen? ⟨wm.heap.size, 5, none⟩ = false := (hbrj.frozen (p := ⟨wm.heap.size, 5, none⟩) (by first | (simp; done) | (simp; omega) | omega)).trans (by simp [go_sem])
          have zc6 : rj.cell? ⟨wm.heap.size, 6, none⟩ = some (.slice none 0 0) := (hbrj.cell (p := ⟨wm.heap.size, 6, none⟩) (by first | (simp; done) | (simp; omega) | omega)).trans (by simp [go_sem])
          have zf6 : rj.frozen? ⟨wm.heap.size, 6, none⟩ = false := (hbrj.frozen (p := ⟨wm.heap.size, 6, none⟩) (by first | (simp; done) | (simp; omega) | omega)).trans (by simp [go_sem])
          refine hK.out _ _ ?_ (fun hHeld2 => ?_)
          · (try dsimp only); exact hd_10_2 hS5 (by repeat (first | (with_reducible exact Below.refl _ _) | (with_reducible assumption) | (with_reducible refine bel_set ?_ (by first | (simp; done) | (simp; omega)) _) | (with_reducible refine bel_alloc ?_ _) | (with_reducible refine bel_drew ?_) | (with_reducible refine bel_drewN ?_ _) | (with_reducible refine bel_trans ?_ (by with_reducible assumption))))
          clear hK K hHeld
          have hHeld := hHeld2
          clear hHeld2
          try simp only [Act.put, List.setIfInBounds_toArray, List.set_cons_zero, List.set_cons_succ]
          refine wpAnyH_ready (rs := [3]) (by kernel_rfl) (by simp) ?_
          refine AllReadyH.cons (by simp only [List.getElem?_toArray, List.getElem?_cons_zero, List.getElem?_cons_succ]; rfl) (fun K hK => ?_) AllReadyH.nil
          go_simp
          (go_at_call 10; refine (toStG_any m a0 len0 cap0 z0 _ (HO.below (by repeat (first | (with_reducible exact Below.refl _ _) | (with_reducible assumption) | (with_reducible refine bel_set ?_ (by first | (simp; done) | (simp; omega)) _) | (with_reducible refine bel_alloc ?_ _) | (with_reducible refine bel_drew ?_) | (with_reducible refine bel_drewN ?_ _) | (with_reducible refine bel_trans ?_ (by with_reducible assumption))))) hl0).mono ?_; rintro e' ro ⟨go, rfl, hGo, hgo, hbro⟩)
          (try go_wp2_with fail)
          have szro := hbro.size
          (try simp at szro)
          have zc0 : ro.cell? ⟨wm.heap.size, 0, none⟩ = some (.slice none 0 0) := (hbro.cell (p := ⟨wm.heap.size, 0, none⟩) (by first | (simp; done) | (simp; omega) | omega)).trans zc0
          have zf0 : ro.frozen? ⟨wm.heap.size, 0, none⟩ = false := (hbro.frozen (p := ⟨wm.heap.size, 0, none⟩) (by first | (simp; done) | (simp; omega) | omega)).trans zf0
          have zc1 : ro.cell? ⟨wm.heap.size, 1, none⟩ = some (.int .i64 0) := (hbro.cell (p := ⟨wm.heap.size, 1, none⟩) (by first | (simp; done) | (simp; omega) | omega)).trans zc1
          have zf1 : ro.frozen? ⟨wm.heap.size, 1, none⟩ = false := (hbro.frozen (p := ⟨wm.heap.size, 1, none⟩) (by first | (simp; done) | (simp; omega) | omega)).trans zf1
          have zc2 : ro.cell? ⟨wm.heap.size, 2, none⟩ = some (.slice none 0 0) := (hbro.cell (p := ⟨wm.heap.size, 2, none⟩) (by first | (simp; done) | (simp; omega) | omega)).trans zc2
          have zf2 : ro.frozen? ⟨wm.heap.size, 2, none⟩ = false := (hbro.frozen (p := ⟨wm.heap.size, 2, none⟩) (by first | (simp; done) | (simp; omega) | omega)).trans zf2
          have zc3 : ro.cell? ⟨wm.heap.size, 3, none⟩ = some (.int .i64 0) := (hbro.cell (p := ⟨wm.heap.size, 3, none⟩) (by first | (simp; done) | (simp; omega) | omega)).trans zc3
          have zf3 : ro.frozen? ⟨wm.heap.size, 3, none⟩ = false := (hbro.frozen (p := ⟨wm.heap.size, 3, none⟩) (by first | (simp; done) | (simp; omega) | omega)).trans zf3
          have zc4 : ro.cell? ⟨wm.heap.size, 4, none⟩ = some (.int .i64 0) := (hbro.cell (p := ⟨wm.heap.size, 4, none⟩) (by first | (simp; done) | (simp; omega) | omega)).trans zc4
          have zf4 : ro.frozen? ⟨wm.heap.size, 4, none⟩ = false := (hbro.frozen (p := ⟨wm.heap.size, 4, none⟩) (by first | (simp; done) | (simp; omega) | omega)).trans zf4
          have zc5 : ro.cell? ⟨wm.heap.size, 5, none⟩ = some (.slice none 0 0) := (hbro.cell (p := ⟨wm.heap.size, 5, none⟩) (by first | (simp; done) | (simp; omega) | omega)).trans zc5
          have zf5 : ro.frozen? ⟨wm.heap.size, 5, none⟩ = false := (hbro.frozen (p := ⟨wm.heap.size, 5, none⟩) (by first | (simp; done) | (simp; omega) | omega)).trans zf5
          have zc6 : ro.cell? ⟨wm.heap.size, 6, none⟩ = some (.slice none 0 0) := (hbro.cell (p := ⟨wm.heap.size, 6, none⟩) (by first | (simp; done) | (simp; omega) | omega)).trans zc6
          have zf6 : ro.frozen? ⟨wm.heap.size, 6, none⟩ = false := (hbro.frozen (p := ⟨wm.heap.size, 6, none⟩) (by first | (simp; done) | (simp; omega) | omega)).trans zf6
          refine hK.out _ _ ?_ (fun hHeld2 => ?_)
          · (try dsimp only); exact hd_10_2 hS5 (by repeat (first | (with_reducible exact Below.refl _ _) | (with_reducible assumption) | (with_reducible refine bel_set ?_ (by first | (simp; done) | (simp; omega)) _) | (with_reducible refine bel_alloc ?_ _) | (with_reducible refine bel_drew ?_) | (with_reducible refine bel_drewN ?_ _) | (with_reducible refine bel_trans ?_ (by with_reducible assumption))))
          clear hK K hHeld
          have hHeld := hHeld2
          clear hHeld2
          try simp only [Act.put, List.setIfInBounds_toArray, List.set_cons_zero, List.set_cons_succ]
          refine wpAnyH_ready (rs := [5]) (by kernel_rfl) (by simp) ?_
          refine AllReadyH.cons (by simp only [List.getElem?_toArray, List.getElem?_cons_zero, List.getElem?_cons_succ]; rfl) (fun K hK => ?_) AllReadyH.nil
          go_simp
          (go_at_call 11; refine (toIn_any a1 len1 cap1 z1 _ (HI.below (by repeat (first | (with_reducible exact Below.refl _ _) | (with_reducible assumption) | (with_reducible refine bel_set ?_ (by first | (simp; done) | (simp; omega)) _) | (with_reducible refine bel_alloc ?_ _) | (with_reducible refine bel_drew ?_) | (with_reducible refine bel_drewN ?_ _) | (with_reducible refine bel_trans ?_ (by with_reducible assumption))))) hl1).mono ?_; rintro e' ri ⟨ai, rfl, hIi, _, _, hbri⟩)
          (try go_wp2_with fail)
          have szri := hbri.size
          (try simp at szri)
          have zc0 : ri.cell? ⟨wm.heap.size, 0, none⟩ = some (.slice none 0 0) := (hbri.cell (p := ⟨wm.heap.size, 0, none⟩) (by first | (simp; done) | (simp; omega) | omega)).trans zc0
          have zf0 : ri.frozen? ⟨wm.heap.size, 0, none⟩ = false := (hbri.frozen (p := ⟨wm.heap.size, 0, none⟩) (by first | (simp; done) | (simp; omega) | omega)).trans zf0
          have zc1 : ri.cell? ⟨wm.heap.size, 1, none⟩ = some (.int .i64 0) := (hbri.cell (p := ⟨wm.heap.size, 1, none⟩) (by first | (simp; done) | (simp; omega) | omega)).trans zc1
          have zf1 : ri.frozen? ⟨wm.heap.size, 1, none⟩ = false := (hbri.frozen (p := ⟨wm.heap.size, 1, none⟩) (by first | (simp; done) | (simp; omega) | omega)).trans zf1
          have zc2 : ri.cell? ⟨wm.heap.size, 2, none⟩ = some (.slice none 0 0) := (hbri.cell (p := ⟨wm.heap.size, 2, none⟩) (by first | (simp; done) | (simp; omega) | omega)).trans zc2
          have zf2 : ri.frozen? ⟨wm.heap.size, 2, none⟩ = false := (hbri.frozen (p := ⟨wm.heap.size, 2, none⟩) (by first | (simp; done) | (simp; omega) | omega)).trans zf2
          have zc3 : ri.cell? ⟨wm.heap.size, 3, none⟩ = some (.int .i64 0) := (hbri.cell (p := ⟨wm.heap.size, 3, none⟩) (by first | (simp; done) | (simp; omega) | omega)).trans zc3
          have zf3 : ri.frozen? ⟨wm.heap.size, 3, none⟩ = false := (hbri.frozen (p := ⟨wm.heap.size, 3, none⟩) (by first | (simp; done) | (simp; omega) | omega)).trans zf3
          have zc4 : ri.cell? ⟨wm.heap.size, 4, none⟩ = some (.int .i64 0) := (hbri.cell (p := ⟨wm.heap.size, 4, none⟩) (by first | (simp; done) | (simp; omega) | omega)).trans zc4
          have zf4 : ri.frozen? ⟨wm.heap.size, 4, none⟩ = false := (hbri.frozen (p := ⟨wm.heap.size, 4, none⟩) (by first | (simp; done) | (simp; omega) | omega)).trans zf4
          have zc5 : ri.cell? ⟨wm.heap.size, 5, none⟩ = some (.slice none 0 0) := (hbri.cell (p := ⟨wm.heap.size, 5, none⟩) (by first | (simp; done) | (simp; omega) | omega)).trans zc5
          have zf5 : ri.frozen? ⟨wm.heap.size, 5, none⟩ = false := (hbri.frozen (p := ⟨wm.heap.size, 5, none⟩) (by first | (simp; done) | (simp; omega) | omega)).trans zf5
          have zc6 : ri.cell? ⟨wm.heap.size, 6, none⟩ = some (.slice none 0 0) := (hbri.cell (p := ⟨wm.heap.size, 6, none⟩) (by first | (simp; done) | (simp; omega) | omega)).trans zc6
          have zf6 : ri.frozen? ⟨wm.heap.size, 6, none⟩ = false := (hbri.frozen (p := ⟨wm.heap.size, 6, none⟩) (by first | (simp; done) | (simp; omega) | omega)).trans zf6
          refine hK.out _ _ ?_ (fun hHeld2 => ?_)
          · (try dsimp only); exact hd_10_2 hS5 (by repeat (first | (with_reducible exact Below.refl _ _) | (with_reducible assumption) | (with_reducible refine bel_set ?_ (by first | (simp; done) | (simp; omega)) _) | (with_reducible refine bel_alloc ?_ _) | (with_reducible refine bel_drew ?_) | (with_reducible refine bel_drewN ?_ _) | (with_reducible refine bel_trans ?_ (by with_reducible assumption))))
          clear hK K hHeld
          have hHeld := hHeld2
          clear hHeld2
          try simp only [Act.put, List.setIfInBounds_toArray, List.set_cons_zero, List.set_cons_succ]
          refine wpAnyH_ready (rs := [6]) (by kernel_rfl) (by simp) ?_
          refine AllReadyH.cons (by simp only [List.getElem?_toArray, List.getElem?_cons_zero, List.getElem?_cons_succ]; rfl) (fun K hK => ?_) AllReadyH.nil
          go_simp
          (go_at_call 12; refine (implnew_eq s t k z p l e b v r m go len0 len0 ai len1 len1 z0 z1 _ (hGo.below (by repeat (first | (with_reducible exact Below.refl _ _) | (with_reducible assumption) | (with_reducible refine bel_set ?_ (by first | (simp; done) | (simp; omega)) _) | (with_reducible refine bel_alloc ?_ _) | (with_reducible refine bel_drew ?_) | (with_reducible refine bel_drewN ?_ _) | (with_reducible refine bel_trans ?_ (by with_reducible assumption))))) (hIi.below (by repeat (first | (with_reducible exact Below.refl _ _) | (with_reducible assumption) | (with_reducible refine bel_set ?_ (by first | (simp; done) | (simp; omega)) _) | (with_reducible refine bel_alloc ?_ _) | (with_reducible refine bel_drew ?_) | (with_reducible refine bel_drewN ?_ _) | (with_reducible refine bel_trans ?_ (by with_reducible assumption))))) hl0 hl1 hN).mono ?_; rintro e' rn ⟨ia, il, ic, oa, ol, oc, ⟨rfl, rfl⟩, rfl, hT, hW, hbrn⟩)
          (try go_wp2_with fail)
          have szrn := hbrn.size
          (try simp at szrn)
          have zc0 : rn.cell? ⟨wm.heap.size, 0, none⟩ = some (.slice none 0 0) := (hbrn.cell (p := ⟨wm.heap.size, 0, none⟩) (by first | (simp; done) | (simp; omega) | omega)).trans zc0
          have zf0 : rn.frozen? ⟨wm.heap.size, 0, none⟩ = false := (hbrn.frozen (p := ⟨wm.heap.size, 0, none⟩) (by first | (simp; done) | (simp; omega) | omega)).trans zf0
          have zc1 : rn.cell? ⟨wm.heap.size, 1, none⟩ = some (.int .i64 0) := (hbrn.cell (p := ⟨wm.heap.size, 1, none⟩) (by first | (simp; done) | (simp; omega) | omega)).trans zc1
          have zf1 : rn.frozen? ⟨wm.heap.size, 1, none⟩ = false := (hbrn.frozen (p := ⟨wm.heap.size, 1, none⟩) (by first | (simp; done) | (simp; omega) | omega)).trans zf1
          have zc2 : rn.cell? ⟨wm.heap.size, 2, none⟩ = some (.slice none 0 0) := (hbrn.cell (p := ⟨wm.heap.size, 2, none⟩) (by first | (simp; done) | (simp; omega) | omega)).trans zc2
          have zf2 : rn.frozen? ⟨wm.heap.size, 2, none⟩ = false := (hbrn.frozen (p := ⟨wm.heap.size, 2, none⟩) (by first | (simp; done) | (simp; omega) | omega)).trans zf2
          have zc3 : rn.cell? ⟨wm.heap.size, 3, none⟩ = some (.int .i64 0) := (hbrn.cell (p := ⟨wm.heap.size, 3, none⟩) (by first | (simp; done) | (simp; omega) | omega)).trans zc3
          have zf3 : rn.frozen? ⟨wm.heap.size, 3, none⟩ = false := (hbrn.frozen (p := ⟨wm.heap.size, 3, none⟩) (by first | (simp; done) | (simp; omega) | omega)).trans zf3
          have zc4 : rn.cell? ⟨wm.heap.size, 4, none⟩ = some (.int .i64 0) := (hbrn.cell (p := ⟨wm.heap.size, 4, none⟩) (by first | (simp; done) | (simp; omega) | omega)).trans zc4
          have zf4 : rn.frozen? ⟨wm.heap.size, 4, none⟩ = false := (hbrn.frozen (p := ⟨wm.heap.size, 4, none⟩) (by first | (simp; done) | (simp; omega) | omega)).trans zf4
          have zc5 : rn.cell? ⟨wm.heap.size, 5, none⟩ = some (.slice none 0 0) := (hbrn.cell (p := ⟨wm.heap.size, 5, none⟩) (by first | (simp; done) | (simp; omega) | omega)).trans zc5
          have zf5 : rn.frozen? ⟨wm.heap.size, 5, none⟩ = false := (hbrn.frozen (p := ⟨wm.heap.size, 5, none⟩) (by first | (simp; done) | (simp; omega) | omega)).trans zf5
          have zc6 : rn.cell? ⟨wm.heap.size, 6, none⟩ = some (.slice none 0 0) := (hbrn.cell (p := ⟨wm.heap.size, 6, none⟩) (by first | (simp; done) | (simp; omega) | omega)).trans zc6
          have zf6 : rn.frozen? ⟨wm.heap.size, 6, none⟩ = false := (hbrn.frozen (p := ⟨wm.heap.size, 6, none⟩) (by first | (simp; done) | (simp; omega) | omega)).trans zf6
          refine hK.out _ _ ?_ (fun hHeld2 => ?_)
          · (try dsimp only); exact hd_10_2 hS5 (by repeat (first | (with_reducible exact Below.refl _ _) | (with_reducible assumption) | (with_reducible refine bel_set ?_ (by first | (simp; done) | (simp; omega)) _) | (with_reducible refine bel_alloc ?_ _) | (with_reducible refine bel_drew ?_) | (with_reducible refine bel_drewN ?_ _) | (with_reducible refine bel_trans ?_ (by with_reducible assumption))))
          clear hK K hHeld
          have hHeld := hHeld2
          clear hHeld2
          try simp only [Act.put, List.setIfInBounds_toArray, List.set_cons_zero, List.set_cons_succ]
          refine wpAnyH_ready (rs := [8]) (by kernel_rfl) (by simp) ?_
          refine AllReadyH.cons (by simp only [List.getElem?_toArray, List.getElem?_cons_zero, List.getElem?_cons_succ]; rfl) (fun K hK => ?_) AllReadyH.nil
          go_simp
          refine hK.out _ _ ?_ (fun hHeld2 => ?_)
          · (try dsimp only); exact hd_10_2 hS5 (by repeat (first | (with_reducible exact Below.refl _ _) | (with_reducible assumption) | (with_reducible refine bel_set ?_ (by first | (simp; done) | (simp; omega)) _) | (with_reducible refine bel_alloc ?_ _) | (with_reducible refine bel_drew ?_) | (with_reducible refine bel_drewN ?_ _) | (with_reducible refine bel_trans ?_ (by with_reducible assumption))))
          clear hK K hHeld
          have hHeld := hHeld2
          clear hHeld2
          try simp only [Act.put, List.setIfInBounds_toArray, List.set_cons_zero, List.set_cons_succ]
          refine wpAnyH_done (by kernel_rfl) ?_ _
          go_wp2
          go_meet
          exact boxEarly ⟨rfl, rfl⟩ hT hW (by first | (simp; done) | (simp; omega) | omega) (by omega) (by omega) (by repeat (first | (with_reducible exact Below.refl _ _) | (with_reducible assumption) | (with_reducible refine bel_set ?_ (by first | (simp; done) | (simp; omega)) _) | (with_reducible refine bel_alloc ?_ _) | (with_reducible refine bel_drew ?_) | (with_reducible refine bel_drewN ?_ _) | (with_reducible refine bel_trans ?_ (by with_reducible assumption)))) zc0 zc1 zc2 zc3 zc4 zc5 zc6
        case rest =>
          rename World => wq
          obtain ⟨Bh, Bth, ilh, olh, iah, ich, oah, och, rfl, ⟨hilh, holh⟩, ⟨ch0, ch1, ch2, ch3, ch4, ch5, ch6⟩, hTh, hWh, ⟨ph1, ph2, ph3, ph4⟩, hbq⟩ := hcut
          subst hilh holh
          have hbaq : Below wa.heap.size wa wq := bel_trans hbam hbq
          have kw0 : wq.cell? ⟨Bw, 0, none⟩ = some (.slice iaw D.ins.length icw) := (hbaq.cell (p := ⟨Bw, 0, none⟩) pw3).trans cw0
          have kw1 : wq.cell? ⟨Bw, 1, none⟩ = some (.int .i64 om) := (hbaq.cell (p := ⟨Bw, 1, none⟩) pw3).trans cw1
          have kw2 : wq.cell? ⟨Bw, 2, none⟩ = some (.slice oaw D.rows.length ocw) := (hbaq.cell (p := ⟨Bw, 2, none⟩) pw3).trans cw2
          have kw3 : wq.cell? ⟨Bw, 3, none⟩ = some (.int .i64 0) := (hbaq.cell (p := ⟨Bw, 3, none⟩) pw3).trans cw3
          have kw4 : wq.cell? ⟨Bw, 4, none⟩ = some (.int .i64 0) := (hbaq.cell (p := ⟨Bw, 4, none⟩) pw3).trans cw4
          have kw5 : wq.cell? ⟨Bw, 5, none⟩ = some (.slice none 0 0) := (hbaq.cell (p := ⟨Bw, 5, none⟩) pw3).trans cw5
          have kw6 : wq.cell? ⟨Bw, 6, none⟩ = some (.slice none 0 0) := (hbaq.cell (p := ⟨Bw, 6, none⟩) pw3).trans cw6
          go_wp2_with fail
          refine (eqTk_any _ _ iah iaw D.ins.length ich icw om oah oaw D.rows.length och ocw 0 0 none none 0 0 0 none none 0 0 0 D _ hTh (hTw.below hbaq)).mono ?_
          rintro e' ws ⟨rfl, hbs⟩
          have kg0 : ws.cell? ⟨Bg, 0, none⟩ = some (.slice iag D.ins.length icg) := ((bel_trans hbq hbs).cell (p := ⟨Bg, 0, none⟩) (by show Bg < wm.heap.size; omega)).trans jg0
          have kg1 : ws.cell? ⟨Bg, 1, none⟩ = some (.int .i64 om) := ((bel_trans hbq hbs).cell (p := ⟨Bg, 1, none⟩) (by show Bg < wm.heap.size; omega)).trans jg1
          have kg2 : ws.cell? ⟨Bg, 2, none⟩ = some (.slice oag D.rows.length ocg) := ((bel_trans hbq hbs).cell (p := ⟨Bg, 2, none⟩) (by show Bg < wm.heap.size; omega)).trans jg2
          have kg3 : ws.cell? ⟨Bg, 3, none⟩ = some (.int .i64 0) := ((bel_trans hbq hbs).cell (p := ⟨Bg, 3, none⟩) (by show Bg < wm.heap.size; omega)).trans jg3
          have kg4 : ws.cell? ⟨Bg, 4, none⟩ = some (.int .i64 0) := ((bel_trans hbq hbs).cell (p := ⟨Bg, 4, none⟩) (by show Bg < wm.heap.size; omega)).trans jg4
          have kg5 : ws.cell? ⟨Bg, 5, none⟩ = some (.slice none 0 0) := ((bel_trans hbq hbs).cell (p := ⟨Bg, 5, none⟩) (by show Bg < wm.heap.size; omega)).trans jg5
          have kg6 : ws.cell? ⟨Bg, 6, none⟩ = some (.slice none 0 0) := ((bel_trans hbq hbs).cell (p := ⟨Bg, 6, none⟩) (by show Bg < wm.heap.size; omega)).trans jg6
          clear kw0 kw1 kw2 kw3 kw4 kw5 kw6
          go_wp2_with fail
          refine (heldTk_any iag D.ins.length icg om oag D.rows.length ocg 0 0 none 0 0 none 0 0 (qvs D.ins) _ (hM2.below (bel_trans hbq hbs))).mono ?_
          rw [hKT]
          rintro e' wt ⟨rfl, hbt⟩
          have hbF : Below w.heap.size w wt := bel_trans hbF1 (bel_trans hb1m (bel_trans hbq (bel_trans hbs hbt)))
          go_wp2
          go_ret
          exact ⟨rfl, hbF⟩
end Go.Proofs.Ytppdfmclhklkhaa
