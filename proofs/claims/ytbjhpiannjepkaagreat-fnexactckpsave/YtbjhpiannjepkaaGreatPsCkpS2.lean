/- Laid together: what the claim needs of the texts that were built one by one. -/
import Derived.Test.YtbjhpiannjepkaaGreatPsCkpS
import Derived.Test.YtbjhpiannjepkaaGreatPsBase
namespace Go.Proofs.YtbjhpiannjepkaaGreat
open Go.ChangeShapes Go.WideShapes Go.ChangeAt Go.RowKit Go.Deep
set_option linter.unusedVariables false

theorem hd_10_3_3 {b0 b1 b2 o0x0 o0x1 o0x2 o0x3 o0x4 o0x5 o0x6 o0x7 o0x8 o0x9 o1x0 o1x1 o1x2 o2x0 o2x1 o2x2 : Nat} {v0x0 v0x1 v0x2 v0x3 v0x4 v0x5 v0x6 v0x7 v0x8 v0x9 v1x0 v1x1 v1x2 v2x0 v2x1 v2x2 : Value} {W W' : World} (h : ((W.cell? ⟨b0, o0x0, none⟩ = some (v0x0) ∧ W.cell? ⟨b0, o0x1, none⟩ = some (v0x1) ∧ W.cell? ⟨b0, o0x2, none⟩ = some (v0x2) ∧ W.cell? ⟨b0, o0x3, none⟩ = some (v0x3) ∧ W.cell? ⟨b0, o0x4, none⟩ = some (v0x4) ∧ W.cell? ⟨b0, o0x5, none⟩ = some (v0x5) ∧ W.cell? ⟨b0, o0x6, none⟩ = some (v0x6) ∧ W.cell? ⟨b0, o0x7, none⟩ = some (v0x7) ∧ W.cell? ⟨b0, o0x8, none⟩ = some (v0x8) ∧ W.cell? ⟨b0, o0x9, none⟩ = some (v0x9) ∧ W.cell? ⟨b1, o1x0, none⟩ = some (v1x0) ∧ W.cell? ⟨b1, o1x1, none⟩ = some (v1x1) ∧ W.cell? ⟨b1, o1x2, none⟩ = some (v1x2) ∧ W.cell? ⟨b2, o2x0, none⟩ = some (v2x0) ∧ W.cell? ⟨b2, o2x1, none⟩ = some (v2x1) ∧ W.cell? ⟨b2, o2x2, none⟩ = some (v2x2)) ∧ b0 < W.heap.size ∧ b1 < W.heap.size ∧ b2 < W.heap.size)) (hb : Below W.heap.size W W') : ((W'.cell? ⟨b0, o0x0, none⟩ = some (v0x0) ∧ W'.cell? ⟨b0, o0x1, none⟩ = some (v0x1) ∧ W'.cell? ⟨b0, o0x2, none⟩ = some (v0x2) ∧ W'.cell? ⟨b0, o0x3, none⟩ = some (v0x3) ∧ W'.cell? ⟨b0, o0x4, none⟩ = some (v0x4) ∧ W'.cell? ⟨b0, o0x5, none⟩ = some (v0x5) ∧ W'.cell? ⟨b0, o0x6, none⟩ = some (v0x6) ∧ W'.cell? ⟨b0, o0x7, none⟩ = some (v0x7) ∧ W'.cell? ⟨b0, o0x8, none⟩ = some (v0x8) ∧ W'.cell? ⟨b0, o0x9, none⟩ = some (v0x9) ∧ W'.cell? ⟨b1, o1x0, none⟩ = some (v1x0) ∧ W'.cell? ⟨b1, o1x1, none⟩ = some (v1x1) ∧ W'.cell? ⟨b1, o1x2, none⟩ = some (v1x2) ∧ W'.cell? ⟨b2, o2x0, none⟩ = some (v2x0) ∧ W'.cell? ⟨b2, o2x1, none⟩ = some (v2x1) ∧ W'.cell? ⟨b2, o2x2, none⟩ = some (v2x2)) ∧ b0 < W'.heap.size ∧ b1 < W'.heap.size ∧ b2 < W'.heap.size) := by
  obtain ⟨⟨h0, h1, h2, h3, h4, h5, h6, h7, h8, h9, h10, h11, h12, h13, h14, h15⟩, s0, s1, s2⟩ := h
  refine ⟨⟨?_, ?_, ?_, ?_, ?_, ?_, ?_, ?_, ?_, ?_, ?_, ?_, ?_, ?_, ?_, ?_⟩, Nat.lt_of_lt_of_le s0 hb.size, Nat.lt_of_lt_of_le s1 hb.size, Nat.lt_of_lt_of_le s2 hb.size⟩
  · rw [hb.cell s0]; exact h0
  · rw [hb.cell s0]; exact h1
  · rw [hb.cell s0]; exact h2
  · rw [hb.cell s0]; exact h3
  · rw [hb.cell s0]; exact h4
  · rw [hb.cell s0]; exact h5
  · rw [hb.cell s0]; exact h6
  · rw [hb.cell s0]; exact h7
  · rw [hb.cell s0]; exact h8
  · rw [hb.cell s0]; exact h9
  · rw [hb.cell s1]; exact h10
  · rw [hb.cell s1]; exact h11
  · rw [hb.cell s1]; exact h12
  · rw [hb.cell s2]; exact h13
  · rw [hb.cell s2]; exact h14
  · rw [hb.cell s2]; exact h15

theorem hd_10_3_3_set {b0 b1 b2 o0x0 o0x1 o0x2 o0x3 o0x4 o0x5 o0x6 o0x7 o0x8 o0x9 o1x0 o1x1 o1x2 o2x0 o2x1 o2x2 : Nat} {v0x0 v0x1 v0x2 v0x3 v0x4 v0x5 v0x6 v0x7 v0x8 v0x9 v1x0 v1x1 v1x2 v2x0 v2x1 v2x2 : Value} {W : World} {p : Addr} (h : ((W.cell? ⟨b0, o0x0, none⟩ = some (v0x0) ∧ W.cell? ⟨b0, o0x1, none⟩ = some (v0x1) ∧ W.cell? ⟨b0, o0x2, none⟩ = some (v0x2) ∧ W.cell? ⟨b0, o0x3, none⟩ = some (v0x3) ∧ W.cell? ⟨b0, o0x4, none⟩ = some (v0x4) ∧ W.cell? ⟨b0, o0x5, none⟩ = some (v0x5) ∧ W.cell? ⟨b0, o0x6, none⟩ = some (v0x6) ∧ W.cell? ⟨b0, o0x7, none⟩ = some (v0x7) ∧ W.cell? ⟨b0, o0x8, none⟩ = some (v0x8) ∧ W.cell? ⟨b0, o0x9, none⟩ = some (v0x9) ∧ W.cell? ⟨b1, o1x0, none⟩ = some (v1x0) ∧ W.cell? ⟨b1, o1x1, none⟩ = some (v1x1) ∧ W.cell? ⟨b1, o1x2, none⟩ = some (v1x2) ∧ W.cell? ⟨b2, o2x0, none⟩ = some (v2x0) ∧ W.cell? ⟨b2, o2x1, none⟩ = some (v2x1) ∧ W.cell? ⟨b2, o2x2, none⟩ = some (v2x2)) ∧ b0 < W.heap.size ∧ b1 < W.heap.size ∧ b2 < W.heap.size)) (p0 : p.block ≠ b0) (p1 : p.block ≠ b1) (p2 : p.block ≠ b2) (u : Value) : (((W.setCell p u).cell? ⟨b0, o0x0, none⟩ = some (v0x0) ∧ (W.setCell p u).cell? ⟨b0, o0x1, none⟩ = some (v0x1) ∧ (W.setCell p u).cell? ⟨b0, o0x2, none⟩ = some (v0x2) ∧ (W.setCell p u).cell? ⟨b0, o0x3, none⟩ = some (v0x3) ∧ (W.setCell p u).cell? ⟨b0, o0x4, none⟩ = some (v0x4) ∧ (W.setCell p u).cell? ⟨b0, o0x5, none⟩ = some (v0x5) ∧ (W.setCell p u).cell? ⟨b0, o0x6, none⟩ = some (v0x6) ∧ (W.setCell p u).cell? ⟨b0, o0x7, none⟩ = some (v0x7) ∧ (W.setCell p u).cell? ⟨b0, o0x8, none⟩ = some (v0x8) ∧ (W.setCell p u).cell? ⟨b0, o0x9, none⟩ = some (v0x9) ∧ (W.setCell p u).cell? ⟨b1, o1x0, none⟩ = some (v1x0) ∧ (W.setCell p u).cell? ⟨b1, o1x1, none⟩ = some (v1x1) ∧ (W.setCell p u).cell? ⟨b1, o1x2, none⟩ = some (v1x2) ∧ (W.setCell p u).cell? ⟨b2, o2x0, none⟩ = some (v2x0) ∧ (W.setCell p u).cell? ⟨b2, o2x1, none⟩ = some (v2x1) ∧ (W.setCell p u).cell? ⟨b2, o2x2, none⟩ = some (v2x2)) ∧ b0 < (W.setCell p u).heap.size ∧ b1 < (W.setCell p u).heap.size ∧ b2 < (W.setCell p u).heap.size) := by
  obtain ⟨⟨h0, h1, h2, h3, h4, h5, h6, h7, h8, h9, h10, h11, h12, h13, h14, h15⟩, s0, s1, s2⟩ := h
  have hb : W.heap.size ≤ (W.setCell p u).heap.size := by simp [World.setCell]
  refine ⟨⟨?_, ?_, ?_, ?_, ?_, ?_, ?_, ?_, ?_, ?_, ?_, ?_, ?_, ?_, ?_, ?_⟩, Nat.lt_of_lt_of_le s0 hb, Nat.lt_of_lt_of_le s1 hb, Nat.lt_of_lt_of_le s2 hb⟩
  · rw [cell_set_ne p0]; exact h0
  · rw [cell_set_ne p0]; exact h1
  · rw [cell_set_ne p0]; exact h2
  · rw [cell_set_ne p0]; exact h3
  · rw [cell_set_ne p0]; exact h4
  · rw [cell_set_ne p0]; exact h5
  · rw [cell_set_ne p0]; exact h6
  · rw [cell_set_ne p0]; exact h7
  · rw [cell_set_ne p0]; exact h8
  · rw [cell_set_ne p0]; exact h9
  · rw [cell_set_ne p1]; exact h10
  · rw [cell_set_ne p1]; exact h11
  · rw [cell_set_ne p1]; exact h12
  · rw [cell_set_ne p2]; exact h13
  · rw [cell_set_ne p2]; exact h14
  · rw [cell_set_ne p2]; exact h15

theorem hd_10_3_3_re {b0 b1 b2 o0x0 o0x1 o0x2 o0x3 o0x4 o0x5 o0x6 o0x7 o0x8 o0x9 o1x0 o1x1 o1x2 o2x0 o2x1 o2x2 : Nat} {v0x0 v0x1 v0x2 v0x3 v0x4 v0x5 v0x6 v0x7 v0x8 v0x9 v1x0 v1x1 v1x2 v2x0 v2x1 v2x2 : Value} {W : World} {o o' : Obj} (h : (((W.alloc o).cell? ⟨b0, o0x0, none⟩ = some (v0x0) ∧ (W.alloc o).cell? ⟨b0, o0x1, none⟩ = some (v0x1) ∧ (W.alloc o).cell? ⟨b0, o0x2, none⟩ = some (v0x2) ∧ (W.alloc o).cell? ⟨b0, o0x3, none⟩ = some (v0x3) ∧ (W.alloc o).cell? ⟨b0, o0x4, none⟩ = some (v0x4) ∧ (W.alloc o).cell? ⟨b0, o0x5, none⟩ = some (v0x5) ∧ (W.alloc o).cell? ⟨b0, o0x6, none⟩ = some (v0x6) ∧ (W.alloc o).cell? ⟨b0, o0x7, none⟩ = some (v0x7) ∧ (W.alloc o).cell? ⟨b0, o0x8, none⟩ = some (v0x8) ∧ (W.alloc o).cell? ⟨b0, o0x9, none⟩ = some (v0x9) ∧ (W.alloc o).cell? ⟨b1, o1x0, none⟩ = some (v1x0) ∧ (W.alloc o).cell? ⟨b1, o1x1, none⟩ = some (v1x1) ∧ (W.alloc o).cell? ⟨b1, o1x2, none⟩ = some (v1x2) ∧ (W.alloc o).cell? ⟨b2, o2x0, none⟩ = some (v2x0) ∧ (W.alloc o).cell? ⟨b2, o2x1, none⟩ = some (v2x1) ∧ (W.alloc o).cell? ⟨b2, o2x2, none⟩ = some (v2x2)) ∧ b0 < (W.alloc o).heap.size ∧ b1 < (W.alloc o).heap.size ∧ b2 < (W.alloc o).heap.size)) (p0 : b0 < W.heap.size) (p1 : b1 < W.heap.size) (p2 : b2 < W.heap.size) : (((W.alloc o').cell? ⟨b0, o0x0, none⟩ = some (v0x0) ∧ (W.alloc o').cell? ⟨b0, o0x1, none⟩ = some (v0x1) ∧ (W.alloc o').cell? ⟨b0, o0x2, none⟩ = some (v0x2) ∧ (W.alloc o').cell? ⟨b0, o0x3, none⟩ = some (v0x3) ∧ (W.alloc o').cell? ⟨b0, o0x4, none⟩ = some (v0x4) ∧ (W.alloc o').cell? ⟨b0, o0x5, none⟩ = some (v0x5) ∧ (W.alloc o').cell? ⟨b0, o0x6, none⟩ = some (v0x6) ∧ (W.alloc o').cell? ⟨b0, o0x7, none⟩ = some (v0x7) ∧ (W.alloc o').cell? ⟨b0, o0x8, none⟩ = some (v0x8) ∧ (W.alloc o').cell? ⟨b0, o0x9, none⟩ = some (v0x9) ∧ (W.alloc o').cell? ⟨b1, o1x0, none⟩ = some (v1x0) ∧ (W.alloc o').cell? ⟨b1, o1x1, none⟩ = some (v1x1) ∧ (W.alloc o').cell? ⟨b1, o1x2, none⟩ = some (v1x2) ∧ (W.alloc o').cell? ⟨b2, o2x0, none⟩ = some (v2x0) ∧ (W.alloc o').cell? ⟨b2, o2x1, none⟩ = some (v2x1) ∧ (W.alloc o').cell? ⟨b2, o2x2, none⟩ = some (v2x2)) ∧ b0 < (W.alloc o').heap.size ∧ b1 < (W.alloc o').heap.size ∧ b2 < (W.alloc o').heap.size) := by
  obtain ⟨⟨h0, h1, h2, h3, h4, h5, h6, h7, h8, h9, h10, h11, h12, h13, h14, h15⟩, s0, s1, s2⟩ := h
  have hb : Below W.heap.size (W.alloc o) (W.alloc o') := bel_re W o o'
  refine ⟨⟨?_, ?_, ?_, ?_, ?_, ?_, ?_, ?_, ?_, ?_, ?_, ?_, ?_, ?_, ?_, ?_⟩, Nat.lt_of_lt_of_le s0 hb.size, Nat.lt_of_lt_of_le s1 hb.size, Nat.lt_of_lt_of_le s2 hb.size⟩
  · rw [hb.cell p0]; exact h0
  · rw [hb.cell p0]; exact h1
  · rw [hb.cell p0]; exact h2
  · rw [hb.cell p0]; exact h3
  · rw [hb.cell p0]; exact h4
  · rw [hb.cell p0]; exact h5
  · rw [hb.cell p0]; exact h6
  · rw [hb.cell p0]; exact h7
  · rw [hb.cell p0]; exact h8
  · rw [hb.cell p0]; exact h9
  · rw [hb.cell p1]; exact h10
  · rw [hb.cell p1]; exact h11
  · rw [hb.cell p1]; exact h12
  · rw [hb.cell p2]; exact h13
  · rw [hb.cell p2]; exact h14
  · rw [hb.cell p2]; exact h15

set_option maxRecDepth 20000 in
set_option maxHeartbeats 2000000 in
theorem l9safe_any (s t k z p l e : Int) (b : Bool) (v r : Int) (x : CsD) (a1 : Option Addr) (l1 c1 : Nat) (a2 : Option Addr) (l2 c2 : Nat) (B : Nat) (w : World) (h1 : InB w B a1 l1 x.at_) (h2 : SnB w B a2 l2 x.ssn) : Calls Tryz.prog 47 #[.agg #[.int .i64 s, .int .i64 t, .int .i64 k, .int .i64 z, .int .i64 p, .int .i64 l, .int .i64 e, .bool b, .int .i64 v, .int .i64 r], .agg #[.int .i64 x.sfn, .slice a1 l1 c1, .slice a2 l2 c2]] w fun e' w' => e' = .returned (.bool (okCs s t k z p l e v r x)) ∧ Below w.heap.size w w' := by
  have le1 := h1.len.1
  have hm1 := h1.len.2
  have le2 := h2.len.1
  have hm2 := h2.len.2
  unfold maxLen at hm1 hm2
  cases hi : inB x.sfn 0 900
  · skip
    have HE : Hid (okCs s t k z p l e v r x = false) := hide (by unfold okCs; rw [hi]; rfl)
    go_enter Tryz.func47, Tryz.ntmps47
    go_wp2_with (go_at_call 46; refine (l1In_any _ _ _ _).mono ?_; rw [hi]; rintro e' w5 ⟨rfl, hw⟩; obtain rfl := hw.symm; clear hw)
    go_ret
    exact ⟨ret_b (unhide HE).symm, (belA)⟩
  by_cases hl : (l1 : Int) = s
  rotate_left
  · have hl1 : ((l1 : Int) == s) = false := beq_eq_false_iff_ne.2 hl
    have hl2 : ((l1 : Int) != s) = true := by simp [hl]
    have HE : Hid (okCs s t k z p l e v r x = false) := hide (by unfold okCs; rw [hi, decide_eq_false (by rw [le1]; exact hl)]; rfl)
    go_enter Tryz.func47, Tryz.ntmps47
    go_wp2_with (go_at_call 46; refine (l1In_any _ _ _ _).mono ?_; rw [hi]; rintro e' w5 ⟨rfl, hw⟩; obtain rfl := hw.symm; clear hw)
    go_ret
    exact ⟨ret_b (unhide HE).symm, (belA)⟩
  by_cases ht : (l2 : Int) = t
  rotate_left
  · subst hl
    have hl1 : ((l2 : Int) == t) = false := beq_eq_false_iff_ne.2 ht
    have hl2 : ((l2 : Int) != t) = true := by simp [ht]
    have HE : Hid (okCs (l1 : Int) t k z p l e v r x = false) := hide (by unfold okCs; rw [hi, decide_eq_true (by rw [le1]), decide_eq_false (by rw [le2]; exact ht)]; rfl)
    go_enter Tryz.func47, Tryz.ntmps47
    go_wp2_with (go_at_call 46; refine (l1In_any _ _ _ _).mono ?_; rw [hi]; rintro e' w5 ⟨rfl, hw⟩; obtain rfl := hw.symm; clear hw)
    go_ret
    exact ⟨ret_b (unhide HE).symm, (belA)⟩
  subst hl
  subst ht
  have HV : Hid (okCs (l1 : Int) (l2 : Int) k z p l e v r x = (x.at_.all okAtI && x.ssn.all (okSn (l1 : Int) (l2 : Int) k z p l e v r))) := hide (by unfold okCs; rw [hi, decide_eq_true (by rw [le1]), decide_eq_true (by rw [le2])]; rfl)
  go_enter Tryz.func47, Tryz.ntmps47
  go_wp2_with (go_at_call 46; refine (l1In_any _ _ _ _).mono ?_; rw [hi]; rintro e' w5 ⟨rfl, hw⟩; obtain rfl := hw.symm; clear hw)
  have hW : Below w.heap.size w ((w.alloc (.cells #[.int .i64 (l1 : Int), .int .i64 (l2 : Int), .int .i64 k, .int .i64 z, .int .i64 p, .int .i64 l, .int .i64 e, .bool b, .int .i64 v, .int .i64 r] 39)).alloc (.cells #[.int .i64 x.sfn, .slice a1 l1 c1, .slice a2 l2 c2] 34)) := bel_alloc (bel_one _ _) _
  have H1 := h1.1.below hW
  have H2 := h2.below hW
  clear hi
  go_loopw [5] (fun i wr => ∃ ix : Nat, ix ≤ l1 ∧ i = .int .i64 ix ∧ Hid ((x.at_.take ix).all okAtI = true) ∧ Below ((w.alloc (.cells #[.int .i64 (l1 : Int), .int .i64 (l2 : Int), .int .i64 k, .int .i64 z, .int .i64 p, .int .i64 l, .int .i64 e, .bool b, .int .i64 v, .int .i64 r] 39)).alloc (.cells #[.int .i64 x.sfn, .slice a1 l1 c1, .slice a2 l2 c2] 34)).heap.size ((w.alloc (.cells #[.int .i64 (l1 : Int), .int .i64 (l2 : Int), .int .i64 k, .int .i64 z, .int .i64 p, .int .i64 l, .int .i64 e, .bool b, .int .i64 v, .int .i64 r] 39)).alloc (.cells #[.int .i64 x.sfn, .slice a1 l1 c1, .slice a2 l2 c2] 34)) wr) (fun i _ => l1 - (intOf i).toNat)
  case atStart => exact ⟨0, Nat.zero_le _, rfl, hide (by simp), Below.refl _ _⟩
  case round =>
    obtain ⟨ix, hk, rfl, hA, hbw⟩ := hrel
    have tb0 : wr.cell? ⟨w.heap.size + 1, 0, none⟩ = some (.int .i64 x.sfn) := (hbw.cell (p := ⟨w.heap.size + 1, 0, none⟩) (by simp <;> omega)).trans (by simp [go_sem])
    have tb1 : wr.cell? ⟨w.heap.size + 1, 1, none⟩ = some (.slice a1 l1 c1) := (hbw.cell (p := ⟨w.heap.size + 1, 1, none⟩) (by simp <;> omega)).trans (by simp [go_sem])
    have tb2 : wr.cell? ⟨w.heap.size + 1, 2, none⟩ = some (.slice a2 l2 c2) := (hbw.cell (p := ⟨w.heap.size + 1, 2, none⟩) (by simp <;> omega)).trans (by simp [go_sem])
    by_cases hlt : ix < l1
    · obtain ⟨hxl, _, hx⟩ := H1
      obtain ⟨g, o, rfl, hrr⟩ := hx.resolve_left (by omega)
      obtain ⟨y, hyk⟩ : ∃ y, x.at_[ix]? = some y := ⟨_, List.getElem?_eq_getElem (by omega)⟩
      have hg := hrr.lt (by omega)
      have hX := hide hyk
      have d0 := (hbw.cell (p := ⟨g, o + ix, none⟩) hg).trans (hrr ix _ hyk)
      clear hx hyk hrr
      cases hB : inB y 0 40
      · have HE : Hid (x.at_.all okAtI = false) := hide (all_ff (unhide hX) hB)
        go_wp2_with (go_at_call 46; refine (l1In_any _ _ _ _).mono ?_; rw [hB]; rintro e' w5 ⟨rfl, hw⟩; obtain rfl := hw.symm; clear hw)
        go_ret
        exact ⟨ret_b (by rw [unhide HV, unhide HE]; rfl), (belA)⟩
      · have HE : Hid ((x.at_.take (ix + 1)).all okAtI = true) := hide (all_tt (unhide hA) (unhide hX) hB)
        go_wp2_with (go_at_call 46; refine (l1In_any _ _ _ _).mono ?_; rw [hB]; rintro e' w5 ⟨rfl, hw⟩; obtain rfl := hw.symm; clear hw)
        go_roundw
        case rel => exact ⟨ix + 1, by omega, by go_num, HE, (belA)⟩
        case measure => simp [intOf]; omega
    · have HV2 : Hid (okCs (l1 : Int) (l2 : Int) k z p l e v r x = x.ssn.all (okSn (l1 : Int) (l2 : Int) k z p l e v r)) := hide (by rw [unhide HV, all_end (unhide hA) (by omega)]; rfl)
      clear HV hA
      obtain ⟨wz, hwz⟩ : ∃ wz, wz = wr := ⟨_, rfl⟩
      subst hwz
      have H3 := H2.below hbw
      have hWz : Below w.heap.size w wz := (belA)
      have jb0 : wz.cell? ⟨w.heap.size, 0, none⟩ = some (.int .i64 (l1 : Int)) := (hbw.cell (p := ⟨w.heap.size, 0, none⟩) (by simp <;> omega)).trans (by simp [go_sem])
      have jb1 : wz.cell? ⟨w.heap.size, 1, none⟩ = some (.int .i64 (l2 : Int)) := (hbw.cell (p := ⟨w.heap.size, 1, none⟩) (by simp <;> omega)).trans (by simp [go_sem])
      have jb2 : wz.cell? ⟨w.heap.size, 2, none⟩ = some (.int .i64 k) := (hbw.cell (p := ⟨w.heap.size, 2, none⟩) (by simp <;> omega)).trans (by simp [go_sem])
      have jb3 : wz.cell? ⟨w.heap.size, 3, none⟩ = some (.int .i64 z) := (hbw.cell (p := ⟨w.heap.size, 3, none⟩) (by simp <;> omega)).trans (by simp [go_sem])
      have jb4 : wz.cell? ⟨w.heap.size, 4, none⟩ = some (.int .i64 p) := (hbw.cell (p := ⟨w.heap.size, 4, none⟩) (by simp <;> omega)).trans (by simp [go_sem])
      have jb5 : wz.cell? ⟨w.heap.size, 5, none⟩ = some (.int .i64 l) := (hbw.cell (p := ⟨w.heap.size, 5, none⟩) (by simp <;> omega)).trans (by simp [go_sem])
      have jb6 : wz.cell? ⟨w.heap.size, 6, none⟩ = some (.int .i64 e) := (hbw.cell (p := ⟨w.heap.size, 6, none⟩) (by simp <;> omega)).trans (by simp [go_sem])
      have jb7 : wz.cell? ⟨w.heap.size, 7, none⟩ = some (.bool b) := (hbw.cell (p := ⟨w.heap.size, 7, none⟩) (by simp <;> omega)).trans (by simp [go_sem])
      have jb8 : wz.cell? ⟨w.heap.size, 8, none⟩ = some (.int .i64 v) := (hbw.cell (p := ⟨w.heap.size, 8, none⟩) (by simp <;> omega)).trans (by simp [go_sem])
      have jb9 : wz.cell? ⟨w.heap.size, 9, none⟩ = some (.int .i64 r) := (hbw.cell (p := ⟨w.heap.size, 9, none⟩) (by simp <;> omega)).trans (by simp [go_sem])
      have hzz : w.heap.size + 1 < wz.heap.size := by have h9 := hbw.size; simp at h9; omega
      go_wp2
      go_loopw [6] (fun i wr => ∃ ix : Nat, ix ≤ l2 ∧ i = .int .i64 ix ∧ Hid ((x.ssn.take ix).all (okSn (l1 : Int) (l2 : Int) k z p l e v r) = true) ∧ Below wz.heap.size wz wr) (fun i _ => l2 - (intOf i).toNat)
      case atStart => exact ⟨0, Nat.zero_le _, rfl, hide (by simp), Below.refl _ _⟩
      case round =>
        obtain ⟨ix, hk, rfl, hA, hbq⟩ := hrel
        have jc0 : wr.cell? ⟨w.heap.size, 0, none⟩ = some (.int .i64 (l1 : Int)) := (hbq.cell (p := ⟨w.heap.size, 0, none⟩) (by simp <;> omega)).trans jb0
        have jc1 : wr.cell? ⟨w.heap.size, 1, none⟩ = some (.int .i64 (l2 : Int)) := (hbq.cell (p := ⟨w.heap.size, 1, none⟩) (by simp <;> omega)).trans jb1
        have jc2 : wr.cell? ⟨w.heap.size, 2, none⟩ = some (.int .i64 k) := (hbq.cell (p := ⟨w.heap.size, 2, none⟩) (by simp <;> omega)).trans jb2
        have jc3 : wr.cell? ⟨w.heap.size, 3, none⟩ = some (.int .i64 z) := (hbq.cell (p := ⟨w.heap.size, 3, none⟩) (by simp <;> omega)).trans jb3
        have jc4 : wr.cell? ⟨w.heap.size, 4, none⟩ = some (.int .i64 p) := (hbq.cell (p := ⟨w.heap.size, 4, none⟩) (by simp <;> omega)).trans jb4
        have jc5 : wr.cell? ⟨w.heap.size, 5, none⟩ = some (.int .i64 l) := (hbq.cell (p := ⟨w.heap.size, 5, none⟩) (by simp <;> omega)).trans jb5
        have jc6 : wr.cell? ⟨w.heap.size, 6, none⟩ = some (.int .i64 e) := (hbq.cell (p := ⟨w.heap.size, 6, none⟩) (by simp <;> omega)).trans jb6
        have jc7 : wr.cell? ⟨w.heap.size, 7, none⟩ = some (.bool b) := (hbq.cell (p := ⟨w.heap.size, 7, none⟩) (by simp <;> omega)).trans jb7
        have jc8 : wr.cell? ⟨w.heap.size, 8, none⟩ = some (.int .i64 v) := (hbq.cell (p := ⟨w.heap.size, 8, none⟩) (by simp <;> omega)).trans jb8
        have jc9 : wr.cell? ⟨w.heap.size, 9, none⟩ = some (.int .i64 r) := (hbq.cell (p := ⟨w.heap.size, 9, none⟩) (by simp <;> omega)).trans jb9
        have tc0 : wr.cell? ⟨w.heap.size + 1, 0, none⟩ = some (.int .i64 x.sfn) := (hbq.cell (p := ⟨w.heap.size + 1, 0, none⟩) (by simp <;> omega)).trans tb0
        have tc1 : wr.cell? ⟨w.heap.size + 1, 1, none⟩ = some (.slice a1 l1 c1) := (hbq.cell (p := ⟨w.heap.size + 1, 1, none⟩) (by simp <;> omega)).trans tb1
        have tc2 : wr.cell? ⟨w.heap.size + 1, 2, none⟩ = some (.slice a2 l2 c2) := (hbq.cell (p := ⟨w.heap.size + 1, 2, none⟩) (by simp <;> omega)).trans tb2
        have hz2 : w.heap.size + 1 < wr.heap.size := by have h9 := hbq.size; omega
        by_cases hlt : ix < l2
        · obtain ⟨hxl, _, hx⟩ := H3
          obtain ⟨g, o, rfl, _, hrr⟩ := hx.resolve_left (by omega)
          obtain ⟨y, hyk⟩ : ∃ y, x.ssn[ix]? = some y := ⟨_, List.getElem?_eq_getElem (by omega)⟩
          have hltI : (ix : Int) < (l2 : Int) := by omega
          have t1 := (hrr ix _ hyk).below hbq
          have hg := t1.lt
          have hX := hide hyk
          obtain ⟨qa1, ql1, qc1, qa2, ql2, qc2, ⟨d0, d1, d2⟩, k1, k2⟩ := t1
          clear hx hyk hrr
          have hS : ((wr.cell? ⟨w.heap.size, 0, none⟩ = some (.int .i64 (l1 : Int)) ∧ wr.cell? ⟨w.heap.size, 1, none⟩ = some (.int .i64 (l2 : Int)) ∧ wr.cell? ⟨w.heap.size, 2, none⟩ = some (.int .i64 k) ∧ wr.cell? ⟨w.heap.size, 3, none⟩ = some (.int .i64 z) ∧ wr.cell? ⟨w.heap.size, 4, none⟩ = some (.int .i64 p) ∧ wr.cell? ⟨w.heap.size, 5, none⟩ = some (.int .i64 l) ∧ wr.cell? ⟨w.heap.size, 6, none⟩ = some (.int .i64 e) ∧ wr.cell? ⟨w.heap.size, 7, none⟩ = some (.bool b) ∧ wr.cell? ⟨w.heap.size, 8, none⟩ = some (.int .i64 v) ∧ wr.cell? ⟨w.heap.size, 9, none⟩ = some (.int .i64 r) ∧ wr.cell? ⟨w.heap.size + 1, 0, none⟩ = some (.int .i64 x.sfn) ∧ wr.cell? ⟨w.heap.size + 1, 1, none⟩ = some (.slice a1 l1 c1) ∧ wr.cell? ⟨w.heap.size + 1, 2, none⟩ = some (.slice (some ⟨g, o, none⟩) l2 c2) ∧ wr.cell? ⟨g, o + ix * 3, none⟩ = some (.int .i64 y.ma) ∧ wr.cell? ⟨g, o + ix * 3 + 1, none⟩ = some (.slice qa1 ql1 qc1) ∧ wr.cell? ⟨g, o + ix * 3 + 2, none⟩ = some (.slice qa2 ql2 qc2)) ∧ w.heap.size < wr.heap.size ∧ w.heap.size + 1 < wr.heap.size ∧ g < wr.heap.size) := ⟨⟨jc0, jc1, jc2, jc3, jc4, jc5, jc6, jc7, jc8, jc9, tc0, tc1, tc2, d0, d1, d2⟩, by omega, by omega, hg⟩
          cases hB : okSn (l1 : Int) (l2 : Int) k z p l e v r y
          · have HE : Hid (x.ssn.all (okSn (l1 : Int) (l2 : Int) k z p l e v r) = false) := hide (all_ff (unhide hX) hB)
            go_wp2_with fail
            go_region_held3 (fun W => ((W.cell? ⟨w.heap.size, 0, none⟩ = some (.int .i64 (l1 : Int)) ∧ W.cell? ⟨w.heap.size, 1, none⟩ = some (.int .i64 (l2 : Int)) ∧ W.cell? ⟨w.heap.size, 2, none⟩ = some (.int .i64 k) ∧ W.cell? ⟨w.heap.size, 3, none⟩ = some (.int .i64 z) ∧ W.cell? ⟨w.heap.size, 4, none⟩ = some (.int .i64 p) ∧ W.cell? ⟨w.heap.size, 5, none⟩ = some (.int .i64 l) ∧ W.cell? ⟨w.heap.size, 6, none⟩ = some (.int .i64 e) ∧ W.cell? ⟨w.heap.size, 7, none⟩ = some (.bool b) ∧ W.cell? ⟨w.heap.size, 8, none⟩ = some (.int .i64 v) ∧ W.cell? ⟨w.heap.size, 9, none⟩ = some (.int .i64 r) ∧ W.cell? ⟨w.heap.size + 1, 0, none⟩ = some (.int .i64 x.sfn) ∧ W.cell? ⟨w.heap.size + 1, 1, none⟩ = some (.slice a1 l1 c1) ∧ W.cell? ⟨w.heap.size + 1, 2, none⟩ = some (.slice (some ⟨g, o, none⟩) l2 c2) ∧ W.cell? ⟨g, o + ix * 3, none⟩ = some (.int .i64 y.ma) ∧ W.cell? ⟨g, o + ix * 3 + 1, none⟩ = some (.slice qa1 ql1 qc1) ∧ W.cell? ⟨g, o + ix * 3 + 2, none⟩ = some (.slice qa2 ql2 qc2)) ∧ w.heap.size < W.heap.size ∧ w.heap.size + 1 < W.heap.size ∧ g < W.heap.size)) ((first | ((repeat (first | (with_reducible assumption) | (with_reducible refine hd_10_3_3 ?_ (by with_reducible assumption)) | (with_reducible refine hd_10_3_3 ?_ (bel_drew (Below.refl _ _))) | (with_reducible exact hd_10_3_3_re (by with_reducible assumption) (sB) (sB) (sB)) | (with_reducible refine hd_10_3_3 ?_ (bel_one _ _)) | (with_reducible refine hd_10_3_3_set ?_ (sB) (sB) (sB) _))); done) | (refine ⟨⟨?_, ?_, ?_, ?_, ?_, ?_, ?_, ?_, ?_, ?_, ?_, ?_, ?_, ?_, ?_, ?_⟩, ?_, ?_, ?_⟩ <;> first | (go_keep; done) | (simp; done) | (simp; omega) | omega)))
              (first
              | (go_at_call 48; refine (l9snap_any (l1 : Int) (l2 : Int) k z p l e b v r y qa1 ql1 qc1 qa2 ql2 qc2 B _ (k1.below (belA)) (k2.below (belA))).mono ?_; rw [hB]; rintro e' w' ⟨rfl, hb⟩; obtain ⟨hc, hf, hs⟩ := bcell hb))
            go_wp2
            go_ret
            exact ⟨ret_b (by rw [unhide HV2, unhide HE]), (belA)⟩
          · have HE : Hid ((x.ssn.take (ix + 1)).all (okSn (l1 : Int) (l2 : Int) k z p l e v r) = true) := hide (all_tt (unhide hA) (unhide hX) hB)
            go_wp2_with fail
            go_region_held3 (fun W => ((W.cell? ⟨w.heap.size, 0, none⟩ = some (.int .i64 (l1 : Int)) ∧ W.cell? ⟨w.heap.size, 1, none⟩ = some (.int .i64 (l2 : Int)) ∧ W.cell? ⟨w.heap.size, 2, none⟩ = some (.int .i64 k) ∧ W.cell? ⟨w.heap.size, 3, none⟩ = some (.int .i64 z) ∧ W.cell? ⟨w.heap.size, 4, none⟩ = some (.int .i64 p) ∧ W.cell? ⟨w.heap.size, 5, none⟩ = some (.int .i64 l) ∧ W.cell? ⟨w.heap.size, 6, none⟩ = some (.int .i64 e) ∧ W.cell? ⟨w.heap.size, 7, none⟩ = some (.bool b) ∧ W.cell? ⟨w.heap.size, 8, none⟩ = some (.int .i64 v) ∧ W.cell? ⟨w.heap.size, 9, none⟩ = some (.int .i64 r) ∧ W.cell? ⟨w.heap.size + 1, 0, none⟩ = some (.int .i64 x.sfn) ∧ W.cell? ⟨w.heap.size + 1, 1, none⟩ = some (.slice a1 l1 c1) ∧ W.cell? ⟨w.heap.size + 1, 2, none⟩ = some (.slice (some ⟨g, o, none⟩) l2 c2) ∧ W.cell? ⟨g, o + ix * 3, none⟩ = some (.int .i64 y.ma) ∧ W.cell? ⟨g, o + ix * 3 + 1, none⟩ = some (.slice qa1 ql1 qc1) ∧ W.cell? ⟨g, o + ix * 3 + 2, none⟩ = some (.slice qa2 ql2 qc2)) ∧ w.heap.size < W.heap.size ∧ w.heap.size + 1 < W.heap.size ∧ g < W.heap.size)) ((first | ((repeat (first | (with_reducible assumption) | (with_reducible refine hd_10_3_3 ?_ (by with_reducible assumption)) | (with_reducible refine hd_10_3_3 ?_ (bel_drew (Below.refl _ _))) | (with_reducible exact hd_10_3_3_re (by with_reducible assumption) (sB) (sB) (sB)) | (with_reducible refine hd_10_3_3 ?_ (bel_one _ _)) | (with_reducible refine hd_10_3_3_set ?_ (sB) (sB) (sB) _))); done) | (refine ⟨⟨?_, ?_, ?_, ?_, ?_, ?_, ?_, ?_, ?_, ?_, ?_, ?_, ?_, ?_, ?_, ?_⟩, ?_, ?_, ?_⟩ <;> first | (go_keep; done) | (simp; done) | (simp; omega) | omega)))
              (first
              | (go_at_call 48; refine (l9snap_any (l1 : Int) (l2 : Int) k z p l e b v r y qa1 ql1 qc1 qa2 ql2 qc2 B _ (k1.below (belA)) (k2.below (belA))).mono ?_; rw [hB]; rintro e' w' ⟨rfl, hb⟩; obtain ⟨hc, hf, hs⟩ := bcell hb))
            go_wp2
            go_roundw
            case rel => exact ⟨ix + 1, by omega, by go_num, HE, (belA)⟩
            case measure => simp [intOf]; omega
        · have HE : Hid (okCs (l1 : Int) (l2 : Int) k z p l e v r x = true) := hide (by rw [unhide HV2, all_end (unhide hA) (by omega)])
          go_wp2
          go_ret
          exact ⟨ret_b (unhide HE).symm, (belA)⟩
end Go.Proofs.YtbjhpiannjepkaaGreat
