/- Proved here: the law on CkpNew returns true at every argument. -/
import Derived.Test.YtdcjjdbggilahaaCkpX
import Derived.Test.YtdcjjdbggilahaaCkpW
namespace Go.Proofs.Ytdcjjdbggilahaa
open Go.ChangeShapes Go.WideShapes Go.ChangeAt Go.RowKit Go.Deep
set_option linter.unusedVariables false

theorem hd_10 {b0 o0x0 o0x1 o0x2 o0x3 o0x4 o0x5 o0x6 o0x7 o0x8 o0x9 : Nat} {v0x0 v0x1 v0x2 v0x3 v0x4 v0x5 v0x6 v0x7 v0x8 v0x9 : Value} {W W' : World} (h : ((W.cell? ⟨b0, o0x0, none⟩ = some (v0x0) ∧ W.cell? ⟨b0, o0x1, none⟩ = some (v0x1) ∧ W.cell? ⟨b0, o0x2, none⟩ = some (v0x2) ∧ W.cell? ⟨b0, o0x3, none⟩ = some (v0x3) ∧ W.cell? ⟨b0, o0x4, none⟩ = some (v0x4) ∧ W.cell? ⟨b0, o0x5, none⟩ = some (v0x5) ∧ W.cell? ⟨b0, o0x6, none⟩ = some (v0x6) ∧ W.cell? ⟨b0, o0x7, none⟩ = some (v0x7) ∧ W.cell? ⟨b0, o0x8, none⟩ = some (v0x8) ∧ W.cell? ⟨b0, o0x9, none⟩ = some (v0x9)) ∧ b0 < W.heap.size)) (hb : Below W.heap.size W W') : ((W'.cell? ⟨b0, o0x0, none⟩ = some (v0x0) ∧ W'.cell? ⟨b0, o0x1, none⟩ = some (v0x1) ∧ W'.cell? ⟨b0, o0x2, none⟩ = some (v0x2) ∧ W'.cell? ⟨b0, o0x3, none⟩ = some (v0x3) ∧ W'.cell? ⟨b0, o0x4, none⟩ = some (v0x4) ∧ W'.cell? ⟨b0, o0x5, none⟩ = some (v0x5) ∧ W'.cell? ⟨b0, o0x6, none⟩ = some (v0x6) ∧ W'.cell? ⟨b0, o0x7, none⟩ = some (v0x7) ∧ W'.cell? ⟨b0, o0x8, none⟩ = some (v0x8) ∧ W'.cell? ⟨b0, o0x9, none⟩ = some (v0x9)) ∧ b0 < W'.heap.size) := by
  obtain ⟨⟨h0, h1, h2, h3, h4, h5, h6, h7, h8, h9⟩, s0⟩ := h
  refine ⟨⟨?_, ?_, ?_, ?_, ?_, ?_, ?_, ?_, ?_, ?_⟩, Nat.lt_of_lt_of_le s0 hb.size⟩
  · rw [hb.cell s0]; exact h0
  · rw [hb.cell s0]; exact h1
  · rw [hb.cell s0]; exact h2
  · rw [hb.cell s0]; exact h3
  · rw [hb.cell s0]; exact h4
  · rw [hb.cell s0]; exact h5
  · rw [hb.cell s0]; exact h6
  · rw [hb.cell s0]; exact h7
  · rw [hb.cell s0]; exact h8
  · rw [hb.cell s0]; exact h9

theorem hd_10_set {b0 o0x0 o0x1 o0x2 o0x3 o0x4 o0x5 o0x6 o0x7 o0x8 o0x9 : Nat} {v0x0 v0x1 v0x2 v0x3 v0x4 v0x5 v0x6 v0x7 v0x8 v0x9 : Value} {W : World} {p : Addr} (h : ((W.cell? ⟨b0, o0x0, none⟩ = some (v0x0) ∧ W.cell? ⟨b0, o0x1, none⟩ = some (v0x1) ∧ W.cell? ⟨b0, o0x2, none⟩ = some (v0x2) ∧ W.cell? ⟨b0, o0x3, none⟩ = some (v0x3) ∧ W.cell? ⟨b0, o0x4, none⟩ = some (v0x4) ∧ W.cell? ⟨b0, o0x5, none⟩ = some (v0x5) ∧ W.cell? ⟨b0, o0x6, none⟩ = some (v0x6) ∧ W.cell? ⟨b0, o0x7, none⟩ = some (v0x7) ∧ W.cell? ⟨b0, o0x8, none⟩ = some (v0x8) ∧ W.cell? ⟨b0, o0x9, none⟩ = some (v0x9)) ∧ b0 < W.heap.size)) (p0 : p.block ≠ b0) (u : Value) : (((W.setCell p u).cell? ⟨b0, o0x0, none⟩ = some (v0x0) ∧ (W.setCell p u).cell? ⟨b0, o0x1, none⟩ = some (v0x1) ∧ (W.setCell p u).cell? ⟨b0, o0x2, none⟩ = some (v0x2) ∧ (W.setCell p u).cell? ⟨b0, o0x3, none⟩ = some (v0x3) ∧ (W.setCell p u).cell? ⟨b0, o0x4, none⟩ = some (v0x4) ∧ (W.setCell p u).cell? ⟨b0, o0x5, none⟩ = some (v0x5) ∧ (W.setCell p u).cell? ⟨b0, o0x6, none⟩ = some (v0x6) ∧ (W.setCell p u).cell? ⟨b0, o0x7, none⟩ = some (v0x7) ∧ (W.setCell p u).cell? ⟨b0, o0x8, none⟩ = some (v0x8) ∧ (W.setCell p u).cell? ⟨b0, o0x9, none⟩ = some (v0x9)) ∧ b0 < (W.setCell p u).heap.size) := by
  obtain ⟨⟨h0, h1, h2, h3, h4, h5, h6, h7, h8, h9⟩, s0⟩ := h
  have hb : W.heap.size ≤ (W.setCell p u).heap.size := by simp [World.setCell]
  refine ⟨⟨?_, ?_, ?_, ?_, ?_, ?_, ?_, ?_, ?_, ?_⟩, Nat.lt_of_lt_of_le s0 hb⟩
  · rw [cell_set_ne p0]; exact h0
  · rw [cell_set_ne p0]; exact h1
  · rw [cell_set_ne p0]; exact h2
  · rw [cell_set_ne p0]; exact h3
  · rw [cell_set_ne p0]; exact h4
  · rw [cell_set_ne p0]; exact h5
  · rw [cell_set_ne p0]; exact h6
  · rw [cell_set_ne p0]; exact h7
  · rw [cell_set_ne p0]; exact h8
  · rw [cell_set_ne p0]; exact h9

theorem hd_10_re {b0 o0x0 o0x1 o0x2 o0x3 o0x4 o0x5 o0x6 o0x7 o0x8 o0x9 : Nat} {v0x0 v0x1 v0x2 v0x3 v0x4 v0x5 v0x6 v0x7 v0x8 v0x9 : Value} {W : World} {o o' : Obj} (h : (((W.alloc o).cell? ⟨b0, o0x0, none⟩ = some (v0x0) ∧ (W.alloc o).cell? ⟨b0, o0x1, none⟩ = some (v0x1) ∧ (W.alloc o).cell? ⟨b0, o0x2, none⟩ = some (v0x2) ∧ (W.alloc o).cell? ⟨b0, o0x3, none⟩ = some (v0x3) ∧ (W.alloc o).cell? ⟨b0, o0x4, none⟩ = some (v0x4) ∧ (W.alloc o).cell? ⟨b0, o0x5, none⟩ = some (v0x5) ∧ (W.alloc o).cell? ⟨b0, o0x6, none⟩ = some (v0x6) ∧ (W.alloc o).cell? ⟨b0, o0x7, none⟩ = some (v0x7) ∧ (W.alloc o).cell? ⟨b0, o0x8, none⟩ = some (v0x8) ∧ (W.alloc o).cell? ⟨b0, o0x9, none⟩ = some (v0x9)) ∧ b0 < (W.alloc o).heap.size)) (p0 : b0 < W.heap.size) : (((W.alloc o').cell? ⟨b0, o0x0, none⟩ = some (v0x0) ∧ (W.alloc o').cell? ⟨b0, o0x1, none⟩ = some (v0x1) ∧ (W.alloc o').cell? ⟨b0, o0x2, none⟩ = some (v0x2) ∧ (W.alloc o').cell? ⟨b0, o0x3, none⟩ = some (v0x3) ∧ (W.alloc o').cell? ⟨b0, o0x4, none⟩ = some (v0x4) ∧ (W.alloc o').cell? ⟨b0, o0x5, none⟩ = some (v0x5) ∧ (W.alloc o').cell? ⟨b0, o0x6, none⟩ = some (v0x6) ∧ (W.alloc o').cell? ⟨b0, o0x7, none⟩ = some (v0x7) ∧ (W.alloc o').cell? ⟨b0, o0x8, none⟩ = some (v0x8) ∧ (W.alloc o').cell? ⟨b0, o0x9, none⟩ = some (v0x9)) ∧ b0 < (W.alloc o').heap.size) := by
  obtain ⟨⟨h0, h1, h2, h3, h4, h5, h6, h7, h8, h9⟩, s0⟩ := h
  have hb : Below W.heap.size (W.alloc o) (W.alloc o') := bel_re W o o'
  refine ⟨⟨?_, ?_, ?_, ?_, ?_, ?_, ?_, ?_, ?_, ?_⟩, Nat.lt_of_lt_of_le s0 hb.size⟩
  · rw [hb.cell p0]; exact h0
  · rw [hb.cell p0]; exact h1
  · rw [hb.cell p0]; exact h2
  · rw [hb.cell p0]; exact h3
  · rw [hb.cell p0]; exact h4
  · rw [hb.cell p0]; exact h5
  · rw [hb.cell p0]; exact h6
  · rw [hb.cell p0]; exact h7
  · rw [hb.cell p0]; exact h8
  · rw [hb.cell p0]; exact h9

theorem specnewc_eq (s t k z p l e : Int) (b : Bool) (v r : Int) (w : World) {D : CkD} (hN : Hid (ckOf s t k z p l e v r = D)) : Calls Try.prog 7 #[.agg #[.int .i64 s, .int .i64 t, .int .i64 k, .int .i64 z, .int .i64 p, .int .i64 l, .int .i64 e, .bool b, .int .i64 v, .int .i64 r]] w fun e' w' => NewC w D e' w' := by
  rw [← unhide hN]
  exact specnewc_any s t k z p l e b v r w
theorem implnewc_eq (s t k z p l e : Int) (b : Bool) (v r : Int) (w : World) {D : CkD} (hN : Hid (ckOf s t k z p l e v r = D)) : Calls Try.prog 9 #[.agg #[.int .i64 s, .int .i64 t, .int .i64 k, .int .i64 z, .int .i64 p, .int .i64 l, .int .i64 e, .bool b, .int .i64 v, .int .i64 r]] w fun e' w' => NewC w D e' w' := by
  rw [← unhide hN]
  exact implnewc_any s t k z p l e b v r w
set_option linter.unusedSimpArgs false in
set_option maxRecDepth 20000 in
set_option maxHeartbeats 16000000 in
theorem lawCkpNew (s t k z p l e : Int) (b : Bool) (v r : Int) (w : World) : Calls Try.prog 3 #[.agg #[.int .i64 s, .int .i64 t, .int .i64 k, .int .i64 z, .int .i64 p, .int .i64 l, .int .i64 e, .bool b, .int .i64 v, .int .i64 r]] w fun e' w' => e' = .returned (.bool true) ∧ Below w.heap.size w w' := by
  obtain ⟨D, hN0⟩ : ∃ D, ckOf s t k z p l e v r = D := ⟨_, rfl⟩
  have h0 := ckOf_0 s t k z p l e v r
  rw [hN0] at h0
  have hN := hide hN0
  clear hN0
  have hbF1 : Below w.heap.size w (w.alloc (.cells #[.int .i64 s, .int .i64 t, .int .i64 k, .int .i64 z, .int .i64 p, .int .i64 l, .int .i64 e, .bool b, .int .i64 v, .int .i64 r] 23)) := bel_one _ _
  have hS0 : (((w.alloc (.cells #[.int .i64 s, .int .i64 t, .int .i64 k, .int .i64 z, .int .i64 p, .int .i64 l, .int .i64 e, .bool b, .int .i64 v, .int .i64 r] 23)).cell? ⟨w.heap.size, 0, none⟩ = some (.int .i64 s) ∧ (w.alloc (.cells #[.int .i64 s, .int .i64 t, .int .i64 k, .int .i64 z, .int .i64 p, .int .i64 l, .int .i64 e, .bool b, .int .i64 v, .int .i64 r] 23)).cell? ⟨w.heap.size, 1, none⟩ = some (.int .i64 t) ∧ (w.alloc (.cells #[.int .i64 s, .int .i64 t, .int .i64 k, .int .i64 z, .int .i64 p, .int .i64 l, .int .i64 e, .bool b, .int .i64 v, .int .i64 r] 23)).cell? ⟨w.heap.size, 2, none⟩ = some (.int .i64 k) ∧ (w.alloc (.cells #[.int .i64 s, .int .i64 t, .int .i64 k, .int .i64 z, .int .i64 p, .int .i64 l, .int .i64 e, .bool b, .int .i64 v, .int .i64 r] 23)).cell? ⟨w.heap.size, 3, none⟩ = some (.int .i64 z) ∧ (w.alloc (.cells #[.int .i64 s, .int .i64 t, .int .i64 k, .int .i64 z, .int .i64 p, .int .i64 l, .int .i64 e, .bool b, .int .i64 v, .int .i64 r] 23)).cell? ⟨w.heap.size, 4, none⟩ = some (.int .i64 p) ∧ (w.alloc (.cells #[.int .i64 s, .int .i64 t, .int .i64 k, .int .i64 z, .int .i64 p, .int .i64 l, .int .i64 e, .bool b, .int .i64 v, .int .i64 r] 23)).cell? ⟨w.heap.size, 5, none⟩ = some (.int .i64 l) ∧ (w.alloc (.cells #[.int .i64 s, .int .i64 t, .int .i64 k, .int .i64 z, .int .i64 p, .int .i64 l, .int .i64 e, .bool b, .int .i64 v, .int .i64 r] 23)).cell? ⟨w.heap.size, 6, none⟩ = some (.int .i64 e) ∧ (w.alloc (.cells #[.int .i64 s, .int .i64 t, .int .i64 k, .int .i64 z, .int .i64 p, .int .i64 l, .int .i64 e, .bool b, .int .i64 v, .int .i64 r] 23)).cell? ⟨w.heap.size, 7, none⟩ = some (.bool b) ∧ (w.alloc (.cells #[.int .i64 s, .int .i64 t, .int .i64 k, .int .i64 z, .int .i64 p, .int .i64 l, .int .i64 e, .bool b, .int .i64 v, .int .i64 r] 23)).cell? ⟨w.heap.size, 8, none⟩ = some (.int .i64 v) ∧ (w.alloc (.cells #[.int .i64 s, .int .i64 t, .int .i64 k, .int .i64 z, .int .i64 p, .int .i64 l, .int .i64 e, .bool b, .int .i64 v, .int .i64 r] 23)).cell? ⟨w.heap.size, 9, none⟩ = some (.int .i64 r)) ∧ w.heap.size < (w.alloc (.cells #[.int .i64 s, .int .i64 t, .int .i64 k, .int .i64 z, .int .i64 p, .int .i64 l, .int .i64 e, .bool b, .int .i64 v, .int .i64 r] 23)).heap.size) := ⟨⟨by simp [go_sem], by simp [go_sem], by simp [go_sem], by simp [go_sem], by simp [go_sem], by simp [go_sem], by simp [go_sem], by simp [go_sem], by simp [go_sem], by simp [go_sem]⟩, by simp⟩
  go_enter Try.func3, Try.ntmps3
  go_wp2_with fail
  generalize w.alloc (.cells #[.int .i64 s, .int .i64 t, .int .i64 k, .int .i64 z, .int .i64 p, .int .i64 l, .int .i64 e, .bool b, .int .i64 v, .int .i64 r] 23) = w1 at hbF1 hS0 ⊢
  obtain ⟨⟨s0, s1, s2, s3, s4, s5, s6, s7, s8, s9⟩, ya⟩ := hS0
  have hS0 : ((w1.cell? ⟨w.heap.size, 0, none⟩ = some (.int .i64 s) ∧ w1.cell? ⟨w.heap.size, 1, none⟩ = some (.int .i64 t) ∧ w1.cell? ⟨w.heap.size, 2, none⟩ = some (.int .i64 k) ∧ w1.cell? ⟨w.heap.size, 3, none⟩ = some (.int .i64 z) ∧ w1.cell? ⟨w.heap.size, 4, none⟩ = some (.int .i64 p) ∧ w1.cell? ⟨w.heap.size, 5, none⟩ = some (.int .i64 l) ∧ w1.cell? ⟨w.heap.size, 6, none⟩ = some (.int .i64 e) ∧ w1.cell? ⟨w.heap.size, 7, none⟩ = some (.bool b) ∧ w1.cell? ⟨w.heap.size, 8, none⟩ = some (.int .i64 v) ∧ w1.cell? ⟨w.heap.size, 9, none⟩ = some (.int .i64 r)) ∧ w.heap.size < w1.heap.size) := ⟨⟨s0, s1, s2, s3, s4, s5, s6, s7, s8, s9⟩, ya⟩
  refine (toJob_any _ _ _ _ _ _ _ _ _ _ _).mono ?_
  rintro e' pj ⟨rfl, hbpj⟩
  clear s0 s1 s2 s3 s4 s5 s6 s7 s8 s9
  go_wp2_with fail
  refine (specnewc_eq s t k z p l e b v r _ hN).mono ?_
  rintro e' pn ⟨a2w, c2w, a3w, c3w, a4w, c4w, a6w, c6w, a7w, c7w, v4w, v7w, rfl, hM, hW, hS, hbpn⟩
  simp only [ckV]
  have zzp := hbpj.size
  have hbbp : Below w1.heap.size w1 pn := bel_trans hbpj hbpn
  obtain ⟨⟨s0, s1, s2, s3, s4, s5, s6, s7, s8, s9⟩, yyp⟩ := hd_10 hS0 hbbp
  have hcut := boxLateN hM hW hS zzp hbbp
  have HCUT := hide hcut
  clear hM hW hS hcut
  go_wp2_with fail
  have hcut := unhide HCUT
  clear HCUT
  generalize pn.alloc (.cells #[.int .i64 0, .bool false, .slice a2w D.src.length c2w, .slice a3w D.tsk.length c3w, .slice a4w D.sn.length c4w, .int .i64 0, .slice a6w D.at_.length c6w, .slice a7w D.ssn.length c7w] 30) = wa at hcut ⊢
  generalize pn.heap.size = Bw at hcut ⊢
  obtain ⟨hXw, hMw, hWw, hSw, ⟨pw1, pw2⟩, hbwa⟩ := hcut
  have HHw := hide (And.intro hMw (And.intro hWw (And.intro hSw pw2)))
  clear hMw hWw hSw pw2
  have hS1 := hd_10 hS0 hbwa
  refine (toJob_any _ _ _ _ _ _ _ _ _ _ _).mono ?_
  rintro e' qj ⟨rfl, hbqj⟩
  clear s0 s1 s2 s3 s4 s5 s6 s7 s8 s9
  go_wp2_with fail
  refine (implnewc_eq s t k z p l e b v r _ hN).mono ?_
  rintro e' qn ⟨a2g, c2g, a3g, c3g, a4g, c4g, a6g, c6g, a7g, c7g, v4g, v7g, rfl, hM, hW, hS, hbqn⟩
  simp only [ckV]
  have zzq := hbqj.size
  have hbbq : Below wa.heap.size wa qn := bel_trans hbqj hbqn
  obtain ⟨⟨s0, s1, s2, s3, s4, s5, s6, s7, s8, s9⟩, yyq⟩ := hd_10 hS1 hbbq
  have hcut := boxLateN hM hW hS zzq hbbq
  obtain ⟨⟨dw0, dw1, dw2, dw3, dw4, dw5, dw6, dw7⟩, dwf⟩ := (hXw.keep hbbq).cells
  have ltw := hXw.lt
  have ltw' := (hXw.keep hbbq).lt
  have HCUT := hide hcut
  clear hM hW hS hcut
  go_wp2_with fail
  have hcut := unhide HCUT
  clear HCUT
  generalize qn.alloc (.cells #[.int .i64 0, .bool false, .slice a2g D.src.length c2g, .slice a3g D.tsk.length c3g, .slice a4g D.sn.length c4g, .int .i64 0, .slice a6g D.at_.length c6g, .slice a7g D.ssn.length c7g] 30) = wd at hcut ⊢
  generalize qn.heap.size = Bg at hcut ⊢
  obtain ⟨hXg, hMg, hWg, hSg, ⟨pg1, pg2⟩, hbwd⟩ := hcut
  have HHg := hide (And.intro hMg (And.intro hWg (And.intro hSg pg2)))
  clear hMg hWg hSg pg2
  clear s0 s1 s2 s3 s4 s5 s6 s7 s8 s9
  have hbgd := hXg.lt
  refine (eqN_any _ _ D h0 a2g c2g a3g c3g a4g c4g a6g c6g a7g c7g a2w c2w a3w c3w a4w c4w a6w c6w a7w c7w _ (unhide HHg).1 ((unhide HHw).1.below hbwd)).mono ?_
  rintro e' we ⟨rfl, hbe⟩
  clear dw0 dw1 dw2 dw3 dw4 dw5 dw6 dw7 dwf
  obtain ⟨⟨eg0, eg1, eg2, eg3, eg4, eg5, eg6, eg7⟩, egf⟩ := (hXg.keep hbe).cells
  obtain ⟨KT, hKT⟩ : ∃ KT, kCk D.src.length D.tsk.length v4g D.at_.length v7g = KT := ⟨_, rfl⟩
  have hKT0 : 0 ≤ KT := by rw [← hKT]; exact kCk_pos (unhide HHg).2.1
  have HKT := hide hKT
  clear hKT
  go_wp2_with fail
  have hWe := (unhide HHg).2.1.keep (fun b h => hbe.block b ((unhide HHg).2.1.ltS b h))
  refine (markCk_any 0 false 0 a2g D.src.length c2g a3g D.tsk.length c3g a4g D.sn.length c4g a6g D.at_.length c6g a7g D.ssn.length c7g v4g v7g _ hWe).mono ?_
  rw [unhide HKT]
  rintro e' wl ⟨rfl, hMk, hK3⟩
  clear eg0 eg1 eg2 eg3 eg4 eg5 eg6 eg7 egf
  have zl := hK3.size
  have zd := hbe.size
  have hXl : BoxC wl Bg (.slice a2g D.src.length c2g) (.slice a3g D.tsk.length c3g) (.slice a4g D.sn.length c4g) (.slice a6g D.at_.length c6g) (.slice a7g D.ssn.length c7g) := (hK3.blk Bg (by omega) (unhide HHg).2.2.2).trans ((hbe.block Bg hbgd).trans hXg)
  have hbal : Below wa.heap.size wa wl := Kept.bel (bel_trans hbwd hbe) (bel_trans hbwd hbe).size hK3 (fun b hb => (unhide HHg).2.2.1 b hb)
  obtain ⟨⟨fg0, fg1, fg2, fg3, fg4, fg5, fg6, fg7⟩, fgf⟩ := (hXl).cells
  have hlt9 := hide (fun b (h : CkS a2g D.src.length a3g D.tsk.length a4g D.sn.length a6g D.at_.length a7g D.ssn.length v4g v7g b) => Nat.lt_of_lt_of_le (hWe.ltS b h) zl)
  have HMk := hide hMk
  have HK3 := hide hK3
  clear hWe hMk hK3
  go_wp2_with fail
  refine (heldCk_any 0 false 0 a2g D.src.length c2g a3g D.tsk.length c3g a4g D.sn.length c4g a6g D.at_.length c6g a7g D.ssn.length c7g v4g v7g _ (unhide HMk) (unhide hlt9)).mono ?_
  rw [unhide HKT]
  rintro e' wm ⟨rfl, hbm⟩
  clear fg0 fg1 fg2 fg3 fg4 fg5 fg6 fg7 fgf
  have zm := hbm.size
  have hbam : Below wa.heap.size wa wm := bel_trans hbal hbm
  have hMm := hide ((unhide HMk).keep (fun b h => hbm.block b (unhide hlt9 b h)))
  have hltm : Hid (∀ b, CkS a2g D.src.length a3g D.tsk.length a4g D.sn.length a6g D.at_.length a7g D.ssn.length v4g v7g b → b < wm.heap.size) := hide (fun b h => Nat.lt_of_lt_of_le (unhide hlt9 b h) zm)
  have hXm := hXl.keep hbm
  have hKn : ¬ KT < 0 := by omega
  have hKn' : decide (KT < 0) = false := decide_eq_false hKn
  obtain ⟨⟨s0, s1, s2, s3, s4, s5, s6, s7, s8, s9⟩, ym⟩ := hd_10 hS1 hbam
  have hS2 := hd_10 hS1 hbam
  go_wp2_with fail
  refine (toJob_any _ _ _ _ _ _ _ _ _ _ _).mono ?_
  rintro e' rj ⟨rfl, hbrj⟩
  clear s0 s1 s2 s3 s4 s5 s6 s7 s8 s9
  go_wp2_with fail
  refine (implnewc_eq s t k z p l e b v r _ hN).mono ?_
  rintro e' rn ⟨a2h, c2h, a3h, c3h, a4h, c4h, a6h, c6h, a7h, c7h, v4h, v7h, rfl, hM, hW, hS, hbrn⟩
  simp only [ckV]
  have zzr := hbrj.size
  have hbbr : Below wm.heap.size wm rn := bel_trans hbrj hbrn
  obtain ⟨⟨s0, s1, s2, s3, s4, s5, s6, s7, s8, s9⟩, yyr⟩ := hd_10 hS2 hbbr
  have hcut := boxLateN hM hW hS zzr hbbr
  obtain ⟨⟨kw0, kw1, kw2, kw3, kw4, kw5, kw6, kw7⟩, kwf⟩ := (hXw.keep (bel_trans hbam hbbr)).cells
  have ltw' := (hXw.keep (bel_trans hbam hbbr)).lt
  have HCUT := hide hcut
  clear hM hW hS hcut
  go_wp2_with fail
  have hcut := unhide HCUT
  clear HCUT
  generalize rn.alloc (.cells #[.int .i64 0, .bool false, .slice a2h D.src.length c2h, .slice a3h D.tsk.length c3h, .slice a4h D.sn.length c4h, .int .i64 0, .slice a6h D.at_.length c6h, .slice a7h D.ssn.length c7h] 30) = wq at hcut ⊢
  generalize rn.heap.size = Bh at hcut ⊢
  obtain ⟨hXh, hMh, hWh, hSh, ⟨ph1, ph2⟩, hbwq⟩ := hcut
  have HHh := hide (And.intro hMh (And.intro hWh (And.intro hSh ph2)))
  clear hMh hWh hSh ph2
  clear s0 s1 s2 s3 s4 s5 s6 s7 s8 s9
  have hbaq : Below wa.heap.size wa wq := bel_trans hbam hbwq
  refine (eqN_any _ _ D h0 a2h c2h a3h c3h a4h c4h a6h c6h a7h c7h a2w c2w a3w c3w a4w c4w a6w c6w a7w c7w _ (unhide HHh).1 ((unhide HHw).1.below hbaq)).mono ?_
  rintro e' ws ⟨rfl, hbs⟩
  clear kw0 kw1 kw2 kw3 kw4 kw5 kw6 kw7 kwf
  have hbms := bel_trans hbwq hbs
  obtain ⟨⟨lg0, lg1, lg2, lg3, lg4, lg5, lg6, lg7⟩, lgf⟩ := (hXm.keep hbms).cells
  go_wp2_with fail
  refine (heldCk_any 0 false 0 a2g D.src.length c2g a3g D.tsk.length c3g a4g D.sn.length c4g a6g D.at_.length c6g a7g D.ssn.length c7g v4g v7g _ ((unhide hMm).keep (fun b h => hbms.block b (unhide hltm b h))) (fun b h => Nat.lt_of_lt_of_le (unhide hltm b h) hbms.size)).mono ?_
  rw [unhide HKT]
  rintro e' wt ⟨rfl, hbt⟩
  have hbF : Below w.heap.size w wt := bel_trans hbF1 (bel_trans hbwa (bel_trans hbam (bel_trans hbms hbt)))
  go_wp2
  go_ret
  exact ⟨rfl, hbF⟩
end Go.Proofs.Ytdcjjdbggilahaa
