/- Proved here: the rows of (or without those of) a window of a key, in the program, in new memory. -/
import Derived.Test.YtlaildbjcmihkaaPanOfS
import Derived.Test.YtlaildbjcmihkaaPan
namespace Go.Proofs.Ytlaildbjcmihkaa
open Go.ChangeShapes Go.WideShapes Go.ChangeAt Go.RowKit
set_option linter.unusedVariables false

theorem hd_3_9 {b0 b1 o0x0 o0x1 o0x2 o1x0 o1x1 o1x2 o1x3 o1x4 o1x5 o1x6 o1x7 o1x8 : Nat} {v0x0 v0x1 v0x2 v1x0 v1x1 v1x2 v1x3 v1x4 v1x5 v1x6 v1x7 v1x8 : Value} {W W' : World} (h : ((W.cell? ⟨b0, o0x0, none⟩ = some (v0x0) ∧ W.cell? ⟨b0, o0x1, none⟩ = some (v0x1) ∧ W.cell? ⟨b0, o0x2, none⟩ = some (v0x2) ∧ W.cell? ⟨b1, o1x0, none⟩ = some (v1x0) ∧ W.cell? ⟨b1, o1x1, none⟩ = some (v1x1) ∧ W.cell? ⟨b1, o1x2, none⟩ = some (v1x2) ∧ W.cell? ⟨b1, o1x3, none⟩ = some (v1x3) ∧ W.cell? ⟨b1, o1x4, none⟩ = some (v1x4) ∧ W.cell? ⟨b1, o1x5, none⟩ = some (v1x5) ∧ W.cell? ⟨b1, o1x6, none⟩ = some (v1x6) ∧ W.cell? ⟨b1, o1x7, none⟩ = some (v1x7) ∧ W.cell? ⟨b1, o1x8, none⟩ = some (v1x8)) ∧ b0 < W.heap.size ∧ b1 < W.heap.size)) (hb : Below W.heap.size W W') : ((W'.cell? ⟨b0, o0x0, none⟩ = some (v0x0) ∧ W'.cell? ⟨b0, o0x1, none⟩ = some (v0x1) ∧ W'.cell? ⟨b0, o0x2, none⟩ = some (v0x2) ∧ W'.cell? ⟨b1, o1x0, none⟩ = some (v1x0) ∧ W'.cell? ⟨b1, o1x1, none⟩ = some (v1x1) ∧ W'.cell? ⟨b1, o1x2, none⟩ = some (v1x2) ∧ W'.cell? ⟨b1, o1x3, none⟩ = some (v1x3) ∧ W'.cell? ⟨b1, o1x4, none⟩ = some (v1x4) ∧ W'.cell? ⟨b1, o1x5, none⟩ = some (v1x5) ∧ W'.cell? ⟨b1, o1x6, none⟩ = some (v1x6) ∧ W'.cell? ⟨b1, o1x7, none⟩ = some (v1x7) ∧ W'.cell? ⟨b1, o1x8, none⟩ = some (v1x8)) ∧ b0 < W'.heap.size ∧ b1 < W'.heap.size) := by
  obtain ⟨⟨h0, h1, h2, h3, h4, h5, h6, h7, h8, h9, h10, h11⟩, s0, s1⟩ := h
  refine ⟨⟨?_, ?_, ?_, ?_, ?_, ?_, ?_, ?_, ?_, ?_, ?_, ?_⟩, Nat.lt_of_lt_of_le s0 hb.size, Nat.lt_of_lt_of_le s1 hb.size⟩
  · rw [hb.cell s0]; exact h0
  · rw [hb.cell s0]; exact h1
  · rw [hb.cell s0]; exact h2
  · rw [hb.cell s1]; exact h3
  · rw [hb.cell s1]; exact h4
  · rw [hb.cell s1]; exact h5
  · rw [hb.cell s1]; exact h6
  · rw [hb.cell s1]; exact h7
  · rw [hb.cell s1]; exact h8
  · rw [hb.cell s1]; exact h9
  · rw [hb.cell s1]; exact h10
  · rw [hb.cell s1]; exact h11

theorem hd_3_9_set {b0 b1 o0x0 o0x1 o0x2 o1x0 o1x1 o1x2 o1x3 o1x4 o1x5 o1x6 o1x7 o1x8 : Nat} {v0x0 v0x1 v0x2 v1x0 v1x1 v1x2 v1x3 v1x4 v1x5 v1x6 v1x7 v1x8 : Value} {W : World} {p : Addr} (h : ((W.cell? ⟨b0, o0x0, none⟩ = some (v0x0) ∧ W.cell? ⟨b0, o0x1, none⟩ = some (v0x1) ∧ W.cell? ⟨b0, o0x2, none⟩ = some (v0x2) ∧ W.cell? ⟨b1, o1x0, none⟩ = some (v1x0) ∧ W.cell? ⟨b1, o1x1, none⟩ = some (v1x1) ∧ W.cell? ⟨b1, o1x2, none⟩ = some (v1x2) ∧ W.cell? ⟨b1, o1x3, none⟩ = some (v1x3) ∧ W.cell? ⟨b1, o1x4, none⟩ = some (v1x4) ∧ W.cell? ⟨b1, o1x5, none⟩ = some (v1x5) ∧ W.cell? ⟨b1, o1x6, none⟩ = some (v1x6) ∧ W.cell? ⟨b1, o1x7, none⟩ = some (v1x7) ∧ W.cell? ⟨b1, o1x8, none⟩ = some (v1x8)) ∧ b0 < W.heap.size ∧ b1 < W.heap.size)) (p0 : p.block ≠ b0) (p1 : p.block ≠ b1) (u : Value) : (((W.setCell p u).cell? ⟨b0, o0x0, none⟩ = some (v0x0) ∧ (W.setCell p u).cell? ⟨b0, o0x1, none⟩ = some (v0x1) ∧ (W.setCell p u).cell? ⟨b0, o0x2, none⟩ = some (v0x2) ∧ (W.setCell p u).cell? ⟨b1, o1x0, none⟩ = some (v1x0) ∧ (W.setCell p u).cell? ⟨b1, o1x1, none⟩ = some (v1x1) ∧ (W.setCell p u).cell? ⟨b1, o1x2, none⟩ = some (v1x2) ∧ (W.setCell p u).cell? ⟨b1, o1x3, none⟩ = some (v1x3) ∧ (W.setCell p u).cell? ⟨b1, o1x4, none⟩ = some (v1x4) ∧ (W.setCell p u).cell? ⟨b1, o1x5, none⟩ = some (v1x5) ∧ (W.setCell p u).cell? ⟨b1, o1x6, none⟩ = some (v1x6) ∧ (W.setCell p u).cell? ⟨b1, o1x7, none⟩ = some (v1x7) ∧ (W.setCell p u).cell? ⟨b1, o1x8, none⟩ = some (v1x8)) ∧ b0 < (W.setCell p u).heap.size ∧ b1 < (W.setCell p u).heap.size) := by
  obtain ⟨⟨h0, h1, h2, h3, h4, h5, h6, h7, h8, h9, h10, h11⟩, s0, s1⟩ := h
  have hb : W.heap.size ≤ (W.setCell p u).heap.size := by simp [World.setCell]
  refine ⟨⟨?_, ?_, ?_, ?_, ?_, ?_, ?_, ?_, ?_, ?_, ?_, ?_⟩, Nat.lt_of_lt_of_le s0 hb, Nat.lt_of_lt_of_le s1 hb⟩
  · rw [cell_set_ne p0]; exact h0
  · rw [cell_set_ne p0]; exact h1
  · rw [cell_set_ne p0]; exact h2
  · rw [cell_set_ne p1]; exact h3
  · rw [cell_set_ne p1]; exact h4
  · rw [cell_set_ne p1]; exact h5
  · rw [cell_set_ne p1]; exact h6
  · rw [cell_set_ne p1]; exact h7
  · rw [cell_set_ne p1]; exact h8
  · rw [cell_set_ne p1]; exact h9
  · rw [cell_set_ne p1]; exact h10
  · rw [cell_set_ne p1]; exact h11

theorem hd_3_9_re {b0 b1 o0x0 o0x1 o0x2 o1x0 o1x1 o1x2 o1x3 o1x4 o1x5 o1x6 o1x7 o1x8 : Nat} {v0x0 v0x1 v0x2 v1x0 v1x1 v1x2 v1x3 v1x4 v1x5 v1x6 v1x7 v1x8 : Value} {W : World} {o o' : Obj} (h : (((W.alloc o).cell? ⟨b0, o0x0, none⟩ = some (v0x0) ∧ (W.alloc o).cell? ⟨b0, o0x1, none⟩ = some (v0x1) ∧ (W.alloc o).cell? ⟨b0, o0x2, none⟩ = some (v0x2) ∧ (W.alloc o).cell? ⟨b1, o1x0, none⟩ = some (v1x0) ∧ (W.alloc o).cell? ⟨b1, o1x1, none⟩ = some (v1x1) ∧ (W.alloc o).cell? ⟨b1, o1x2, none⟩ = some (v1x2) ∧ (W.alloc o).cell? ⟨b1, o1x3, none⟩ = some (v1x3) ∧ (W.alloc o).cell? ⟨b1, o1x4, none⟩ = some (v1x4) ∧ (W.alloc o).cell? ⟨b1, o1x5, none⟩ = some (v1x5) ∧ (W.alloc o).cell? ⟨b1, o1x6, none⟩ = some (v1x6) ∧ (W.alloc o).cell? ⟨b1, o1x7, none⟩ = some (v1x7) ∧ (W.alloc o).cell? ⟨b1, o1x8, none⟩ = some (v1x8)) ∧ b0 < (W.alloc o).heap.size ∧ b1 < (W.alloc o).heap.size)) (p0 : b0 < W.heap.size) (p1 : b1 < W.heap.size) : (((W.alloc o').cell? ⟨b0, o0x0, none⟩ = some (v0x0) ∧ (W.alloc o').cell? ⟨b0, o0x1, none⟩ = some (v0x1) ∧ (W.alloc o').cell? ⟨b0, o0x2, none⟩ = some (v0x2) ∧ (W.alloc o').cell? ⟨b1, o1x0, none⟩ = some (v1x0) ∧ (W.alloc o').cell? ⟨b1, o1x1, none⟩ = some (v1x1) ∧ (W.alloc o').cell? ⟨b1, o1x2, none⟩ = some (v1x2) ∧ (W.alloc o').cell? ⟨b1, o1x3, none⟩ = some (v1x3) ∧ (W.alloc o').cell? ⟨b1, o1x4, none⟩ = some (v1x4) ∧ (W.alloc o').cell? ⟨b1, o1x5, none⟩ = some (v1x5) ∧ (W.alloc o').cell? ⟨b1, o1x6, none⟩ = some (v1x6) ∧ (W.alloc o').cell? ⟨b1, o1x7, none⟩ = some (v1x7) ∧ (W.alloc o').cell? ⟨b1, o1x8, none⟩ = some (v1x8)) ∧ b0 < (W.alloc o').heap.size ∧ b1 < (W.alloc o').heap.size) := by
  obtain ⟨⟨h0, h1, h2, h3, h4, h5, h6, h7, h8, h9, h10, h11⟩, s0, s1⟩ := h
  have hb : Below W.heap.size (W.alloc o) (W.alloc o') := bel_re W o o'
  refine ⟨⟨?_, ?_, ?_, ?_, ?_, ?_, ?_, ?_, ?_, ?_, ?_, ?_⟩, Nat.lt_of_lt_of_le s0 hb.size, Nat.lt_of_lt_of_le s1 hb.size⟩
  · rw [hb.cell p0]; exact h0
  · rw [hb.cell p0]; exact h1
  · rw [hb.cell p0]; exact h2
  · rw [hb.cell p1]; exact h3
  · rw [hb.cell p1]; exact h4
  · rw [hb.cell p1]; exact h5
  · rw [hb.cell p1]; exact h6
  · rw [hb.cell p1]; exact h7
  · rw [hb.cell p1]; exact h8
  · rw [hb.cell p1]; exact h9
  · rw [hb.cell p1]; exact h10
  · rw [hb.cell p1]; exact h11

set_option maxRecDepth 20000 in
set_option maxHeartbeats 2000000 in
theorem cloPn_any (x : PnR) (B : Nat) (ky st en : Int) (w : World) (c0 : w.cell? ⟨B, 0, none⟩ = some (.int .i64 ky)) (c1 : w.cell? ⟨B, 1, none⟩ = some (.int .i64 st)) (c2 : w.cell? ⟨B, 2, none⟩ = some (.int .i64 en)) (hBs : B < w.heap.size) : Calls Try.prog 13 #[.agg #[.int .i64 x.ky, .int .i64 x.st, .int .i64 x.en, .int .i64 x.no, .int .i64 x.kd, .int .i64 x.n, .int .i64 x.su, .int .i64 x.le, .int .i64 x.mo], .pointer (some ⟨B, 0, none⟩)] w fun e w' => e = .returned (.bool (x.isB ky st en)) ∧ Below w.heap.size w w' := by
  by_cases k1 : x.ky = ky
  · by_cases k2 : x.st = st
    · by_cases k3 : x.en = en
      · have hB := isPn_t k1 k2 k3
        have HB : Hid ((x.isB ky st en) = true) := hide (by simp [hB])
        clear hB
        go_enter Try.func13, Try.ntmps13
        go_wp2
        go_region_held3 (fun W => ((W.cell? ⟨B, 0, none⟩ = some (.int .i64 ky) ∧ W.cell? ⟨B, 1, none⟩ = some (.int .i64 st) ∧ W.cell? ⟨B, 2, none⟩ = some (.int .i64 en) ∧ W.cell? ⟨w.heap.size, 0, none⟩ = some (.int .i64 x.ky) ∧ W.cell? ⟨w.heap.size, 1, none⟩ = some (.int .i64 x.st) ∧ W.cell? ⟨w.heap.size, 2, none⟩ = some (.int .i64 x.en) ∧ W.cell? ⟨w.heap.size, 3, none⟩ = some (.int .i64 x.no) ∧ W.cell? ⟨w.heap.size, 4, none⟩ = some (.int .i64 x.kd) ∧ W.cell? ⟨w.heap.size, 5, none⟩ = some (.int .i64 x.n) ∧ W.cell? ⟨w.heap.size, 6, none⟩ = some (.int .i64 x.su) ∧ W.cell? ⟨w.heap.size, 7, none⟩ = some (.int .i64 x.le) ∧ W.cell? ⟨w.heap.size, 8, none⟩ = some (.int .i64 x.mo)) ∧ B < W.heap.size ∧ w.heap.size < W.heap.size)) ((first | ((repeat (first | (with_reducible assumption) | (with_reducible refine hd_3_9 ?_ (by with_reducible assumption)) | (with_reducible refine hd_3_9 ?_ (bel_drew (Below.refl _ _))) | (with_reducible exact hd_3_9_re (by with_reducible assumption) (by first | omega | (simp; done) | (simp; omega)) (by first | omega | (simp; done) | (simp; omega))) | (with_reducible refine hd_3_9 ?_ (bel_one _ _)) | (with_reducible refine hd_3_9_set ?_ (by first | omega | (simp; done) | (simp; omega)) (by first | omega | (simp; done) | (simp; omega)) _))); done) | (refine ⟨⟨?_, ?_, ?_, ?_, ?_, ?_, ?_, ?_, ?_, ?_, ?_, ?_⟩, ?_, ?_⟩ <;> first | (go_keep; done) | (simp; done) | (simp; omega) | omega)))
          (first
          | (go_at_call 14; refine (panplace_any _ _ _ _ _ _ _ _ _ _).mono ?_; rintro e w' ⟨rfl, hb⟩; obtain ⟨hc, hf, hs⟩ := bcell hb))
        all_goals
          go_wp2
          go_ret
          exact ⟨ret_b (unhide HB).symm, (by repeat (first | (with_reducible exact Below.refl _ _) | (with_reducible assumption) | (with_reducible refine bel_set ?_ (by first | (simp; done) | (simp; omega)) _) | (with_reducible refine bel_alloc ?_ _) | (with_reducible refine bel_drew ?_) | (with_reducible refine bel_drewN ?_ _) | (with_reducible refine bel_trans ?_ (by with_reducible assumption))))⟩
      · have hB := isPn_3 (ky := ky) (st := st) k3
        have k3' : (x.en == en) = false := by simpa using k3
        have HB : Hid ((x.isB ky st en) = false) := hide (by simp [hB])
        clear hB
        go_enter Try.func13, Try.ntmps13
        go_wp2
        go_region_held3 (fun W => ((W.cell? ⟨B, 0, none⟩ = some (.int .i64 ky) ∧ W.cell? ⟨B, 1, none⟩ = some (.int .i64 st) ∧ W.cell? ⟨B, 2, none⟩ = some (.int .i64 en) ∧ W.cell? ⟨w.heap.size, 0, none⟩ = some (.int .i64 x.ky) ∧ W.cell? ⟨w.heap.size, 1, none⟩ = some (.int .i64 x.st) ∧ W.cell? ⟨w.heap.size, 2, none⟩ = some (.int .i64 x.en) ∧ W.cell? ⟨w.heap.size, 3, none⟩ = some (.int .i64 x.no) ∧ W.cell? ⟨w.heap.size, 4, none⟩ = some (.int .i64 x.kd) ∧ W.cell? ⟨w.heap.size, 5, none⟩ = some (.int .i64 x.n) ∧ W.cell? ⟨w.heap.size, 6, none⟩ = some (.int .i64 x.su) ∧ W.cell? ⟨w.heap.size, 7, none⟩ = some (.int .i64 x.le) ∧ W.cell? ⟨w.heap.size, 8, none⟩ = some (.int .i64 x.mo)) ∧ B < W.heap.size ∧ w.heap.size < W.heap.size)) ((first | ((repeat (first | (with_reducible assumption) | (with_reducible refine hd_3_9 ?_ (by with_reducible assumption)) | (with_reducible refine hd_3_9 ?_ (bel_drew (Below.refl _ _))) | (with_reducible exact hd_3_9_re (by with_reducible assumption) (by first | omega | (simp; done) | (simp; omega)) (by first | omega | (simp; done) | (simp; omega))) | (with_reducible refine hd_3_9 ?_ (bel_one _ _)) | (with_reducible refine hd_3_9_set ?_ (by first | omega | (simp; done) | (simp; omega)) (by first | omega | (simp; done) | (simp; omega)) _))); done) | (refine ⟨⟨?_, ?_, ?_, ?_, ?_, ?_, ?_, ?_, ?_, ?_, ?_, ?_⟩, ?_, ?_⟩ <;> first | (go_keep; done) | (simp; done) | (simp; omega) | omega)))
          (first
          | (go_at_call 14; refine (panplace_any _ _ _ _ _ _ _ _ _ _).mono ?_; rintro e w' ⟨rfl, hb⟩; obtain ⟨hc, hf, hs⟩ := bcell hb))
        all_goals
          go_wp2
          go_ret
          exact ⟨ret_b (unhide HB).symm, (by repeat (first | (with_reducible exact Below.refl _ _) | (with_reducible assumption) | (with_reducible refine bel_set ?_ (by first | (simp; done) | (simp; omega)) _) | (with_reducible refine bel_alloc ?_ _) | (with_reducible refine bel_drew ?_) | (with_reducible refine bel_drewN ?_ _) | (with_reducible refine bel_trans ?_ (by with_reducible assumption))))⟩
    · have hB := isPn_2 (ky := ky) (en := en) k2
      have k2' : (x.st == st) = false := by simpa using k2
      have HB : Hid ((x.isB ky st en) = false) := hide (by simp [hB])
      clear hB
      go_enter Try.func13, Try.ntmps13
      go_wp2
      go_region_held3 (fun W => ((W.cell? ⟨B, 0, none⟩ = some (.int .i64 ky) ∧ W.cell? ⟨B, 1, none⟩ = some (.int .i64 st) ∧ W.cell? ⟨B, 2, none⟩ = some (.int .i64 en) ∧ W.cell? ⟨w.heap.size, 0, none⟩ = some (.int .i64 x.ky) ∧ W.cell? ⟨w.heap.size, 1, none⟩ = some (.int .i64 x.st) ∧ W.cell? ⟨w.heap.size, 2, none⟩ = some (.int .i64 x.en) ∧ W.cell? ⟨w.heap.size, 3, none⟩ = some (.int .i64 x.no) ∧ W.cell? ⟨w.heap.size, 4, none⟩ = some (.int .i64 x.kd) ∧ W.cell? ⟨w.heap.size, 5, none⟩ = some (.int .i64 x.n) ∧ W.cell? ⟨w.heap.size, 6, none⟩ = some (.int .i64 x.su) ∧ W.cell? ⟨w.heap.size, 7, none⟩ = some (.int .i64 x.le) ∧ W.cell? ⟨w.heap.size, 8, none⟩ = some (.int .i64 x.mo)) ∧ B < W.heap.size ∧ w.heap.size < W.heap.size)) ((first | ((repeat (first | (with_reducible assumption) | (with_reducible refine hd_3_9 ?_ (by with_reducible assumption)) | (with_reducible refine hd_3_9 ?_ (bel_drew (Below.refl _ _))) | (with_reducible exact hd_3_9_re (by with_reducible assumption) (by first | omega | (simp; done) | (simp; omega)) (by first | omega | (simp; done) | (simp; omega))) | (with_reducible refine hd_3_9 ?_ (bel_one _ _)) | (with_reducible refine hd_3_9_set ?_ (by first | omega | (simp; done) | (simp; omega)) (by first | omega | (simp; done) | (simp; omega)) _))); done) | (refine ⟨⟨?_, ?_, ?_, ?_, ?_, ?_, ?_, ?_, ?_, ?_, ?_, ?_⟩, ?_, ?_⟩ <;> first | (go_keep; done) | (simp; done) | (simp; omega) | omega)))
        (first
        | (go_at_call 14; refine (panplace_any _ _ _ _ _ _ _ _ _ _).mono ?_; rintro e w' ⟨rfl, hb⟩; obtain ⟨hc, hf, hs⟩ := bcell hb))
      all_goals
        go_wp2
        go_ret
        exact ⟨ret_b (unhide HB).symm, (by repeat (first | (with_reducible exact Below.refl _ _) | (with_reducible assumption) | (with_reducible refine bel_set ?_ (by first | (simp; done) | (simp; omega)) _) | (with_reducible refine bel_alloc ?_ _) | (with_reducible refine bel_drew ?_) | (with_reducible refine bel_drewN ?_ _) | (with_reducible refine bel_trans ?_ (by with_reducible assumption))))⟩
  · have hB := isPn_1 (st := st) (en := en) k1
    have k1' : (x.ky == ky) = false := by simpa using k1
    have HB : Hid ((x.isB ky st en) = false) := hide (by simp [hB])
    clear hB
    go_enter Try.func13, Try.ntmps13
    go_wp2
    go_region_held3 (fun W => ((W.cell? ⟨B, 0, none⟩ = some (.int .i64 ky) ∧ W.cell? ⟨B, 1, none⟩ = some (.int .i64 st) ∧ W.cell? ⟨B, 2, none⟩ = some (.int .i64 en) ∧ W.cell? ⟨w.heap.size, 0, none⟩ = some (.int .i64 x.ky) ∧ W.cell? ⟨w.heap.size, 1, none⟩ = some (.int .i64 x.st) ∧ W.cell? ⟨w.heap.size, 2, none⟩ = some (.int .i64 x.en) ∧ W.cell? ⟨w.heap.size, 3, none⟩ = some (.int .i64 x.no) ∧ W.cell? ⟨w.heap.size, 4, none⟩ = some (.int .i64 x.kd) ∧ W.cell? ⟨w.heap.size, 5, none⟩ = some (.int .i64 x.n) ∧ W.cell? ⟨w.heap.size, 6, none⟩ = some (.int .i64 x.su) ∧ W.cell? ⟨w.heap.size, 7, none⟩ = some (.int .i64 x.le) ∧ W.cell? ⟨w.heap.size, 8, none⟩ = some (.int .i64 x.mo)) ∧ B < W.heap.size ∧ w.heap.size < W.heap.size)) ((first | ((repeat (first | (with_reducible assumption) | (with_reducible refine hd_3_9 ?_ (by with_reducible assumption)) | (with_reducible refine hd_3_9 ?_ (bel_drew (Below.refl _ _))) | (with_reducible exact hd_3_9_re (by with_reducible assumption) (by first | omega | (simp; done) | (simp; omega)) (by first | omega | (simp; done) | (simp; omega))) | (with_reducible refine hd_3_9 ?_ (bel_one _ _)) | (with_reducible refine hd_3_9_set ?_ (by first | omega | (simp; done) | (simp; omega)) (by first | omega | (simp; done) | (simp; omega)) _))); done) | (refine ⟨⟨?_, ?_, ?_, ?_, ?_, ?_, ?_, ?_, ?_, ?_, ?_, ?_⟩, ?_, ?_⟩ <;> first | (go_keep; done) | (simp; done) | (simp; omega) | omega)))
      (first
      | (go_at_call 14; refine (panplace_any _ _ _ _ _ _ _ _ _ _).mono ?_; rintro e w' ⟨rfl, hb⟩; obtain ⟨hc, hf, hs⟩ := bcell hb))
    all_goals
      go_wp2
      go_ret
      exact ⟨ret_b (unhide HB).symm, (by repeat (first | (with_reducible exact Below.refl _ _) | (with_reducible assumption) | (with_reducible refine bel_set ?_ (by first | (simp; done) | (simp; omega)) _) | (with_reducible refine bel_alloc ?_ _) | (with_reducible refine bel_drew ?_) | (with_reducible refine bel_drewN ?_ _) | (with_reducible refine bel_trans ?_ (by with_reducible assumption))))⟩

set_option maxRecDepth 20000 in
set_option maxHeartbeats 2000000 in
theorem onlyPn_any (a : Option Addr) (len cap : Nat) (xs : List PnR) (B : Nat) (ky st en : Int) (w : World) (h : PnRs w a len xs) (hl : len ≤ 1048576) (c0 : w.cell? ⟨B, 0, none⟩ = some (.int .i64 ky)) (c1 : w.cell? ⟨B, 1, none⟩ = some (.int .i64 st)) (c2 : w.cell? ⟨B, 2, none⟩ = some (.int .i64 en)) (hBs : B < w.heap.size) : Calls Try.prog 12 #[.slice a len cap, .func (.func 13) #[] #[.pointer (some ⟨B, 0, none⟩)]] w fun e w' => ∃ v, e = .returned v ∧ OwnPn w' w.heap.size v (kpPn ky st en xs) ∧ Below w.heap.size w w' := by
  have hm := h.2.1
  unfold maxLen at hm
  obtain ⟨i0, hi, hz0, hz1, hz2⟩ := info_parts Try.infoPn
  go_enter Try.func12, Try.ntmps12
  go_wp2
  go_loopw [5, 10] (fun v' i wr => ∃ k : Nat, k ≤ len ∧ i = .int .i64 k ∧ OwnPn wr w.heap.size v' (kpPn ky st en (xs.take k)) ∧ Below w.heap.size w wr) (fun _ i _ => len - (intOf i).toNat)
  case atStart => exact ⟨0, Nat.zero_le _, rfl, World.ownsRow_nil _ _ _ _, Below.refl _ _⟩
  case round =>
    obtain ⟨k, hk, rfl, hO, hbw⟩ := hrel
    have hws := hbw.size
    have hkl := kpPn_len ky st en xs k
    have HO := hide hO
    have hge := hide (ownPn_ge hO)
    clear hO
    by_cases hlt : k < len
    · obtain ⟨hxl, _, hx⟩ := h
      obtain ⟨g, o, rfl, hr⟩ := hx.resolve_left (by omega)
      obtain ⟨x, hxk⟩ : ∃ x, xs[k]? = some x := ⟨_, List.getElem?_eq_getElem (by omega)⟩
      have hg : g < w.heap.size := hr.lt (by omega)
      have hX := hide hxk
      obtain ⟨d0, d1, d2, d3, d4, d5, d6, d7, d8⟩ := (hr k _ hxk).below hbw hg
      clear hx hxk hr
      cases hB : x.isB ky st en
      · have HB := hide hB
        go_wp2_with (first
          | (go_at_call 13; refine (cloPn_any x B ky st en _ ((bel_alloc hbw _).cell (p := ⟨B, 0, none⟩) hBs |>.trans c0) ((bel_alloc hbw _).cell (p := ⟨B, 1, none⟩) hBs |>.trans c1) ((bel_alloc hbw _).cell (p := ⟨B, 2, none⟩) hBs |>.trans c2) (by simp; omega)).mono ?_; rintro e wf ⟨rfl, hb⟩; obtain ⟨hc, hf, hsz⟩ := bcell hb; have hzf : wr.heap.size < wf.heap.size := (by have h9 := hb.size; simp at h9; omega))
          | (at_builtin; go_loud (refine wpList_append_own _ rfl _ _ 23 rfl w.heap.size 33 i0 _ 9 72 Try.underlying23 hi hz0 hz1 hz2 rfl (by decide) u5 _ _ rfl (World.ownsRow.alloc (ownBel (World.ownsRow.alloc (unhide HO) _) hb) _) ⟨wf.heap.size, 0, none⟩ 1 1 [.int .i64 x.ky, .int .i64 x.st, .int .i64 x.en, .int .i64 x.no, .int .i64 x.kd, .int .i64 x.n, .int .i64 x.su, .int .i64 x.le, .int .i64 x.mo] rfl rfl (cells_newPn wf x.ky x.st x.en x.no x.kd x.n x.su x.le x.mo _) (by simp [Value.oneCell']) (by unfold maxLen; omega) (by omega) (by have h9 := hb.size; have h8 := hbw.size; simp at h9 ⊢; omega) ?_); intro v' w1 hown' hgrow _))
        go_roundw
        case rel => exact ⟨k + 1, by omega, by go_num, skipPn (unhide hX) (unhide HB) (ownBel (World.ownsRow.alloc (unhide HO) _) hb), bel_trans (bel_alloc hbw _) hb⟩
        case measure => simp [intOf]; omega
      · have HB := hide hB
        go_wp2_with (first
          | (go_at_call 13; refine (cloPn_any x B ky st en _ ((bel_alloc hbw _).cell (p := ⟨B, 0, none⟩) hBs |>.trans c0) ((bel_alloc hbw _).cell (p := ⟨B, 1, none⟩) hBs |>.trans c1) ((bel_alloc hbw _).cell (p := ⟨B, 2, none⟩) hBs |>.trans c2) (by simp; omega)).mono ?_; rintro e wf ⟨rfl, hb⟩; obtain ⟨hc, hf, hsz⟩ := bcell hb; have hzf : wr.heap.size < wf.heap.size := (by have h9 := hb.size; simp at h9; omega))
          | (at_builtin; go_loud (refine wpList_append_own _ rfl _ _ 23 rfl w.heap.size 33 i0 _ 9 72 Try.underlying23 hi hz0 hz1 hz2 rfl (by decide) u5 _ _ rfl (World.ownsRow.alloc (ownBel (World.ownsRow.alloc (unhide HO) _) hb) _) ⟨wf.heap.size, 0, none⟩ 1 1 [.int .i64 x.ky, .int .i64 x.st, .int .i64 x.en, .int .i64 x.no, .int .i64 x.kd, .int .i64 x.n, .int .i64 x.su, .int .i64 x.le, .int .i64 x.mo] rfl rfl (cells_newPn wf x.ky x.st x.en x.no x.kd x.n x.su x.le x.mo _) (by simp [Value.oneCell']) (by unfold maxLen; omega) (by omega) (by have h9 := hb.size; have h8 := hbw.size; simp at h9 ⊢; omega) ?_); intro v' w1 hown' hgrow _))
        have hb1 : Below w.heap.size w w1 := ((bel_trans (bel_alloc hbw _) hb).alloc (by have h9 := hb.size; simp at h9; omega) _).grown hgrow (by have h9 := hb.size; simp at h9 ⊢; omega) (unhide hge)
        go_roundw
        case rel => exact ⟨k + 1, by omega, by go_num, keepPn (unhide hX) (unhide HB) hown', hb1⟩
        case measure => simp [intOf]; omega
    · have HQ : Hid (kpPn ky st en (xs.take k) = kpPn ky st en xs) := hide (by rw [List.take_of_length_le (by have := h.1; omega)])
      go_wp2
      go_ret
      refine ⟨_, rfl, ?_, hbw⟩
      rw [← unhide HQ]
      exact unhide HO

theorem implPanOf_any (a : Option Addr) (len cap : Nat) (xs : List PnR) (ky st en : Int) (w : World) (h : PnRs w a len xs) (hl : len ≤ 1048576) : Calls Try.prog 5 #[.slice a len cap, .int .i64 ky, .agg #[.int .i64 st, .int .i64 en]] w fun e w' => ∃ v, e = .returned v ∧ OwnPn w' w.heap.size v (kpPn ky st en xs) ∧ Below w.heap.size w w' := by
  go_enter Try.func5, Try.ntmps5
  go_wp2_with (go_at_call 12; refine (onlyPn_any a len cap xs (w.heap.size + 1) ky st en _ (h.below (by repeat (first | (with_reducible refine bel_set ?_ (by first | (simp; done) | (simp; omega)) _) | (with_reducible refine bel_alloc ?_ _) | (with_reducible exact Below.refl _ _) | (with_reducible assumption) | (with_reducible refine bel_drew ?_) | (with_reducible refine bel_drewN ?_ _) | (with_reducible refine bel_trans ?_ (by with_reducible assumption))))) hl (by simp [go_sem]) (by simp [go_sem]) (by simp [go_sem]) (by simp)).mono ?_; rintro e w' ⟨v, rfl, hO, hb⟩)
  go_ret
  exact ⟨_, rfl, World.ownsRow.mono hO (by simp; omega), (by repeat (first | (with_reducible refine bel_set ?_ (by first | (simp; done) | (simp; omega)) _) | (with_reducible refine bel_alloc ?_ _) | (with_reducible exact Below.refl _ _) | (with_reducible assumption) | (with_reducible refine bel_drew ?_) | (with_reducible refine bel_drewN ?_ _) | (with_reducible refine bel_trans ?_ (by with_reducible assumption))))⟩

end Go.Proofs.Ytlaildbjcmihkaa
