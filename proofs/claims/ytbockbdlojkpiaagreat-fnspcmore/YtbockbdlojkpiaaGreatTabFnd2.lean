/- Proved here: the first row of a window of a key, in the program. -/
import Derived.Test.YtbockbdlojkpiaaGreatTabFnd
namespace Go.Proofs.YtbockbdlojkpiaaGreat
open Go.ChangeShapes Go.WideShapes Go.ChangeAt Go.RowKit
set_option linter.unusedVariables false

theorem hd_3_7 {b0 b1 o0x0 o0x1 o0x2 o1x0 o1x1 o1x2 o1x3 o1x4 o1x5 o1x6 : Nat} {v0x0 v0x1 v0x2 v1x0 v1x1 v1x2 v1x3 v1x4 v1x5 v1x6 : Value} {W W' : World} (h : ((W.cell? ⟨b0, o0x0, none⟩ = some (v0x0) ∧ W.cell? ⟨b0, o0x1, none⟩ = some (v0x1) ∧ W.cell? ⟨b0, o0x2, none⟩ = some (v0x2) ∧ W.cell? ⟨b1, o1x0, none⟩ = some (v1x0) ∧ W.cell? ⟨b1, o1x1, none⟩ = some (v1x1) ∧ W.cell? ⟨b1, o1x2, none⟩ = some (v1x2) ∧ W.cell? ⟨b1, o1x3, none⟩ = some (v1x3) ∧ W.cell? ⟨b1, o1x4, none⟩ = some (v1x4) ∧ W.cell? ⟨b1, o1x5, none⟩ = some (v1x5) ∧ W.cell? ⟨b1, o1x6, none⟩ = some (v1x6)) ∧ b0 < W.heap.size ∧ b1 < W.heap.size)) (hb : Below W.heap.size W W') : ((W'.cell? ⟨b0, o0x0, none⟩ = some (v0x0) ∧ W'.cell? ⟨b0, o0x1, none⟩ = some (v0x1) ∧ W'.cell? ⟨b0, o0x2, none⟩ = some (v0x2) ∧ W'.cell? ⟨b1, o1x0, none⟩ = some (v1x0) ∧ W'.cell? ⟨b1, o1x1, none⟩ = some (v1x1) ∧ W'.cell? ⟨b1, o1x2, none⟩ = some (v1x2) ∧ W'.cell? ⟨b1, o1x3, none⟩ = some (v1x3) ∧ W'.cell? ⟨b1, o1x4, none⟩ = some (v1x4) ∧ W'.cell? ⟨b1, o1x5, none⟩ = some (v1x5) ∧ W'.cell? ⟨b1, o1x6, none⟩ = some (v1x6)) ∧ b0 < W'.heap.size ∧ b1 < W'.heap.size) := by
  obtain ⟨⟨h0, h1, h2, h3, h4, h5, h6, h7, h8, h9⟩, s0, s1⟩ := h
  refine ⟨⟨?_, ?_, ?_, ?_, ?_, ?_, ?_, ?_, ?_, ?_⟩, Nat.lt_of_lt_of_le s0 hb.size, Nat.lt_of_lt_of_le s1 hb.size⟩
  · rw [hb.cell s0]; exact h0
  · rw [hb.cell s0]; exact h1
  · rw [hb.cell s0]; exact h2
  · rw [hb.cell s1]; exact h3
  · rw [hb.cell s1]; exact h4
  · rw [hb.cell s1]; exact h5
  · rw [hb.cell s1]; exact h6
  · rw [hb.cell s1]; exact h7
  · rw [hb.cell s1]; exact h8
  · rw [hb.cell s1]; exact h9

theorem hd_3_7_set {b0 b1 o0x0 o0x1 o0x2 o1x0 o1x1 o1x2 o1x3 o1x4 o1x5 o1x6 : Nat} {v0x0 v0x1 v0x2 v1x0 v1x1 v1x2 v1x3 v1x4 v1x5 v1x6 : Value} {W : World} {p : Addr} (h : ((W.cell? ⟨b0, o0x0, none⟩ = some (v0x0) ∧ W.cell? ⟨b0, o0x1, none⟩ = some (v0x1) ∧ W.cell? ⟨b0, o0x2, none⟩ = some (v0x2) ∧ W.cell? ⟨b1, o1x0, none⟩ = some (v1x0) ∧ W.cell? ⟨b1, o1x1, none⟩ = some (v1x1) ∧ W.cell? ⟨b1, o1x2, none⟩ = some (v1x2) ∧ W.cell? ⟨b1, o1x3, none⟩ = some (v1x3) ∧ W.cell? ⟨b1, o1x4, none⟩ = some (v1x4) ∧ W.cell? ⟨b1, o1x5, none⟩ = some (v1x5) ∧ W.cell? ⟨b1, o1x6, none⟩ = some (v1x6)) ∧ b0 < W.heap.size ∧ b1 < W.heap.size)) (p0 : p.block ≠ b0) (p1 : p.block ≠ b1) (u : Value) : (((W.setCell p u).cell? ⟨b0, o0x0, none⟩ = some (v0x0) ∧ (W.setCell p u).cell? ⟨b0, o0x1, none⟩ = some (v0x1) ∧ (W.setCell p u).cell? ⟨b0, o0x2, none⟩ = some (v0x2) ∧ (W.setCell p u).cell? ⟨b1, o1x0, none⟩ = some (v1x0) ∧ (W.setCell p u).cell? ⟨b1, o1x1, none⟩ = some (v1x1) ∧ (W.setCell p u).cell? ⟨b1, o1x2, none⟩ = some (v1x2) ∧ (W.setCell p u).cell? ⟨b1, o1x3, none⟩ = some (v1x3) ∧ (W.setCell p u).cell? ⟨b1, o1x4, none⟩ = some (v1x4) ∧ (W.setCell p u).cell? ⟨b1, o1x5, none⟩ = some (v1x5) ∧ (W.setCell p u).cell? ⟨b1, o1x6, none⟩ = some (v1x6)) ∧ b0 < (W.setCell p u).heap.size ∧ b1 < (W.setCell p u).heap.size) := by
  obtain ⟨⟨h0, h1, h2, h3, h4, h5, h6, h7, h8, h9⟩, s0, s1⟩ := h
  have hb : W.heap.size ≤ (W.setCell p u).heap.size := by simp [World.setCell]
  refine ⟨⟨?_, ?_, ?_, ?_, ?_, ?_, ?_, ?_, ?_, ?_⟩, Nat.lt_of_lt_of_le s0 hb, Nat.lt_of_lt_of_le s1 hb⟩
  · rw [cell_set_ne p0]; exact h0
  · rw [cell_set_ne p0]; exact h1
  · rw [cell_set_ne p0]; exact h2
  · rw [cell_set_ne p1]; exact h3
  · rw [cell_set_ne p1]; exact h4
  · rw [cell_set_ne p1]; exact h5
  · rw [cell_set_ne p1]; exact h6
  · rw [cell_set_ne p1]; exact h7
  · rw [cell_set_ne p1]; exact h8
  · rw [cell_set_ne p1]; exact h9

theorem hd_3_7_re {b0 b1 o0x0 o0x1 o0x2 o1x0 o1x1 o1x2 o1x3 o1x4 o1x5 o1x6 : Nat} {v0x0 v0x1 v0x2 v1x0 v1x1 v1x2 v1x3 v1x4 v1x5 v1x6 : Value} {W : World} {o o' : Obj} (h : (((W.alloc o).cell? ⟨b0, o0x0, none⟩ = some (v0x0) ∧ (W.alloc o).cell? ⟨b0, o0x1, none⟩ = some (v0x1) ∧ (W.alloc o).cell? ⟨b0, o0x2, none⟩ = some (v0x2) ∧ (W.alloc o).cell? ⟨b1, o1x0, none⟩ = some (v1x0) ∧ (W.alloc o).cell? ⟨b1, o1x1, none⟩ = some (v1x1) ∧ (W.alloc o).cell? ⟨b1, o1x2, none⟩ = some (v1x2) ∧ (W.alloc o).cell? ⟨b1, o1x3, none⟩ = some (v1x3) ∧ (W.alloc o).cell? ⟨b1, o1x4, none⟩ = some (v1x4) ∧ (W.alloc o).cell? ⟨b1, o1x5, none⟩ = some (v1x5) ∧ (W.alloc o).cell? ⟨b1, o1x6, none⟩ = some (v1x6)) ∧ b0 < (W.alloc o).heap.size ∧ b1 < (W.alloc o).heap.size)) (p0 : b0 < W.heap.size) (p1 : b1 < W.heap.size) : (((W.alloc o').cell? ⟨b0, o0x0, none⟩ = some (v0x0) ∧ (W.alloc o').cell? ⟨b0, o0x1, none⟩ = some (v0x1) ∧ (W.alloc o').cell? ⟨b0, o0x2, none⟩ = some (v0x2) ∧ (W.alloc o').cell? ⟨b1, o1x0, none⟩ = some (v1x0) ∧ (W.alloc o').cell? ⟨b1, o1x1, none⟩ = some (v1x1) ∧ (W.alloc o').cell? ⟨b1, o1x2, none⟩ = some (v1x2) ∧ (W.alloc o').cell? ⟨b1, o1x3, none⟩ = some (v1x3) ∧ (W.alloc o').cell? ⟨b1, o1x4, none⟩ = some (v1x4) ∧ (W.alloc o').cell? ⟨b1, o1x5, none⟩ = some (v1x5) ∧ (W.alloc o').cell? ⟨b1, o1x6, none⟩ = some (v1x6)) ∧ b0 < (W.alloc o').heap.size ∧ b1 < (W.alloc o').heap.size) := by
  obtain ⟨⟨h0, h1, h2, h3, h4, h5, h6, h7, h8, h9⟩, s0, s1⟩ := h
  have hb : Below W.heap.size (W.alloc o) (W.alloc o') := bel_re W o o'
  refine ⟨⟨?_, ?_, ?_, ?_, ?_, ?_, ?_, ?_, ?_, ?_⟩, Nat.lt_of_lt_of_le s0 hb.size, Nat.lt_of_lt_of_le s1 hb.size⟩
  · rw [hb.cell p0]; exact h0
  · rw [hb.cell p0]; exact h1
  · rw [hb.cell p0]; exact h2
  · rw [hb.cell p1]; exact h3
  · rw [hb.cell p1]; exact h4
  · rw [hb.cell p1]; exact h5
  · rw [hb.cell p1]; exact h6
  · rw [hb.cell p1]; exact h7
  · rw [hb.cell p1]; exact h8
  · rw [hb.cell p1]; exact h9

set_option maxRecDepth 20000 in
set_option maxHeartbeats 2000000 in
theorem implfind_any (a : Option Addr) (len cap : Nat) (xs : List TbR) (ky st en : Int) (w : World) (h : TbRs w a len xs) : Calls Tryz.prog 18 #[.slice a len cap, .int .i64 ky, .agg #[.int .i64 st, .int .i64 en]] w fun e w' => e = .returned (foundV (findT ky st en xs)) ∧ Below w.heap.size w w' := by
  have hm := h.2.1
  unfold maxLen at hm
  go_enter Tryz.func18, Tryz.ntmps18
  go_wp2
  go_loopw [16] (fun i wr => ∃ k : Nat, k ≤ len ∧ i = .int .i64 k ∧ Hid (findT ky st en (xs.take k) = none) ∧ Below (((w.alloc (.cells #[.int .i64 st, .int .i64 en] 35)).alloc (.cells #[.int .i64 0, .int .i64 0, .int .i64 0, .int .i64 0] 37)).alloc (.cells #[.int .i64 ky, .int .i64 st, .int .i64 en] 64)).heap.size (((w.alloc (.cells #[.int .i64 st, .int .i64 en] 35)).alloc (.cells #[.int .i64 0, .int .i64 0, .int .i64 0, .int .i64 0] 37)).alloc (.cells #[.int .i64 ky, .int .i64 st, .int .i64 en] 64)) wr) (fun i _ => len - (intOf i).toNat)
  case atStart => exact ⟨0, Nat.zero_le _, rfl, hide rfl, Below.refl _ _⟩
  case round =>
    obtain ⟨k, hk, rfl, hN, hbw⟩ := hrel
    have hb0 : Below w.heap.size w wr := bel_trans (bel_alloc (bel_alloc (bel_one _ _) _) _) hbw
    have c10 : wr.cell? ⟨w.heap.size + 1, 0, none⟩ = some (.int .i64 0) := (hbw.cell (p := ⟨w.heap.size + 1, 0, none⟩) (by simp; try omega)).trans (by simp [go_sem])
    have c11 : wr.cell? ⟨w.heap.size + 1, 1, none⟩ = some (.int .i64 0) := (hbw.cell (p := ⟨w.heap.size + 1, 1, none⟩) (by simp; try omega)).trans (by simp [go_sem])
    have c12 : wr.cell? ⟨w.heap.size + 1, 2, none⟩ = some (.int .i64 0) := (hbw.cell (p := ⟨w.heap.size + 1, 2, none⟩) (by simp; try omega)).trans (by simp [go_sem])
    have c13 : wr.cell? ⟨w.heap.size + 1, 3, none⟩ = some (.int .i64 0) := (hbw.cell (p := ⟨w.heap.size + 1, 3, none⟩) (by simp; try omega)).trans (by simp [go_sem])
    have z10 : wr.frozen? ⟨w.heap.size + 1, 0, none⟩ = false := (hbw.frozen (p := ⟨w.heap.size + 1, 0, none⟩) (by simp; try omega)).trans (by simp [go_sem])
    have z11 : wr.frozen? ⟨w.heap.size + 1, 1, none⟩ = false := (hbw.frozen (p := ⟨w.heap.size + 1, 1, none⟩) (by simp; try omega)).trans (by simp [go_sem])
    have z12 : wr.frozen? ⟨w.heap.size + 1, 2, none⟩ = false := (hbw.frozen (p := ⟨w.heap.size + 1, 2, none⟩) (by simp; try omega)).trans (by simp [go_sem])
    have z13 : wr.frozen? ⟨w.heap.size + 1, 3, none⟩ = false := (hbw.frozen (p := ⟨w.heap.size + 1, 3, none⟩) (by simp; try omega)).trans (by simp [go_sem])
    have c20 : wr.cell? ⟨w.heap.size + 1 + 1, 0, none⟩ = some (.int .i64 ky) := (hbw.cell (p := ⟨w.heap.size + 1 + 1, 0, none⟩) (by simp; try omega)).trans (by simp [go_sem])
    have c21 : wr.cell? ⟨w.heap.size + 1 + 1, 1, none⟩ = some (.int .i64 st) := (hbw.cell (p := ⟨w.heap.size + 1 + 1, 1, none⟩) (by simp; try omega)).trans (by simp [go_sem])
    have c22 : wr.cell? ⟨w.heap.size + 1 + 1, 2, none⟩ = some (.int .i64 en) := (hbw.cell (p := ⟨w.heap.size + 1 + 1, 2, none⟩) (by simp; try omega)).trans (by simp [go_sem])
    have hzb : w.heap.size + 1 + 1 < wr.heap.size := by have := hbw.size; simp at this; omega
    by_cases hlt : k < len
    · obtain ⟨hxl, _, hx⟩ := h
      obtain ⟨g, o, rfl, hr⟩ := hx.resolve_left (by omega)
      obtain ⟨x, hxk⟩ : ∃ x, xs[k]? = some x := ⟨_, List.getElem?_eq_getElem (by omega)⟩
      have hg : g < w.heap.size := hr.lt (by omega)
      have hX := hide hxk
      obtain ⟨d0, d1, d2, d3, d4, d5, d6⟩ := (hr k _ hxk).below hb0 hg
      clear hx hxk
      by_cases k1 : x.ky = ky
      · by_cases k2 : x.st = st
        · by_cases k3 : x.en = en
          · have hB := isB_t k1 k2 k3
            have hV := hide (foundV_hit (unhide hX) (unhide hN) hB)
            clear hB
            go_wp2
            go_region_held3 (fun W => ((W.cell? ⟨w.heap.size + 1 + 1, 0, none⟩ = some (.int .i64 ky) ∧ W.cell? ⟨w.heap.size + 1 + 1, 1, none⟩ = some (.int .i64 st) ∧ W.cell? ⟨w.heap.size + 1 + 1, 2, none⟩ = some (.int .i64 en) ∧ W.cell? ⟨wr.heap.size, 0, none⟩ = some (.int .i64 x.ky) ∧ W.cell? ⟨wr.heap.size, 1, none⟩ = some (.int .i64 x.st) ∧ W.cell? ⟨wr.heap.size, 2, none⟩ = some (.int .i64 x.en) ∧ W.cell? ⟨wr.heap.size, 3, none⟩ = some (.int .i64 x.n) ∧ W.cell? ⟨wr.heap.size, 4, none⟩ = some (.int .i64 x.su) ∧ W.cell? ⟨wr.heap.size, 5, none⟩ = some (.int .i64 x.le) ∧ W.cell? ⟨wr.heap.size, 6, none⟩ = some (.int .i64 x.mo)) ∧ w.heap.size + 1 + 1 < W.heap.size ∧ wr.heap.size < W.heap.size)) ((first | ((repeat (first | (with_reducible assumption) | (with_reducible refine hd_3_7 ?_ (by with_reducible assumption)) | (with_reducible refine hd_3_7 ?_ (bel_drew (Below.refl _ _))) | (with_reducible exact hd_3_7_re (by with_reducible assumption) (by first | omega | (simp; done) | (simp; omega)) (by first | omega | (simp; done) | (simp; omega))) | (with_reducible refine hd_3_7 ?_ (bel_one _ _)) | (with_reducible refine hd_3_7_set ?_ (by first | omega | (simp; done) | (simp; omega)) (by first | omega | (simp; done) | (simp; omega)) _))); done) | (refine ⟨⟨?_, ?_, ?_, ?_, ?_, ?_, ?_, ?_, ?_, ?_⟩, ?_, ?_⟩ <;> first | (go_keep; done) | (simp; done) | (simp; omega) | omega)))
              (first
              | (go_at_call 34; refine (rowplace_any _ _ _ _ _ _ _ _).mono ?_; rintro e w' ⟨rfl, hb⟩; obtain ⟨hc, hf, hs⟩ := bcell hb))
            all_goals
              have hbX : Below wr.heap.size wr w' := (by repeat (first | (with_reducible refine bel_set ?_ (by first | (simp; done) | (simp; omega)) _) | (with_reducible refine bel_alloc ?_ _) | (with_reducible exact Below.refl _ _) | (with_reducible assumption) | (with_reducible refine bel_drew ?_) | (with_reducible refine bel_drewN ?_ _) | (with_reducible refine bel_trans ?_ (by with_reducible assumption))))
              have g0 := (hbX.cell (p := ⟨w.heap.size + 1, 0, none⟩) (by show w.heap.size + 1 < _; omega)).trans c10
              have y0 := (hbX.frozen (p := ⟨w.heap.size + 1, 0, none⟩) (by show w.heap.size + 1 < _; omega)).trans z10
              have g1 := (hbX.cell (p := ⟨w.heap.size + 1, 1, none⟩) (by show w.heap.size + 1 < _; omega)).trans c11
              have y1 := (hbX.frozen (p := ⟨w.heap.size + 1, 1, none⟩) (by show w.heap.size + 1 < _; omega)).trans z11
              have g2 := (hbX.cell (p := ⟨w.heap.size + 1, 2, none⟩) (by show w.heap.size + 1 < _; omega)).trans c12
              have y2 := (hbX.frozen (p := ⟨w.heap.size + 1, 2, none⟩) (by show w.heap.size + 1 < _; omega)).trans z12
              have g3 := (hbX.cell (p := ⟨w.heap.size + 1, 3, none⟩) (by show w.heap.size + 1 < _; omega)).trans c13
              have y3 := (hbX.frozen (p := ⟨w.heap.size + 1, 3, none⟩) (by show w.heap.size + 1 < _; omega)).trans z13
              have hzw : w.heap.size + 1 < w'.heap.size := by have := hbX.size; omega
              clear hc hf hs
              go_wp2
              show bodyPost _ _ _ _ _ _
              refine bodyPost_ret (v := .tuple #[.agg #[.int .i64 x.n, .int .i64 x.su, .int .i64 x.le, .int .i64 x.mo], .bool true]) (by simp (maxDischargeDepth := 9) [results, Tryz.results18, go_sem, *]) rfl ⟨ret_v (unhide hV).symm, ?_⟩
              exact (by repeat (first | (with_reducible refine bel_set ?_ (by first | (simp; done) | (simp; omega)) _) | (with_reducible refine bel_alloc ?_ _) | (with_reducible exact Below.refl _ _) | (with_reducible assumption) | (with_reducible refine bel_drew ?_) | (with_reducible refine bel_drewN ?_ _) | (with_reducible refine bel_trans ?_ (by with_reducible assumption))))
          · have hB := isB_3 (ky := ky) (st := st) k3
            have k3' : (x.en == en) = false := by simpa using k3
            have hN' := hide (findT_no (unhide hX) (unhide hN) hB)
            clear hB
            go_wp2
            go_region_held3 (fun W => ((W.cell? ⟨w.heap.size + 1 + 1, 0, none⟩ = some (.int .i64 ky) ∧ W.cell? ⟨w.heap.size + 1 + 1, 1, none⟩ = some (.int .i64 st) ∧ W.cell? ⟨w.heap.size + 1 + 1, 2, none⟩ = some (.int .i64 en) ∧ W.cell? ⟨wr.heap.size, 0, none⟩ = some (.int .i64 x.ky) ∧ W.cell? ⟨wr.heap.size, 1, none⟩ = some (.int .i64 x.st) ∧ W.cell? ⟨wr.heap.size, 2, none⟩ = some (.int .i64 x.en) ∧ W.cell? ⟨wr.heap.size, 3, none⟩ = some (.int .i64 x.n) ∧ W.cell? ⟨wr.heap.size, 4, none⟩ = some (.int .i64 x.su) ∧ W.cell? ⟨wr.heap.size, 5, none⟩ = some (.int .i64 x.le) ∧ W.cell? ⟨wr.heap.size, 6, none⟩ = some (.int .i64 x.mo)) ∧ w.heap.size + 1 + 1 < W.heap.size ∧ wr.heap.size < W.heap.size)) ((first | ((repeat (first | (with_reducible assumption) | (with_reducible refine hd_3_7 ?_ (by with_reducible assumption)) | (with_reducible refine hd_3_7 ?_ (bel_drew (Below.refl _ _))) | (with_reducible exact hd_3_7_re (by with_reducible assumption) (by first | omega | (simp; done) | (simp; omega)) (by first | omega | (simp; done) | (simp; omega))) | (with_reducible refine hd_3_7 ?_ (bel_one _ _)) | (with_reducible refine hd_3_7_set ?_ (by first | omega | (simp; done) | (simp; omega)) (by first | omega | (simp; done) | (simp; omega)) _))); done) | (refine ⟨⟨?_, ?_, ?_, ?_, ?_, ?_, ?_, ?_, ?_, ?_⟩, ?_, ?_⟩ <;> first | (go_keep; done) | (simp; done) | (simp; omega) | omega)))
              (first
              | (go_at_call 34; refine (rowplace_any _ _ _ _ _ _ _ _).mono ?_; rintro e w' ⟨rfl, hb⟩; obtain ⟨hc, hf, hs⟩ := bcell hb))
            all_goals
              go_wp2
              go_roundw
              case rel => exact ⟨k + 1, by omega, by go_num, hN', (by repeat (first | (with_reducible refine bel_set ?_ (by first | (simp; done) | (simp; omega)) _) | (with_reducible refine bel_alloc ?_ _) | (with_reducible exact Below.refl _ _) | (with_reducible assumption) | (with_reducible refine bel_drew ?_) | (with_reducible refine bel_drewN ?_ _) | (with_reducible refine bel_trans ?_ (by with_reducible assumption))))⟩
              case measure => simp [intOf]; omega
        · have hB := isB_2 (ky := ky) (en := en) k2
          have k2' : (x.st == st) = false := by simpa using k2
          have hN' := hide (findT_no (unhide hX) (unhide hN) hB)
          clear hB
          go_wp2
          go_region_held3 (fun W => ((W.cell? ⟨w.heap.size + 1 + 1, 0, none⟩ = some (.int .i64 ky) ∧ W.cell? ⟨w.heap.size + 1 + 1, 1, none⟩ = some (.int .i64 st) ∧ W.cell? ⟨w.heap.size + 1 + 1, 2, none⟩ = some (.int .i64 en) ∧ W.cell? ⟨wr.heap.size, 0, none⟩ = some (.int .i64 x.ky) ∧ W.cell? ⟨wr.heap.size, 1, none⟩ = some (.int .i64 x.st) ∧ W.cell? ⟨wr.heap.size, 2, none⟩ = some (.int .i64 x.en) ∧ W.cell? ⟨wr.heap.size, 3, none⟩ = some (.int .i64 x.n) ∧ W.cell? ⟨wr.heap.size, 4, none⟩ = some (.int .i64 x.su) ∧ W.cell? ⟨wr.heap.size, 5, none⟩ = some (.int .i64 x.le) ∧ W.cell? ⟨wr.heap.size, 6, none⟩ = some (.int .i64 x.mo)) ∧ w.heap.size + 1 + 1 < W.heap.size ∧ wr.heap.size < W.heap.size)) ((first | ((repeat (first | (with_reducible assumption) | (with_reducible refine hd_3_7 ?_ (by with_reducible assumption)) | (with_reducible refine hd_3_7 ?_ (bel_drew (Below.refl _ _))) | (with_reducible exact hd_3_7_re (by with_reducible assumption) (by first | omega | (simp; done) | (simp; omega)) (by first | omega | (simp; done) | (simp; omega))) | (with_reducible refine hd_3_7 ?_ (bel_one _ _)) | (with_reducible refine hd_3_7_set ?_ (by first | omega | (simp; done) | (simp; omega)) (by first | omega | (simp; done) | (simp; omega)) _))); done) | (refine ⟨⟨?_, ?_, ?_, ?_, ?_, ?_, ?_, ?_, ?_, ?_⟩, ?_, ?_⟩ <;> first | (go_keep; done) | (simp; done) | (simp; omega) | omega)))
            (first
            | (go_at_call 34; refine (rowplace_any _ _ _ _ _ _ _ _).mono ?_; rintro e w' ⟨rfl, hb⟩; obtain ⟨hc, hf, hs⟩ := bcell hb))
          all_goals
            go_wp2
            go_roundw
            case rel => exact ⟨k + 1, by omega, by go_num, hN', (by repeat (first | (with_reducible refine bel_set ?_ (by first | (simp; done) | (simp; omega)) _) | (with_reducible refine bel_alloc ?_ _) | (with_reducible exact Below.refl _ _) | (with_reducible assumption) | (with_reducible refine bel_drew ?_) | (with_reducible refine bel_drewN ?_ _) | (with_reducible refine bel_trans ?_ (by with_reducible assumption))))⟩
            case measure => simp [intOf]; omega
      · have hB := isB_1 (st := st) (en := en) k1
        have k1' : (x.ky == ky) = false := by simpa using k1
        have hN' := hide (findT_no (unhide hX) (unhide hN) hB)
        clear hB
        go_wp2
        go_region_held3 (fun W => ((W.cell? ⟨w.heap.size + 1 + 1, 0, none⟩ = some (.int .i64 ky) ∧ W.cell? ⟨w.heap.size + 1 + 1, 1, none⟩ = some (.int .i64 st) ∧ W.cell? ⟨w.heap.size + 1 + 1, 2, none⟩ = some (.int .i64 en) ∧ W.cell? ⟨wr.heap.size, 0, none⟩ = some (.int .i64 x.ky) ∧ W.cell? ⟨wr.heap.size, 1, none⟩ = some (.int .i64 x.st) ∧ W.cell? ⟨wr.heap.size, 2, none⟩ = some (.int .i64 x.en) ∧ W.cell? ⟨wr.heap.size, 3, none⟩ = some (.int .i64 x.n) ∧ W.cell? ⟨wr.heap.size, 4, none⟩ = some (.int .i64 x.su) ∧ W.cell? ⟨wr.heap.size, 5, none⟩ = some (.int .i64 x.le) ∧ W.cell? ⟨wr.heap.size, 6, none⟩ = some (.int .i64 x.mo)) ∧ w.heap.size + 1 + 1 < W.heap.size ∧ wr.heap.size < W.heap.size)) ((first | ((repeat (first | (with_reducible assumption) | (with_reducible refine hd_3_7 ?_ (by with_reducible assumption)) | (with_reducible refine hd_3_7 ?_ (bel_drew (Below.refl _ _))) | (with_reducible exact hd_3_7_re (by with_reducible assumption) (by first | omega | (simp; done) | (simp; omega)) (by first | omega | (simp; done) | (simp; omega))) | (with_reducible refine hd_3_7 ?_ (bel_one _ _)) | (with_reducible refine hd_3_7_set ?_ (by first | omega | (simp; done) | (simp; omega)) (by first | omega | (simp; done) | (simp; omega)) _))); done) | (refine ⟨⟨?_, ?_, ?_, ?_, ?_, ?_, ?_, ?_, ?_, ?_⟩, ?_, ?_⟩ <;> first | (go_keep; done) | (simp; done) | (simp; omega) | omega)))
          (first
          | (go_at_call 34; refine (rowplace_any _ _ _ _ _ _ _ _).mono ?_; rintro e w' ⟨rfl, hb⟩; obtain ⟨hc, hf, hs⟩ := bcell hb))
        all_goals
          go_wp2
          go_roundw
          case rel => exact ⟨k + 1, by omega, by go_num, hN', (by repeat (first | (with_reducible refine bel_set ?_ (by first | (simp; done) | (simp; omega)) _) | (with_reducible refine bel_alloc ?_ _) | (with_reducible exact Below.refl _ _) | (with_reducible assumption) | (with_reducible refine bel_drew ?_) | (with_reducible refine bel_drewN ?_ _) | (with_reducible refine bel_trans ?_ (by with_reducible assumption))))⟩
          case measure => simp [intOf]; omega

    · have hV : Hid (foundV (findT ky st en xs) = .tuple #[.agg #[.int .i64 0, .int .i64 0, .int .i64 0, .int .i64 0], .bool false]) := hide (by have e := unhide hN; rw [List.take_of_length_le (by have := h.1; omega)] at e; rw [e]; rfl)
      go_wp2
      show bodyPost _ _ _ _ _ _
      refine bodyPost_ret (v := .tuple #[.agg #[.int .i64 0, .int .i64 0, .int .i64 0, .int .i64 0], .bool false]) (by simp (maxDischargeDepth := 9) [results, Tryz.results18, go_sem, *]) rfl ⟨ret_v (unhide hV).symm, ?_⟩
      exact (by repeat (first | (with_reducible refine bel_set ?_ (by first | (simp; done) | (simp; omega)) _) | (with_reducible refine bel_alloc ?_ _) | (with_reducible exact Below.refl _ _) | (with_reducible assumption) | (with_reducible refine bel_drew ?_) | (with_reducible refine bel_drewN ?_ _) | (with_reducible refine bel_trans ?_ (by with_reducible assumption))))

end Go.Proofs.YtbockbdlojkpiaaGreat
