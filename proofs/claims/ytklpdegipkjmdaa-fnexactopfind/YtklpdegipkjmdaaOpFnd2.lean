/- Proved here: the open window of a key, in the program. -/
import Derived.Test.YtklpdegipkjmdaaOpFnd
namespace Go.Proofs.Ytklpdegipkjmdaa
open Go.ChangeShapes Go.WideShapes Go.ChangeAt Go.RowKit
set_option linter.unusedVariables false

set_option maxRecDepth 20000 in
set_option maxHeartbeats 2000000 in
theorem implofind_any (m : Int) (a : Option Addr) (len cap : Nat) (xs : List OrR) (ky st en : Int) (w : World) (h : OrRs w a len xs) : Calls Try.prog 14 #[.agg #[.int .i64 m, .slice a len cap], .int .i64 ky, .agg #[.int .i64 st, .int .i64 en]] w fun e w' => e = .returned (foundO (findO ky st en xs)) ∧ Below w.heap.size w w' := by
  have hm := h.2.1
  unfold maxLen at hm
  go_enter Try.func14, Try.ntmps14
  go_wp2
  go_loopw [17] (fun i wr => ∃ k : Nat, k ≤ len ∧ i = .int .i64 k ∧ Hid (findO ky st en (xs.take k) = none) ∧ Below ((((w.alloc (.cells #[.int .i64 m, .slice a len cap] 33)).alloc (.cells #[.int .i64 st, .int .i64 en] 39)).alloc (.cells #[.int .i64 0, .int .i64 0, .int .i64 0, .int .i64 0, .int .i64 0, .int .i64 0, .int .i64 0, .int .i64 0, .int .i64 0, .int .i64 0, .int .i64 0, .int .i64 0, .bool false] 43)).alloc (.cells #[.int .i64 ky, .int .i64 st, .int .i64 en] 67)).heap.size ((((w.alloc (.cells #[.int .i64 m, .slice a len cap] 33)).alloc (.cells #[.int .i64 st, .int .i64 en] 39)).alloc (.cells #[.int .i64 0, .int .i64 0, .int .i64 0, .int .i64 0, .int .i64 0, .int .i64 0, .int .i64 0, .int .i64 0, .int .i64 0, .int .i64 0, .int .i64 0, .int .i64 0, .bool false] 43)).alloc (.cells #[.int .i64 ky, .int .i64 st, .int .i64 en] 67)) wr) (fun i _ => len - (intOf i).toNat)
  case atStart => exact ⟨0, Nat.zero_le _, rfl, hide rfl, Below.refl _ _⟩
  case round =>
    obtain ⟨k, hk, rfl, hN, hbw⟩ := hrel
    have hb0 : Below w.heap.size w wr := bel_trans (bel_alloc (bel_alloc (bel_alloc (bel_one _ _) _) _) _) hbw
    have c2_0 : wr.cell? ⟨w.heap.size + 1 + 1, 0, none⟩ = some (.int .i64 0) := (hbw.cell (p := ⟨w.heap.size + 1 + 1, 0, none⟩) (by simp; try omega)).trans (by simp [go_sem])
    have c2_1 : wr.cell? ⟨w.heap.size + 1 + 1, 1, none⟩ = some (.int .i64 0) := (hbw.cell (p := ⟨w.heap.size + 1 + 1, 1, none⟩) (by simp; try omega)).trans (by simp [go_sem])
    have c2_2 : wr.cell? ⟨w.heap.size + 1 + 1, 2, none⟩ = some (.int .i64 0) := (hbw.cell (p := ⟨w.heap.size + 1 + 1, 2, none⟩) (by simp; try omega)).trans (by simp [go_sem])
    have c2_3 : wr.cell? ⟨w.heap.size + 1 + 1, 3, none⟩ = some (.int .i64 0) := (hbw.cell (p := ⟨w.heap.size + 1 + 1, 3, none⟩) (by simp; try omega)).trans (by simp [go_sem])
    have c2_4 : wr.cell? ⟨w.heap.size + 1 + 1, 4, none⟩ = some (.int .i64 0) := (hbw.cell (p := ⟨w.heap.size + 1 + 1, 4, none⟩) (by simp; try omega)).trans (by simp [go_sem])
    have c2_5 : wr.cell? ⟨w.heap.size + 1 + 1, 5, none⟩ = some (.int .i64 0) := (hbw.cell (p := ⟨w.heap.size + 1 + 1, 5, none⟩) (by simp; try omega)).trans (by simp [go_sem])
    have c2_6 : wr.cell? ⟨w.heap.size + 1 + 1, 6, none⟩ = some (.int .i64 0) := (hbw.cell (p := ⟨w.heap.size + 1 + 1, 6, none⟩) (by simp; try omega)).trans (by simp [go_sem])
    have c2_7 : wr.cell? ⟨w.heap.size + 1 + 1, 7, none⟩ = some (.int .i64 0) := (hbw.cell (p := ⟨w.heap.size + 1 + 1, 7, none⟩) (by simp; try omega)).trans (by simp [go_sem])
    have c2_8 : wr.cell? ⟨w.heap.size + 1 + 1, 8, none⟩ = some (.int .i64 0) := (hbw.cell (p := ⟨w.heap.size + 1 + 1, 8, none⟩) (by simp; try omega)).trans (by simp [go_sem])
    have c2_9 : wr.cell? ⟨w.heap.size + 1 + 1, 9, none⟩ = some (.int .i64 0) := (hbw.cell (p := ⟨w.heap.size + 1 + 1, 9, none⟩) (by simp; try omega)).trans (by simp [go_sem])
    have c2_10 : wr.cell? ⟨w.heap.size + 1 + 1, 10, none⟩ = some (.int .i64 0) := (hbw.cell (p := ⟨w.heap.size + 1 + 1, 10, none⟩) (by simp; try omega)).trans (by simp [go_sem])
    have c2_11 : wr.cell? ⟨w.heap.size + 1 + 1, 11, none⟩ = some (.int .i64 0) := (hbw.cell (p := ⟨w.heap.size + 1 + 1, 11, none⟩) (by simp; try omega)).trans (by simp [go_sem])
    have c2_12 : wr.cell? ⟨w.heap.size + 1 + 1, 12, none⟩ = some (.bool false) := (hbw.cell (p := ⟨w.heap.size + 1 + 1, 12, none⟩) (by simp; try omega)).trans (by simp [go_sem])
    have z2_0 : wr.frozen? ⟨w.heap.size + 1 + 1, 0, none⟩ = false := (hbw.frozen (p := ⟨w.heap.size + 1 + 1, 0, none⟩) (by simp; try omega)).trans (by simp [go_sem])
    have z2_1 : wr.frozen? ⟨w.heap.size + 1 + 1, 1, none⟩ = false := (hbw.frozen (p := ⟨w.heap.size + 1 + 1, 1, none⟩) (by simp; try omega)).trans (by simp [go_sem])
    have z2_2 : wr.frozen? ⟨w.heap.size + 1 + 1, 2, none⟩ = false := (hbw.frozen (p := ⟨w.heap.size + 1 + 1, 2, none⟩) (by simp; try omega)).trans (by simp [go_sem])
    have z2_3 : wr.frozen? ⟨w.heap.size + 1 + 1, 3, none⟩ = false := (hbw.frozen (p := ⟨w.heap.size + 1 + 1, 3, none⟩) (by simp; try omega)).trans (by simp [go_sem])
    have z2_4 : wr.frozen? ⟨w.heap.size + 1 + 1, 4, none⟩ = false := (hbw.frozen (p := ⟨w.heap.size + 1 + 1, 4, none⟩) (by simp; try omega)).trans (by simp [go_sem])
    have z2_5 : wr.frozen? ⟨w.heap.size + 1 + 1, 5, none⟩ = false := (hbw.frozen (p := ⟨w.heap.size + 1 + 1, 5, none⟩) (by simp; try omega)).trans (by simp [go_sem])
    have z2_6 : wr.frozen? ⟨w.heap.size + 1 + 1, 6, none⟩ = false := (hbw.frozen (p := ⟨w.heap.size + 1 + 1, 6, none⟩) (by simp; try omega)).trans (by simp [go_sem])
    have z2_7 : wr.frozen? ⟨w.heap.size + 1 + 1, 7, none⟩ = false := (hbw.frozen (p := ⟨w.heap.size + 1 + 1, 7, none⟩) (by simp; try omega)).trans (by simp [go_sem])
    have z2_8 : wr.frozen? ⟨w.heap.size + 1 + 1, 8, none⟩ = false := (hbw.frozen (p := ⟨w.heap.size + 1 + 1, 8, none⟩) (by simp; try omega)).trans (by simp [go_sem])
    have z2_9 : wr.frozen? ⟨w.heap.size + 1 + 1, 9, none⟩ = false := (hbw.frozen (p := ⟨w.heap.size + 1 + 1, 9, none⟩) (by simp; try omega)).trans (by simp [go_sem])
    have z2_10 : wr.frozen? ⟨w.heap.size + 1 + 1, 10, none⟩ = false := (hbw.frozen (p := ⟨w.heap.size + 1 + 1, 10, none⟩) (by simp; try omega)).trans (by simp [go_sem])
    have z2_11 : wr.frozen? ⟨w.heap.size + 1 + 1, 11, none⟩ = false := (hbw.frozen (p := ⟨w.heap.size + 1 + 1, 11, none⟩) (by simp; try omega)).trans (by simp [go_sem])
    have z2_12 : wr.frozen? ⟨w.heap.size + 1 + 1, 12, none⟩ = false := (hbw.frozen (p := ⟨w.heap.size + 1 + 1, 12, none⟩) (by simp; try omega)).trans (by simp [go_sem])
    have c3_0 : wr.cell? ⟨w.heap.size + 1 + 1 + 1, 0, none⟩ = some (.int .i64 ky) := (hbw.cell (p := ⟨w.heap.size + 1 + 1 + 1, 0, none⟩) (by simp; try omega)).trans (by simp [go_sem])
    have c3_1 : wr.cell? ⟨w.heap.size + 1 + 1 + 1, 1, none⟩ = some (.int .i64 st) := (hbw.cell (p := ⟨w.heap.size + 1 + 1 + 1, 1, none⟩) (by simp; try omega)).trans (by simp [go_sem])
    have c3_2 : wr.cell? ⟨w.heap.size + 1 + 1 + 1, 2, none⟩ = some (.int .i64 en) := (hbw.cell (p := ⟨w.heap.size + 1 + 1 + 1, 2, none⟩) (by simp; try omega)).trans (by simp [go_sem])
    have hzb : w.heap.size + 1 + 1 + 1 < wr.heap.size := by have := hbw.size; simp at this; omega
    by_cases hlt : k < len
    · obtain ⟨hxl, _, hx⟩ := h
      obtain ⟨g, o, rfl, hr⟩ := hx.resolve_left (by omega)
      obtain ⟨x, hxk⟩ : ∃ x, xs[k]? = some x := ⟨_, List.getElem?_eq_getElem (by omega)⟩
      have hg : g < w.heap.size := hr.lt (by omega)
      have hX := hide hxk
      obtain ⟨d0, d1, d2, d3, d4, d5, d6, d7, d8, d9, d10, d11, d12⟩ := (hr k _ hxk).below hb0 hg
      clear hx hxk
      by_cases k1 : x.ky = ky
      · by_cases k2 : x.st = st
        · by_cases k3 : x.en = en
          · have hB := isO_t k1 k2 k3
            have hV := hide (foundO_hit (unhide hX) (unhide hN) hB)
            clear hB
            go_wp2
            go_region_held3 (fun W => ((W.cell? ⟨w.heap.size + 1 + 1 + 1, 0, none⟩ = some (.int .i64 ky) ∧ W.cell? ⟨w.heap.size + 1 + 1 + 1, 1, none⟩ = some (.int .i64 st) ∧ W.cell? ⟨w.heap.size + 1 + 1 + 1, 2, none⟩ = some (.int .i64 en) ∧ W.cell? ⟨wr.heap.size, 0, none⟩ = some (.int .i64 x.ky) ∧ W.cell? ⟨wr.heap.size, 1, none⟩ = some (.int .i64 x.st) ∧ W.cell? ⟨wr.heap.size, 2, none⟩ = some (.int .i64 x.en) ∧ W.cell? ⟨wr.heap.size, 3, none⟩ = some (.int .i64 x.an) ∧ W.cell? ⟨wr.heap.size, 4, none⟩ = some (.int .i64 x.asu) ∧ W.cell? ⟨wr.heap.size, 5, none⟩ = some (.int .i64 x.ale) ∧ W.cell? ⟨wr.heap.size, 6, none⟩ = some (.int .i64 x.amo) ∧ W.cell? ⟨wr.heap.size, 7, none⟩ = some (.int .i64 x.fn) ∧ W.cell? ⟨wr.heap.size, 8, none⟩ = some (.int .i64 x.fsu) ∧ W.cell? ⟨wr.heap.size, 9, none⟩ = some (.int .i64 x.fle) ∧ W.cell? ⟨wr.heap.size, 10, none⟩ = some (.int .i64 x.fmo) ∧ W.cell? ⟨wr.heap.size, 11, none⟩ = some (.int .i64 x.td) ∧ W.cell? ⟨wr.heap.size, 12, none⟩ = some (.bool x.tm)) ∧ w.heap.size + 1 + 1 + 1 < W.heap.size ∧ wr.heap.size < W.heap.size)) ((first | ((repeat (first | (with_reducible assumption) | (with_reducible refine hd_3_13 ?_ (by with_reducible assumption)) | (with_reducible refine hd_3_13 ?_ (bel_drew (Below.refl _ _))) | (with_reducible exact hd_3_13_re (by with_reducible assumption) (by first | omega | (simp; done) | (simp; omega)) (by first | omega | (simp; done) | (simp; omega))) | (with_reducible refine hd_3_13 ?_ (bel_one _ _)) | (with_reducible refine hd_3_13_set ?_ (by first | omega | (simp; done) | (simp; omega)) (by first | omega | (simp; done) | (simp; omega)) _))); done) | (refine ⟨⟨?_, ?_, ?_, ?_, ?_, ?_, ?_, ?_, ?_, ?_, ?_, ?_, ?_, ?_, ?_, ?_⟩, ?_, ?_⟩ <;> first | (go_keep; done) | (simp; done) | (simp; omega) | omega)))
              (first
              | (go_at_call 35; refine (opplace_any _ _ _ _ _ _ _ _ _ _ _ _ _ _).mono ?_; rintro e w' ⟨rfl, hb⟩; obtain ⟨hc, hf, hs⟩ := bcell hb))
            all_goals
              have hbX : Below wr.heap.size wr w' := (by repeat (first | (with_reducible refine bel_set ?_ (by first | (simp; done) | (simp; omega)) _) | (with_reducible refine bel_alloc ?_ _) | (with_reducible exact Below.refl _ _) | (with_reducible assumption) | (with_reducible refine bel_drew ?_) | (with_reducible refine bel_drewN ?_ _) | (with_reducible refine bel_trans ?_ (by with_reducible assumption))))
              have g0 := (hbX.cell (p := ⟨w.heap.size + 1 + 1, 0, none⟩) (by show w.heap.size + 1 + 1 < _; omega)).trans c2_0
              have y0 := (hbX.frozen (p := ⟨w.heap.size + 1 + 1, 0, none⟩) (by show w.heap.size + 1 + 1 < _; omega)).trans z2_0
              have g1 := (hbX.cell (p := ⟨w.heap.size + 1 + 1, 1, none⟩) (by show w.heap.size + 1 + 1 < _; omega)).trans c2_1
              have y1 := (hbX.frozen (p := ⟨w.heap.size + 1 + 1, 1, none⟩) (by show w.heap.size + 1 + 1 < _; omega)).trans z2_1
              have g2 := (hbX.cell (p := ⟨w.heap.size + 1 + 1, 2, none⟩) (by show w.heap.size + 1 + 1 < _; omega)).trans c2_2
              have y2 := (hbX.frozen (p := ⟨w.heap.size + 1 + 1, 2, none⟩) (by show w.heap.size + 1 + 1 < _; omega)).trans z2_2
              have g3 := (hbX.cell (p := ⟨w.heap.size + 1 + 1, 3, none⟩) (by show w.heap.size + 1 + 1 < _; omega)).trans c2_3
              have y3 := (hbX.frozen (p := ⟨w.heap.size + 1 + 1, 3, none⟩) (by show w.heap.size + 1 + 1 < _; omega)).trans z2_3
              have g4 := (hbX.cell (p := ⟨w.heap.size + 1 + 1, 4, none⟩) (by show w.heap.size + 1 + 1 < _; omega)).trans c2_4
              have y4 := (hbX.frozen (p := ⟨w.heap.size + 1 + 1, 4, none⟩) (by show w.heap.size + 1 + 1 < _; omega)).trans z2_4
              have g5 := (hbX.cell (p := ⟨w.heap.size + 1 + 1, 5, none⟩) (by show w.heap.size + 1 + 1 < _; omega)).trans c2_5
              have y5 := (hbX.frozen (p := ⟨w.heap.size + 1 + 1, 5, none⟩) (by show w.heap.size + 1 + 1 < _; omega)).trans z2_5
              have g6 := (hbX.cell (p := ⟨w.heap.size + 1 + 1, 6, none⟩) (by show w.heap.size + 1 + 1 < _; omega)).trans c2_6
              have y6 := (hbX.frozen (p := ⟨w.heap.size + 1 + 1, 6, none⟩) (by show w.heap.size + 1 + 1 < _; omega)).trans z2_6
              have g7 := (hbX.cell (p := ⟨w.heap.size + 1 + 1, 7, none⟩) (by show w.heap.size + 1 + 1 < _; omega)).trans c2_7
              have y7 := (hbX.frozen (p := ⟨w.heap.size + 1 + 1, 7, none⟩) (by show w.heap.size + 1 + 1 < _; omega)).trans z2_7
              have g8 := (hbX.cell (p := ⟨w.heap.size + 1 + 1, 8, none⟩) (by show w.heap.size + 1 + 1 < _; omega)).trans c2_8
              have y8 := (hbX.frozen (p := ⟨w.heap.size + 1 + 1, 8, none⟩) (by show w.heap.size + 1 + 1 < _; omega)).trans z2_8
              have g9 := (hbX.cell (p := ⟨w.heap.size + 1 + 1, 9, none⟩) (by show w.heap.size + 1 + 1 < _; omega)).trans c2_9
              have y9 := (hbX.frozen (p := ⟨w.heap.size + 1 + 1, 9, none⟩) (by show w.heap.size + 1 + 1 < _; omega)).trans z2_9
              have g10 := (hbX.cell (p := ⟨w.heap.size + 1 + 1, 10, none⟩) (by show w.heap.size + 1 + 1 < _; omega)).trans c2_10
              have y10 := (hbX.frozen (p := ⟨w.heap.size + 1 + 1, 10, none⟩) (by show w.heap.size + 1 + 1 < _; omega)).trans z2_10
              have g11 := (hbX.cell (p := ⟨w.heap.size + 1 + 1, 11, none⟩) (by show w.heap.size + 1 + 1 < _; omega)).trans c2_11
              have y11 := (hbX.frozen (p := ⟨w.heap.size + 1 + 1, 11, none⟩) (by show w.heap.size + 1 + 1 < _; omega)).trans z2_11
              have g12 := (hbX.cell (p := ⟨w.heap.size + 1 + 1, 12, none⟩) (by show w.heap.size + 1 + 1 < _; omega)).trans c2_12
              have y12 := (hbX.frozen (p := ⟨w.heap.size + 1 + 1, 12, none⟩) (by show w.heap.size + 1 + 1 < _; omega)).trans z2_12
              have hzw : w.heap.size + 1 + 1 < w'.heap.size := by have := hbX.size; omega
              clear hc hf hs
              go_wp2
              show bodyPost _ _ _ _ _ _
              refine bodyPost_ret (v := .tuple #[.agg #[.int .i64 x.ky, .int .i64 x.st, .int .i64 x.en, .int .i64 x.an, .int .i64 x.asu, .int .i64 x.ale, .int .i64 x.amo, .int .i64 x.fn, .int .i64 x.fsu, .int .i64 x.fle, .int .i64 x.fmo, .int .i64 x.td, .bool x.tm], .bool true]) (by simp (maxDischargeDepth := 9) [results, Try.results14, go_sem, *]) rfl ⟨ret_vO (unhide hV).symm, ?_⟩
              exact (by repeat (first | (with_reducible refine bel_set ?_ (by first | (simp; done) | (simp; omega)) _) | (with_reducible refine bel_alloc ?_ _) | (with_reducible exact Below.refl _ _) | (with_reducible assumption) | (with_reducible refine bel_drew ?_) | (with_reducible refine bel_drewN ?_ _) | (with_reducible refine bel_trans ?_ (by with_reducible assumption))))
          · have hB := isO_3 (ky := ky) (st := st) k3
            have k3' : (x.en == en) = false := by simpa using k3
            have hN' := hide (findO_no (unhide hX) (unhide hN) hB)
            clear hB
            go_wp2
            go_region_held3 (fun W => ((W.cell? ⟨w.heap.size + 1 + 1 + 1, 0, none⟩ = some (.int .i64 ky) ∧ W.cell? ⟨w.heap.size + 1 + 1 + 1, 1, none⟩ = some (.int .i64 st) ∧ W.cell? ⟨w.heap.size + 1 + 1 + 1, 2, none⟩ = some (.int .i64 en) ∧ W.cell? ⟨wr.heap.size, 0, none⟩ = some (.int .i64 x.ky) ∧ W.cell? ⟨wr.heap.size, 1, none⟩ = some (.int .i64 x.st) ∧ W.cell? ⟨wr.heap.size, 2, none⟩ = some (.int .i64 x.en) ∧ W.cell? ⟨wr.heap.size, 3, none⟩ = some (.int .i64 x.an) ∧ W.cell? ⟨wr.heap.size, 4, none⟩ = some (.int .i64 x.asu) ∧ W.cell? ⟨wr.heap.size, 5, none⟩ = some (.int .i64 x.ale) ∧ W.cell? ⟨wr.heap.size, 6, none⟩ = some (.int .i64 x.amo) ∧ W.cell? ⟨wr.heap.size, 7, none⟩ = some (.int .i64 x.fn) ∧ W.cell? ⟨wr.heap.size, 8, none⟩ = some (.int .i64 x.fsu) ∧ W.cell? ⟨wr.heap.size, 9, none⟩ = some (.int .i64 x.fle) ∧ W.cell? ⟨wr.heap.size, 10, none⟩ = some (.int .i64 x.fmo) ∧ W.cell? ⟨wr.heap.size, 11, none⟩ = some (.int .i64 x.td) ∧ W.cell? ⟨wr.heap.size, 12, none⟩ = some (.bool x.tm)) ∧ w.heap.size + 1 + 1 + 1 < W.heap.size ∧ wr.heap.size < W.heap.size)) ((first | ((repeat (first | (with_reducible assumption) | (with_reducible refine hd_3_13 ?_ (by with_reducible assumption)) | (with_reducible refine hd_3_13 ?_ (bel_drew (Below.refl _ _))) | (with_reducible exact hd_3_13_re (by with_reducible assumption) (by first | omega | (simp; done) | (simp; omega)) (by first | omega | (simp; done) | (simp; omega))) | (with_reducible refine hd_3_13 ?_ (bel_one _ _)) | (with_reducible refine hd_3_13_set ?_ (by first | omega | (simp; done) | (simp; omega)) (by first | omega | (simp; done) | (simp; omega)) _))); done) | (refine ⟨⟨?_, ?_, ?_, ?_, ?_, ?_, ?_, ?_, ?_, ?_, ?_, ?_, ?_, ?_, ?_, ?_⟩, ?_, ?_⟩ <;> first | (go_keep; done) | (simp; done) | (simp; omega) | omega)))
              (first
              | (go_at_call 35; refine (opplace_any _ _ _ _ _ _ _ _ _ _ _ _ _ _).mono ?_; rintro e w' ⟨rfl, hb⟩; obtain ⟨hc, hf, hs⟩ := bcell hb))
            all_goals
              go_wp2
              go_roundw
              case rel => exact ⟨k + 1, by omega, by go_num, hN', (by repeat (first | (with_reducible refine bel_set ?_ (by first | (simp; done) | (simp; omega)) _) | (with_reducible refine bel_alloc ?_ _) | (with_reducible exact Below.refl _ _) | (with_reducible assumption) | (with_reducible refine bel_drew ?_) | (with_reducible refine bel_drewN ?_ _) | (with_reducible refine bel_trans ?_ (by with_reducible assumption))))⟩
              case measure => simp [intOf]; omega
        · have hB := isO_2 (ky := ky) (en := en) k2
          have k2' : (x.st == st) = false := by simpa using k2
          have hN' := hide (findO_no (unhide hX) (unhide hN) hB)
          clear hB
          go_wp2
          go_region_held3 (fun W => ((W.cell? ⟨w.heap.size + 1 + 1 + 1, 0, none⟩ = some (.int .i64 ky) ∧ W.cell? ⟨w.heap.size + 1 + 1 + 1, 1, none⟩ = some (.int .i64 st) ∧ W.cell? ⟨w.heap.size + 1 + 1 + 1, 2, none⟩ = some (.int .i64 en) ∧ W.cell? ⟨wr.heap.size, 0, none⟩ = some (.int .i64 x.ky) ∧ W.cell? ⟨wr.heap.size, 1, none⟩ = some (.int .i64 x.st) ∧ W.cell? ⟨wr.heap.size, 2, none⟩ = some (.int .i64 x.en) ∧ W.cell? ⟨wr.heap.size, 3, none⟩ = some (.int .i64 x.an) ∧ W.cell? ⟨wr.heap.size, 4, none⟩ = some (.int .i64 x.asu) ∧ W.cell? ⟨wr.heap.size, 5, none⟩ = some (.int .i64 x.ale) ∧ W.cell? ⟨wr.heap.size, 6, none⟩ = some (.int .i64 x.amo) ∧ W.cell? ⟨wr.heap.size, 7, none⟩ = some (.int .i64 x.fn) ∧ W.cell? ⟨wr.heap.size, 8, none⟩ = some (.int .i64 x.fsu) ∧ W.cell? ⟨wr.heap.size, 9, none⟩ = some (.int .i64 x.fle) ∧ W.cell? ⟨wr.heap.size, 10, none⟩ = some (.int .i64 x.fmo) ∧ W.cell? ⟨wr.heap.size, 11, none⟩ = some (.int .i64 x.td) ∧ W.cell? ⟨wr.heap.size, 12, none⟩ = some (.bool x.tm)) ∧ w.heap.size + 1 + 1 + 1 < W.heap.size ∧ wr.heap.size < W.heap.size)) ((first | ((repeat (first | (with_reducible assumption) | (with_reducible refine hd_3_13 ?_ (by with_reducible assumption)) | (with_reducible refine hd_3_13 ?_ (bel_drew (Below.refl _ _))) | (with_reducible exact hd_3_13_re (by with_reducible assumption) (by first | omega | (simp; done) | (simp; omega)) (by first | omega | (simp; done) | (simp; omega))) | (with_reducible refine hd_3_13 ?_ (bel_one _ _)) | (with_reducible refine hd_3_13_set ?_ (by first | omega | (simp; done) | (simp; omega)) (by first | omega | (simp; done) | (simp; omega)) _))); done) | (refine ⟨⟨?_, ?_, ?_, ?_, ?_, ?_, ?_, ?_, ?_, ?_, ?_, ?_, ?_, ?_, ?_, ?_⟩, ?_, ?_⟩ <;> first | (go_keep; done) | (simp; done) | (simp; omega) | omega)))
            (first
            | (go_at_call 35; refine (opplace_any _ _ _ _ _ _ _ _ _ _ _ _ _ _).mono ?_; rintro e w' ⟨rfl, hb⟩; obtain ⟨hc, hf, hs⟩ := bcell hb))
          all_goals
            go_wp2
            go_roundw
            case rel => exact ⟨k + 1, by omega, by go_num, hN', (by repeat (first | (with_reducible refine bel_set ?_ (by first | (simp; done) | (simp; omega)) _) | (with_reducible refine bel_alloc ?_ _) | (with_reducible exact Below.refl _ _) | (with_reducible assumption) | (with_reducible refine bel_drew ?_) | (with_reducible refine bel_drewN ?_ _) | (with_reducible refine bel_trans ?_ (by with_reducible assumption))))⟩
            case measure => simp [intOf]; omega
      · have hB := isO_1 (st := st) (en := en) k1
        have k1' : (x.ky == ky) = false := by simpa using k1
        have hN' := hide (findO_no (unhide hX) (unhide hN) hB)
        clear hB
        go_wp2
        go_region_held3 (fun W => ((W.cell? ⟨w.heap.size + 1 + 1 + 1, 0, none⟩ = some (.int .i64 ky) ∧ W.cell? ⟨w.heap.size + 1 + 1 + 1, 1, none⟩ = some (.int .i64 st) ∧ W.cell? ⟨w.heap.size + 1 + 1 + 1, 2, none⟩ = some (.int .i64 en) ∧ W.cell? ⟨wr.heap.size, 0, none⟩ = some (.int .i64 x.ky) ∧ W.cell? ⟨wr.heap.size, 1, none⟩ = some (.int .i64 x.st) ∧ W.cell? ⟨wr.heap.size, 2, none⟩ = some (.int .i64 x.en) ∧ W.cell? ⟨wr.heap.size, 3, none⟩ = some (.int .i64 x.an) ∧ W.cell? ⟨wr.heap.size, 4, none⟩ = some (.int .i64 x.asu) ∧ W.cell? ⟨wr.heap.size, 5, none⟩ = some (.int .i64 x.ale) ∧ W.cell? ⟨wr.heap.size, 6, none⟩ = some (.int .i64 x.amo) ∧ W.cell? ⟨wr.heap.size, 7, none⟩ = some (.int .i64 x.fn) ∧ W.cell? ⟨wr.heap.size, 8, none⟩ = some (.int .i64 x.fsu) ∧ W.cell? ⟨wr.heap.size, 9, none⟩ = some (.int .i64 x.fle) ∧ W.cell? ⟨wr.heap.size, 10, none⟩ = some (.int .i64 x.fmo) ∧ W.cell? ⟨wr.heap.size, 11, none⟩ = some (.int .i64 x.td) ∧ W.cell? ⟨wr.heap.size, 12, none⟩ = some (.bool x.tm)) ∧ w.heap.size + 1 + 1 + 1 < W.heap.size ∧ wr.heap.size < W.heap.size)) ((first | ((repeat (first | (with_reducible assumption) | (with_reducible refine hd_3_13 ?_ (by with_reducible assumption)) | (with_reducible refine hd_3_13 ?_ (bel_drew (Below.refl _ _))) | (with_reducible exact hd_3_13_re (by with_reducible assumption) (by first | omega | (simp; done) | (simp; omega)) (by first | omega | (simp; done) | (simp; omega))) | (with_reducible refine hd_3_13 ?_ (bel_one _ _)) | (with_reducible refine hd_3_13_set ?_ (by first | omega | (simp; done) | (simp; omega)) (by first | omega | (simp; done) | (simp; omega)) _))); done) | (refine ⟨⟨?_, ?_, ?_, ?_, ?_, ?_, ?_, ?_, ?_, ?_, ?_, ?_, ?_, ?_, ?_, ?_⟩, ?_, ?_⟩ <;> first | (go_keep; done) | (simp; done) | (simp; omega) | omega)))
          (first
          | (go_at_call 35; refine (opplace_any _ _ _ _ _ _ _ _ _ _ _ _ _ _).mono ?_; rintro e w' ⟨rfl, hb⟩; obtain ⟨hc, hf, hs⟩ := bcell hb))
        all_goals
          go_wp2
          go_roundw
          case rel => exact ⟨k + 1, by omega, by go_num, hN', (by repeat (first | (with_reducible refine bel_set ?_ (by first | (simp; done) | (simp; omega)) _) | (with_reducible refine bel_alloc ?_ _) | (with_reducible exact Below.refl _ _) | (with_reducible assumption) | (with_reducible refine bel_drew ?_) | (with_reducible refine bel_drewN ?_ _) | (with_reducible refine bel_trans ?_ (by with_reducible assumption))))⟩
          case measure => simp [intOf]; omega

    · have hV : Hid (foundO (findO ky st en xs) = .tuple #[.agg #[.int .i64 0, .int .i64 0, .int .i64 0, .int .i64 0, .int .i64 0, .int .i64 0, .int .i64 0, .int .i64 0, .int .i64 0, .int .i64 0, .int .i64 0, .int .i64 0, .bool false], .bool false]) := hide (by have e := unhide hN; rw [List.take_of_length_le (by have := h.1; omega)] at e; rw [e]; rfl)
      go_wp2
      show bodyPost _ _ _ _ _ _
      refine bodyPost_ret (v := .tuple #[.agg #[.int .i64 0, .int .i64 0, .int .i64 0, .int .i64 0, .int .i64 0, .int .i64 0, .int .i64 0, .int .i64 0, .int .i64 0, .int .i64 0, .int .i64 0, .int .i64 0, .bool false], .bool false]) (by simp (maxDischargeDepth := 9) [results, Try.results14, go_sem, *]) rfl ⟨ret_vO (unhide hV).symm, ?_⟩
      exact (by repeat (first | (with_reducible refine bel_set ?_ (by first | (simp; done) | (simp; omega)) _) | (with_reducible refine bel_alloc ?_ _) | (with_reducible exact Below.refl _ _) | (with_reducible assumption) | (with_reducible refine bel_drew ?_) | (with_reducible refine bel_drewN ?_ _) | (with_reducible refine bel_trans ?_ (by with_reducible assumption))))

end Go.Proofs.Ytklpdegipkjmdaa
