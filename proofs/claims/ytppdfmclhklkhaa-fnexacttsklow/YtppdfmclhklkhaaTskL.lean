/- Proved here: the laws on TskLow and TskHeld return true at every argument. -/
import Derived.Test.YtppdfmclhklkhaaTskLo
import Derived.Test.YtppdfmclhklkhaaHd77
namespace Go.Proofs.Ytppdfmclhklkhaa
open Go.ChangeShapes Go.WideShapes Go.ChangeAt Go.RowKit
set_option linter.unusedVariables false

set_option maxRecDepth 20000 in
set_option maxHeartbeats 4000000 in
theorem lawTskLow (ia : Option Addr) (il ic : Nat) (om : Int) (oa : Option Addr) (ol oc : Nat) (wl pn : Int) (pa : Option Addr) (pl pc : Nat) (la : Option Addr) (ll lc : Nat) (d : TkD) (w : World) (h : TkIs w 0 ia il oa ol pa pl la ll d) : Calls Try.prog 4 #[.agg #[.slice ia il ic, .int .i64 om, .slice oa ol oc, .int .i64 wl, .int .i64 pn, .slice pa pl pc, .slice la ll lc]] w fun e w' => e = .returned (.bool true) ∧ Below w.heap.size w w' := by
  have hbb : Below w.heap.size w (w.alloc (.cells #[.slice ia il ic, .int .i64 om, .slice oa ol oc, .int .i64 wl, .int .i64 pn, .slice pa pl pc, .slice la ll lc] 57)) := bel_one _ _
  have h0 := h.below hbb
  go_enter Try.func4, Try.ntmps4
  go_wp2_with fail
  refine (szTk_any ia il ic om oa ol oc wl pn pa pl pc la ll lc d _ h0).mono ?_
  rintro e w1 ⟨⟨r, rfl, hr⟩, hb1⟩
  have z1 : w.heap.size < w1.heap.size := by have h9 := hb1.size; simp at h9; omega
  have a0 : w1.cell? ⟨w.heap.size, 0, none⟩ = some (.slice ia il ic) := (hb1.cell (p := ⟨w.heap.size, 0, none⟩) (by simp)).trans (by simp [go_sem])
  have a1 : w1.cell? ⟨w.heap.size, 1, none⟩ = some (.int .i64 om) := (hb1.cell (p := ⟨w.heap.size, 1, none⟩) (by simp)).trans (by simp [go_sem])
  have a2 : w1.cell? ⟨w.heap.size, 2, none⟩ = some (.slice oa ol oc) := (hb1.cell (p := ⟨w.heap.size, 2, none⟩) (by simp)).trans (by simp [go_sem])
  have a3 : w1.cell? ⟨w.heap.size, 3, none⟩ = some (.int .i64 wl) := (hb1.cell (p := ⟨w.heap.size, 3, none⟩) (by simp)).trans (by simp [go_sem])
  have a4 : w1.cell? ⟨w.heap.size, 4, none⟩ = some (.int .i64 pn) := (hb1.cell (p := ⟨w.heap.size, 4, none⟩) (by simp)).trans (by simp [go_sem])
  have a5 : w1.cell? ⟨w.heap.size, 5, none⟩ = some (.slice pa pl pc) := (hb1.cell (p := ⟨w.heap.size, 5, none⟩) (by simp)).trans (by simp [go_sem])
  have a6 : w1.cell? ⟨w.heap.size, 6, none⟩ = some (.slice la ll lc) := (hb1.cell (p := ⟨w.heap.size, 6, none⟩) (by simp)).trans (by simp [go_sem])
  have h1 := h0.below hb1
  rcases hr with rfl | ⟨hr0, hr1, hok⟩
  · go_wp2
    go_ret
    exact ⟨rfl, (by repeat (first | (with_reducible exact Below.refl _ _) | (with_reducible assumption) | (with_reducible refine bel_set ?_ (by first | (simp; done) | (simp; omega)) _) | (with_reducible refine bel_alloc ?_ _) | (with_reducible refine bel_drew ?_) | (with_reducible refine bel_drewN ?_ _) | (with_reducible refine bel_trans ?_ (by with_reducible assumption))))⟩
  · have hneg : ¬ r < 0 := by omega
    go_wp2_with fail
    refine (toTk_any ia il ic om oa ol oc wl pn pa pl pc la ll lc d _ h1 hok).mono ?_
    rintro e w2 ⟨ia1, oa1, pa1, la1, rfl, H1, hb2⟩
    obtain ⟨hc2, hf2, hs2⟩ := bcell hb2
    have z2 : w.heap.size < w2.heap.size := hs2 _ z1
    have b0 : w2.cell? ⟨w.heap.size, 0, none⟩ = some (.slice ia il ic) := (hc2 _ _ z1).trans a0
    have b1 : w2.cell? ⟨w.heap.size, 1, none⟩ = some (.int .i64 om) := (hc2 _ _ z1).trans a1
    have b2 : w2.cell? ⟨w.heap.size, 2, none⟩ = some (.slice oa ol oc) := (hc2 _ _ z1).trans a2
    have b3 : w2.cell? ⟨w.heap.size, 3, none⟩ = some (.int .i64 wl) := (hc2 _ _ z1).trans a3
    have b4 : w2.cell? ⟨w.heap.size, 4, none⟩ = some (.int .i64 pn) := (hc2 _ _ z1).trans a4
    have b5 : w2.cell? ⟨w.heap.size, 5, none⟩ = some (.slice pa pl pc) := (hc2 _ _ z1).trans a5
    have b6 : w2.cell? ⟨w.heap.size, 6, none⟩ = some (.slice la ll lc) := (hc2 _ _ z1).trans a6
    clear hc2 hf2 hs2 a0 a1 a2 a3 a4 a5 a6
    go_wp2_with fail
    refine (speclow_any ia1 il il om oa1 ol ol wl pn pa1 pl pl la1 ll ll _ d.ins _ H1.ins).mono ?_
    rintro e w3 ⟨rfl, hb3⟩
    obtain ⟨hc3, hf3, hs3⟩ := bcell hb3
    have z3 : w.heap.size < w3.heap.size := hs3 _ z2
    have c0 : w3.cell? ⟨w.heap.size, 0, none⟩ = some (.slice ia il ic) := (hc3 _ _ z2).trans b0
    have c1 : w3.cell? ⟨w.heap.size, 1, none⟩ = some (.int .i64 om) := (hc3 _ _ z2).trans b1
    have c2 : w3.cell? ⟨w.heap.size, 2, none⟩ = some (.slice oa ol oc) := (hc3 _ _ z2).trans b2
    have c3 : w3.cell? ⟨w.heap.size, 3, none⟩ = some (.int .i64 wl) := (hc3 _ _ z2).trans b3
    have c4 : w3.cell? ⟨w.heap.size, 4, none⟩ = some (.int .i64 pn) := (hc3 _ _ z2).trans b4
    have c5 : w3.cell? ⟨w.heap.size, 5, none⟩ = some (.slice pa pl pc) := (hc3 _ _ z2).trans b5
    have c6 : w3.cell? ⟨w.heap.size, 6, none⟩ = some (.slice la ll lc) := (hc3 _ _ z2).trans b6
    clear hc3 hf3 hs3 b0 b1 b2 b3 b4 b5 b6
    have h3 := (h1.below hb2).below hb3
    go_wp2_with fail
    refine (toTk_any ia il ic om oa ol oc wl pn pa pl pc la ll lc d _ h3 hok).mono ?_
    rintro e w4 ⟨ia2, oa2, pa2, la2, rfl, H2, hb4⟩
    obtain ⟨hc4, hf4, hs4⟩ := bcell hb4
    have z4 : w.heap.size < w4.heap.size := hs4 _ z3
    have d0 : w4.cell? ⟨w.heap.size, 0, none⟩ = some (.slice ia il ic) := (hc4 _ _ z3).trans c0
    have d1 : w4.cell? ⟨w.heap.size, 1, none⟩ = some (.int .i64 om) := (hc4 _ _ z3).trans c1
    have d2 : w4.cell? ⟨w.heap.size, 2, none⟩ = some (.slice oa ol oc) := (hc4 _ _ z3).trans c2
    have d3 : w4.cell? ⟨w.heap.size, 3, none⟩ = some (.int .i64 wl) := (hc4 _ _ z3).trans c3
    have d4 : w4.cell? ⟨w.heap.size, 4, none⟩ = some (.int .i64 pn) := (hc4 _ _ z3).trans c4
    have d5 : w4.cell? ⟨w.heap.size, 5, none⟩ = some (.slice pa pl pc) := (hc4 _ _ z3).trans c5
    have d6 : w4.cell? ⟨w.heap.size, 6, none⟩ = some (.slice la ll lc) := (hc4 _ _ z3).trans c6
    clear hc4 hf4 hs4 c0 c1 c2 c3 c4 c5 c6
    have h4 := h3.below hb4
    have hbX : Below w4.heap.size w4 (w4.alloc (.cells #[.slice ia2 il il, .int .i64 om, .slice oa2 ol ol, .int .i64 wl, .int .i64 pn, .slice pa2 pl pl, .slice la2 ll ll] 38)) := bel_one _ _
    go_wp2_with fail
    refine (impllow_any ia2 il il om oa2 ol ol wl pn pa2 pl pl la2 ll ll _ d.ins _ (H2.ins.below hbX)).mono ?_
    rintro e w5 ⟨rfl, hb5⟩
    have z5 : w4.heap.size < w5.heap.size := by have h9 := hb5.size; simp at h9; omega
    have z6 : w.heap.size < w5.heap.size := by omega
    have e0 : w5.cell? ⟨w.heap.size, 0, none⟩ = some (.slice ia il ic) := (hb5.cell (p := ⟨w.heap.size, 0, none⟩) (by simp <;> omega)).trans ((hbX.cell (p := ⟨w.heap.size, 0, none⟩) z4).trans d0)
    have e1 : w5.cell? ⟨w.heap.size, 1, none⟩ = some (.int .i64 om) := (hb5.cell (p := ⟨w.heap.size, 1, none⟩) (by simp <;> omega)).trans ((hbX.cell (p := ⟨w.heap.size, 1, none⟩) z4).trans d1)
    have e2 : w5.cell? ⟨w.heap.size, 2, none⟩ = some (.slice oa ol oc) := (hb5.cell (p := ⟨w.heap.size, 2, none⟩) (by simp <;> omega)).trans ((hbX.cell (p := ⟨w.heap.size, 2, none⟩) z4).trans d2)
    have e3 : w5.cell? ⟨w.heap.size, 3, none⟩ = some (.int .i64 wl) := (hb5.cell (p := ⟨w.heap.size, 3, none⟩) (by simp <;> omega)).trans ((hbX.cell (p := ⟨w.heap.size, 3, none⟩) z4).trans d3)
    have e4 : w5.cell? ⟨w.heap.size, 4, none⟩ = some (.int .i64 pn) := (hb5.cell (p := ⟨w.heap.size, 4, none⟩) (by simp <;> omega)).trans ((hbX.cell (p := ⟨w.heap.size, 4, none⟩) z4).trans d4)
    have e5 : w5.cell? ⟨w.heap.size, 5, none⟩ = some (.slice pa pl pc) := (hb5.cell (p := ⟨w.heap.size, 5, none⟩) (by simp <;> omega)).trans ((hbX.cell (p := ⟨w.heap.size, 5, none⟩) z4).trans d5)
    have e6 : w5.cell? ⟨w.heap.size, 6, none⟩ = some (.slice la ll lc) := (hb5.cell (p := ⟨w.heap.size, 6, none⟩) (by simp <;> omega)).trans ((hbX.cell (p := ⟨w.heap.size, 6, none⟩) z4).trans d6)
    have f0 : w5.cell? ⟨w4.heap.size, 0, none⟩ = some (.slice ia2 il il) := (hb5.cell (p := ⟨w4.heap.size, 0, none⟩) (by simp)).trans (by simp [go_sem])
    have f1 : w5.cell? ⟨w4.heap.size, 1, none⟩ = some (.int .i64 om) := (hb5.cell (p := ⟨w4.heap.size, 1, none⟩) (by simp)).trans (by simp [go_sem])
    have f2 : w5.cell? ⟨w4.heap.size, 2, none⟩ = some (.slice oa2 ol ol) := (hb5.cell (p := ⟨w4.heap.size, 2, none⟩) (by simp)).trans (by simp [go_sem])
    have f3 : w5.cell? ⟨w4.heap.size, 3, none⟩ = some (.int .i64 wl) := (hb5.cell (p := ⟨w4.heap.size, 3, none⟩) (by simp)).trans (by simp [go_sem])
    have f4 : w5.cell? ⟨w4.heap.size, 4, none⟩ = some (.int .i64 pn) := (hb5.cell (p := ⟨w4.heap.size, 4, none⟩) (by simp)).trans (by simp [go_sem])
    have f5 : w5.cell? ⟨w4.heap.size, 5, none⟩ = some (.slice pa2 pl pl) := (hb5.cell (p := ⟨w4.heap.size, 5, none⟩) (by simp)).trans (by simp [go_sem])
    have f6 : w5.cell? ⟨w4.heap.size, 6, none⟩ = some (.slice la2 ll ll) := (hb5.cell (p := ⟨w4.heap.size, 6, none⟩) (by simp)).trans (by simp [go_sem])
    clear d0 d1 d2 d3 d4 d5 d6
    have h5 := (h4.below hbX).below hb5
    have H5 := (H2.below hbX).below hb5
    have hbF : Below w.heap.size w w5 := bel_trans hbb (bel_trans hb1 (bel_trans hb2 (bel_trans hb3 (bel_trans hb4 (bel_trans hbX hb5)))))
    clear hb1 hb2 hb3 hb4 hb5 hbX h1 h3 h4 H1 H2 h0 h hbb
    go_wp2_with fail
    go_region_held3 (fun W => ((W.cell? ⟨w.heap.size, 0, none⟩ = some (.slice ia il ic) ∧ W.cell? ⟨w.heap.size, 1, none⟩ = some (.int .i64 om) ∧ W.cell? ⟨w.heap.size, 2, none⟩ = some (.slice oa ol oc) ∧ W.cell? ⟨w.heap.size, 3, none⟩ = some (.int .i64 wl) ∧ W.cell? ⟨w.heap.size, 4, none⟩ = some (.int .i64 pn) ∧ W.cell? ⟨w.heap.size, 5, none⟩ = some (.slice pa pl pc) ∧ W.cell? ⟨w.heap.size, 6, none⟩ = some (.slice la ll lc) ∧ W.cell? ⟨w4.heap.size, 0, none⟩ = some (.slice ia2 il il) ∧ W.cell? ⟨w4.heap.size, 1, none⟩ = some (.int .i64 om) ∧ W.cell? ⟨w4.heap.size, 2, none⟩ = some (.slice oa2 ol ol) ∧ W.cell? ⟨w4.heap.size, 3, none⟩ = some (.int .i64 wl) ∧ W.cell? ⟨w4.heap.size, 4, none⟩ = some (.int .i64 pn) ∧ W.cell? ⟨w4.heap.size, 5, none⟩ = some (.slice pa2 pl pl) ∧ W.cell? ⟨w4.heap.size, 6, none⟩ = some (.slice la2 ll ll)) ∧ w.heap.size < W.heap.size ∧ w4.heap.size < W.heap.size)) ((first | ((repeat (first | (with_reducible assumption) | (with_reducible refine hd_7_7 ?_ (by with_reducible assumption)) | (with_reducible refine hd_7_7 ?_ (bel_drew (Below.refl _ _))) | (with_reducible exact hd_7_7_re (by with_reducible assumption) (by first | omega | (simp; done) | (simp; omega)) (by first | omega | (simp; done) | (simp; omega))) | (with_reducible refine hd_7_7 ?_ (bel_one _ _)) | (with_reducible refine hd_7_7_set ?_ (by first | omega | (simp; done) | (simp; omega)) (by first | omega | (simp; done) | (simp; omega)) _))); done) | (refine ⟨⟨?_, ?_, ?_, ?_, ?_, ?_, ?_, ?_, ?_, ?_, ?_, ?_, ?_, ?_⟩, ?_, ?_⟩ <;> first | (go_keep; done) | (simp; done) | (simp; omega) | omega)))
      (first
      | (go_at_call 22; refine (toTk_any ia il ic om oa ol oc wl pn pa pl pc la ll lc d _ (h5.below (by repeat (first | (with_reducible exact Below.refl _ _) | (with_reducible assumption) | (with_reducible refine bel_set ?_ (by first | (simp; done) | (simp; omega)) _) | (with_reducible refine bel_alloc ?_ _) | (with_reducible refine bel_drew ?_) | (with_reducible refine bel_drewN ?_ _) | (with_reducible refine bel_trans ?_ (by with_reducible assumption))))) hok).mono ?_; rintro e w6 ⟨ia3, oa3, pa3, la3, rfl, H3, hb6⟩; obtain ⟨hc6, hf6, hs6⟩ := bcell hb6)
      | (go_at_call 13; refine (eqTk_any _ _ ia2 ia3 il il il om oa2 oa3 ol ol ol wl pn pa2 pa3 pl pl pl la2 la3 ll ll ll d _ (H5.below (by repeat (first | (with_reducible exact Below.refl _ _) | (with_reducible assumption) | (with_reducible refine bel_set ?_ (by first | (simp; done) | (simp; omega)) _) | (with_reducible refine bel_alloc ?_ _) | (with_reducible refine bel_drew ?_) | (with_reducible refine bel_drewN ?_ _) | (with_reducible refine bel_trans ?_ (by with_reducible assumption))))) (H3.below (by repeat (first | (with_reducible exact Below.refl _ _) | (with_reducible assumption) | (with_reducible refine bel_set ?_ (by first | (simp; done) | (simp; omega)) _) | (with_reducible refine bel_alloc ?_ _) | (with_reducible refine bel_drew ?_) | (with_reducible refine bel_drewN ?_ _) | (with_reducible refine bel_trans ?_ (by with_reducible assumption)))))).mono ?_; rintro e w7 ⟨rfl, hb7⟩))
    go_wp2
    go_ret
    exact ⟨rfl, (by repeat (first | (with_reducible exact Below.refl _ _) | (with_reducible assumption) | (with_reducible refine bel_set ?_ (by first | (simp; done) | (simp; omega)) _) | (with_reducible refine bel_alloc ?_ _) | (with_reducible refine bel_drew ?_) | (with_reducible refine bel_drewN ?_ _) | (with_reducible refine bel_trans ?_ (by with_reducible assumption))))⟩

set_option maxRecDepth 20000 in
set_option maxHeartbeats 4000000 in
theorem lawTskHeld (ia : Option Addr) (il ic : Nat) (om : Int) (oa : Option Addr) (ol oc : Nat) (wl pn : Int) (pa : Option Addr) (pl pc : Nat) (la : Option Addr) (ll lc : Nat) (d : TkD) (w : World) (h : TkIs w 0 ia il oa ol pa pl la ll d) : Calls Try.prog 5 #[.agg #[.slice ia il ic, .int .i64 om, .slice oa ol oc, .int .i64 wl, .int .i64 pn, .slice pa pl pc, .slice la ll lc]] w fun e w' => e = .returned (.bool true) ∧ Below w.heap.size w w' := by
  have hbb : Below w.heap.size w (w.alloc (.cells #[.slice ia il ic, .int .i64 om, .slice oa ol oc, .int .i64 wl, .int .i64 pn, .slice pa pl pc, .slice la ll lc] 57)) := bel_one _ _
  have h0 := h.below hbb
  go_enter Try.func5, Try.ntmps5
  go_wp2_with fail
  refine (szTk_any ia il ic om oa ol oc wl pn pa pl pc la ll lc d _ h0).mono ?_
  rintro e w1 ⟨⟨r, rfl, hr⟩, hb1⟩
  have z1 : w.heap.size < w1.heap.size := by have h9 := hb1.size; simp at h9; omega
  have a0 : w1.cell? ⟨w.heap.size, 0, none⟩ = some (.slice ia il ic) := (hb1.cell (p := ⟨w.heap.size, 0, none⟩) (by simp)).trans (by simp [go_sem])
  have a1 : w1.cell? ⟨w.heap.size, 1, none⟩ = some (.int .i64 om) := (hb1.cell (p := ⟨w.heap.size, 1, none⟩) (by simp)).trans (by simp [go_sem])
  have a2 : w1.cell? ⟨w.heap.size, 2, none⟩ = some (.slice oa ol oc) := (hb1.cell (p := ⟨w.heap.size, 2, none⟩) (by simp)).trans (by simp [go_sem])
  have a3 : w1.cell? ⟨w.heap.size, 3, none⟩ = some (.int .i64 wl) := (hb1.cell (p := ⟨w.heap.size, 3, none⟩) (by simp)).trans (by simp [go_sem])
  have a4 : w1.cell? ⟨w.heap.size, 4, none⟩ = some (.int .i64 pn) := (hb1.cell (p := ⟨w.heap.size, 4, none⟩) (by simp)).trans (by simp [go_sem])
  have a5 : w1.cell? ⟨w.heap.size, 5, none⟩ = some (.slice pa pl pc) := (hb1.cell (p := ⟨w.heap.size, 5, none⟩) (by simp)).trans (by simp [go_sem])
  have a6 : w1.cell? ⟨w.heap.size, 6, none⟩ = some (.slice la ll lc) := (hb1.cell (p := ⟨w.heap.size, 6, none⟩) (by simp)).trans (by simp [go_sem])
  have h1 := h0.below hb1
  rcases hr with rfl | ⟨hr0, hr1, hok⟩
  · go_wp2
    go_ret
    exact ⟨rfl, (by repeat (first | (with_reducible exact Below.refl _ _) | (with_reducible assumption) | (with_reducible refine bel_set ?_ (by first | (simp; done) | (simp; omega)) _) | (with_reducible refine bel_alloc ?_ _) | (with_reducible refine bel_drew ?_) | (with_reducible refine bel_drewN ?_ _) | (with_reducible refine bel_trans ?_ (by with_reducible assumption))))⟩
  · have hneg : ¬ r < 0 := by omega
    go_wp2_with fail
    refine (toTk_any ia il ic om oa ol oc wl pn pa pl pc la ll lc d _ h1 hok).mono ?_
    rintro e w2 ⟨ia1, oa1, pa1, la1, rfl, H1, hb2⟩
    obtain ⟨hc2, hf2, hs2⟩ := bcell hb2
    have z2 : w.heap.size < w2.heap.size := hs2 _ z1
    have b0 : w2.cell? ⟨w.heap.size, 0, none⟩ = some (.slice ia il ic) := (hc2 _ _ z1).trans a0
    have b1 : w2.cell? ⟨w.heap.size, 1, none⟩ = some (.int .i64 om) := (hc2 _ _ z1).trans a1
    have b2 : w2.cell? ⟨w.heap.size, 2, none⟩ = some (.slice oa ol oc) := (hc2 _ _ z1).trans a2
    have b3 : w2.cell? ⟨w.heap.size, 3, none⟩ = some (.int .i64 wl) := (hc2 _ _ z1).trans a3
    have b4 : w2.cell? ⟨w.heap.size, 4, none⟩ = some (.int .i64 pn) := (hc2 _ _ z1).trans a4
    have b5 : w2.cell? ⟨w.heap.size, 5, none⟩ = some (.slice pa pl pc) := (hc2 _ _ z1).trans a5
    have b6 : w2.cell? ⟨w.heap.size, 6, none⟩ = some (.slice la ll lc) := (hc2 _ _ z1).trans a6
    clear hc2 hf2 hs2 a0 a1 a2 a3 a4 a5 a6
    go_wp2_with fail
    refine (specheldn_any ia1 il il om oa1 ol ol wl pn pa1 pl pl la1 ll ll _ d.ins _ H1.ins).mono ?_
    rintro e w3 ⟨rfl, hb3⟩
    obtain ⟨hc3, hf3, hs3⟩ := bcell hb3
    have z3 : w.heap.size < w3.heap.size := hs3 _ z2
    have c0 : w3.cell? ⟨w.heap.size, 0, none⟩ = some (.slice ia il ic) := (hc3 _ _ z2).trans b0
    have c1 : w3.cell? ⟨w.heap.size, 1, none⟩ = some (.int .i64 om) := (hc3 _ _ z2).trans b1
    have c2 : w3.cell? ⟨w.heap.size, 2, none⟩ = some (.slice oa ol oc) := (hc3 _ _ z2).trans b2
    have c3 : w3.cell? ⟨w.heap.size, 3, none⟩ = some (.int .i64 wl) := (hc3 _ _ z2).trans b3
    have c4 : w3.cell? ⟨w.heap.size, 4, none⟩ = some (.int .i64 pn) := (hc3 _ _ z2).trans b4
    have c5 : w3.cell? ⟨w.heap.size, 5, none⟩ = some (.slice pa pl pc) := (hc3 _ _ z2).trans b5
    have c6 : w3.cell? ⟨w.heap.size, 6, none⟩ = some (.slice la ll lc) := (hc3 _ _ z2).trans b6
    clear hc3 hf3 hs3 b0 b1 b2 b3 b4 b5 b6
    have h3 := (h1.below hb2).below hb3
    go_wp2_with fail
    refine (toTk_any ia il ic om oa ol oc wl pn pa pl pc la ll lc d _ h3 hok).mono ?_
    rintro e w4 ⟨ia2, oa2, pa2, la2, rfl, H2, hb4⟩
    obtain ⟨hc4, hf4, hs4⟩ := bcell hb4
    have z4 : w.heap.size < w4.heap.size := hs4 _ z3
    have d0 : w4.cell? ⟨w.heap.size, 0, none⟩ = some (.slice ia il ic) := (hc4 _ _ z3).trans c0
    have d1 : w4.cell? ⟨w.heap.size, 1, none⟩ = some (.int .i64 om) := (hc4 _ _ z3).trans c1
    have d2 : w4.cell? ⟨w.heap.size, 2, none⟩ = some (.slice oa ol oc) := (hc4 _ _ z3).trans c2
    have d3 : w4.cell? ⟨w.heap.size, 3, none⟩ = some (.int .i64 wl) := (hc4 _ _ z3).trans c3
    have d4 : w4.cell? ⟨w.heap.size, 4, none⟩ = some (.int .i64 pn) := (hc4 _ _ z3).trans c4
    have d5 : w4.cell? ⟨w.heap.size, 5, none⟩ = some (.slice pa pl pc) := (hc4 _ _ z3).trans c5
    have d6 : w4.cell? ⟨w.heap.size, 6, none⟩ = some (.slice la ll lc) := (hc4 _ _ z3).trans c6
    clear hc4 hf4 hs4 c0 c1 c2 c3 c4 c5 c6
    have h4 := h3.below hb4
    have hbX : Below w4.heap.size w4 (w4.alloc (.cells #[.slice ia2 il il, .int .i64 om, .slice oa2 ol ol, .int .i64 wl, .int .i64 pn, .slice pa2 pl pl, .slice la2 ll ll] 38)) := bel_one _ _
    go_wp2_with fail
    refine (implheldn_any ia2 il il om oa2 ol ol wl pn pa2 pl pl la2 ll ll _ d.ins _ (H2.ins.below hbX)).mono ?_
    rintro e w5 ⟨rfl, hb5⟩
    have z5 : w4.heap.size < w5.heap.size := by have h9 := hb5.size; simp at h9; omega
    have z6 : w.heap.size < w5.heap.size := by omega
    have e0 : w5.cell? ⟨w.heap.size, 0, none⟩ = some (.slice ia il ic) := (hb5.cell (p := ⟨w.heap.size, 0, none⟩) (by simp <;> omega)).trans ((hbX.cell (p := ⟨w.heap.size, 0, none⟩) z4).trans d0)
    have e1 : w5.cell? ⟨w.heap.size, 1, none⟩ = some (.int .i64 om) := (hb5.cell (p := ⟨w.heap.size, 1, none⟩) (by simp <;> omega)).trans ((hbX.cell (p := ⟨w.heap.size, 1, none⟩) z4).trans d1)
    have e2 : w5.cell? ⟨w.heap.size, 2, none⟩ = some (.slice oa ol oc) := (hb5.cell (p := ⟨w.heap.size, 2, none⟩) (by simp <;> omega)).trans ((hbX.cell (p := ⟨w.heap.size, 2, none⟩) z4).trans d2)
    have e3 : w5.cell? ⟨w.heap.size, 3, none⟩ = some (.int .i64 wl) := (hb5.cell (p := ⟨w.heap.size, 3, none⟩) (by simp <;> omega)).trans ((hbX.cell (p := ⟨w.heap.size, 3, none⟩) z4).trans d3)
    have e4 : w5.cell? ⟨w.heap.size, 4, none⟩ = some (.int .i64 pn) := (hb5.cell (p := ⟨w.heap.size, 4, none⟩) (by simp <;> omega)).trans ((hbX.cell (p := ⟨w.heap.size, 4, none⟩) z4).trans d4)
    have e5 : w5.cell? ⟨w.heap.size, 5, none⟩ = some (.slice pa pl pc) := (hb5.cell (p := ⟨w.heap.size, 5, none⟩) (by simp <;> omega)).trans ((hbX.cell (p := ⟨w.heap.size, 5, none⟩) z4).trans d5)
    have e6 : w5.cell? ⟨w.heap.size, 6, none⟩ = some (.slice la ll lc) := (hb5.cell (p := ⟨w.heap.size, 6, none⟩) (by simp <;> omega)).trans ((hbX.cell (p := ⟨w.heap.size, 6, none⟩) z4).trans d6)
    have f0 : w5.cell? ⟨w4.heap.size, 0, none⟩ = some (.slice ia2 il il) := (hb5.cell (p := ⟨w4.heap.size, 0, none⟩) (by simp)).trans (by simp [go_sem])
    have f1 : w5.cell? ⟨w4.heap.size, 1, none⟩ = some (.int .i64 om) := (hb5.cell (p := ⟨w4.heap.size, 1, none⟩) (by simp)).trans (by simp [go_sem])
    have f2 : w5.cell? ⟨w4.heap.size, 2, none⟩ = some (.slice oa2 ol ol) := (hb5.cell (p := ⟨w4.heap.size, 2, none⟩) (by simp)).trans (by simp [go_sem])
    have f3 : w5.cell? ⟨w4.heap.size, 3, none⟩ = some (.int .i64 wl) := (hb5.cell (p := ⟨w4.heap.size, 3, none⟩) (by simp)).trans (by simp [go_sem])
    have f4 : w5.cell? ⟨w4.heap.size, 4, none⟩ = some (.int .i64 pn) := (hb5.cell (p := ⟨w4.heap.size, 4, none⟩) (by simp)).trans (by simp [go_sem])
    have f5 : w5.cell? ⟨w4.heap.size, 5, none⟩ = some (.slice pa2 pl pl) := (hb5.cell (p := ⟨w4.heap.size, 5, none⟩) (by simp)).trans (by simp [go_sem])
    have f6 : w5.cell? ⟨w4.heap.size, 6, none⟩ = some (.slice la2 ll ll) := (hb5.cell (p := ⟨w4.heap.size, 6, none⟩) (by simp)).trans (by simp [go_sem])
    clear d0 d1 d2 d3 d4 d5 d6
    have h5 := (h4.below hbX).below hb5
    have H5 := (H2.below hbX).below hb5
    have hbF : Below w.heap.size w w5 := bel_trans hbb (bel_trans hb1 (bel_trans hb2 (bel_trans hb3 (bel_trans hb4 (bel_trans hbX hb5)))))
    clear hb1 hb2 hb3 hb4 hb5 hbX h1 h3 h4 H1 H2 h0 h hbb
    go_wp2_with fail
    go_region_held3 (fun W => ((W.cell? ⟨w.heap.size, 0, none⟩ = some (.slice ia il ic) ∧ W.cell? ⟨w.heap.size, 1, none⟩ = some (.int .i64 om) ∧ W.cell? ⟨w.heap.size, 2, none⟩ = some (.slice oa ol oc) ∧ W.cell? ⟨w.heap.size, 3, none⟩ = some (.int .i64 wl) ∧ W.cell? ⟨w.heap.size, 4, none⟩ = some (.int .i64 pn) ∧ W.cell? ⟨w.heap.size, 5, none⟩ = some (.slice pa pl pc) ∧ W.cell? ⟨w.heap.size, 6, none⟩ = some (.slice la ll lc) ∧ W.cell? ⟨w4.heap.size, 0, none⟩ = some (.slice ia2 il il) ∧ W.cell? ⟨w4.heap.size, 1, none⟩ = some (.int .i64 om) ∧ W.cell? ⟨w4.heap.size, 2, none⟩ = some (.slice oa2 ol ol) ∧ W.cell? ⟨w4.heap.size, 3, none⟩ = some (.int .i64 wl) ∧ W.cell? ⟨w4.heap.size, 4, none⟩ = some (.int .i64 pn) ∧ W.cell? ⟨w4.heap.size, 5, none⟩ = some (.slice pa2 pl pl) ∧ W.cell? ⟨w4.heap.size, 6, none⟩ = some (.slice la2 ll ll)) ∧ w.heap.size < W.heap.size ∧ w4.heap.size < W.heap.size)) ((first | ((repeat (first | (with_reducible assumption) | (with_reducible refine hd_7_7 ?_ (by with_reducible assumption)) | (with_reducible refine hd_7_7 ?_ (bel_drew (Below.refl _ _))) | (with_reducible exact hd_7_7_re (by with_reducible assumption) (by first | omega | (simp; done) | (simp; omega)) (by first | omega | (simp; done) | (simp; omega))) | (with_reducible refine hd_7_7 ?_ (bel_one _ _)) | (with_reducible refine hd_7_7_set ?_ (by first | omega | (simp; done) | (simp; omega)) (by first | omega | (simp; done) | (simp; omega)) _))); done) | (refine ⟨⟨?_, ?_, ?_, ?_, ?_, ?_, ?_, ?_, ?_, ?_, ?_, ?_, ?_, ?_⟩, ?_, ?_⟩ <;> first | (go_keep; done) | (simp; done) | (simp; omega) | omega)))
      (first
      | (go_at_call 22; refine (toTk_any ia il ic om oa ol oc wl pn pa pl pc la ll lc d _ (h5.below (by repeat (first | (with_reducible exact Below.refl _ _) | (with_reducible assumption) | (with_reducible refine bel_set ?_ (by first | (simp; done) | (simp; omega)) _) | (with_reducible refine bel_alloc ?_ _) | (with_reducible refine bel_drew ?_) | (with_reducible refine bel_drewN ?_ _) | (with_reducible refine bel_trans ?_ (by with_reducible assumption))))) hok).mono ?_; rintro e w6 ⟨ia3, oa3, pa3, la3, rfl, H3, hb6⟩; obtain ⟨hc6, hf6, hs6⟩ := bcell hb6)
      | (go_at_call 13; refine (eqTk_any _ _ ia2 ia3 il il il om oa2 oa3 ol ol ol wl pn pa2 pa3 pl pl pl la2 la3 ll ll ll d _ (H5.below (by repeat (first | (with_reducible exact Below.refl _ _) | (with_reducible assumption) | (with_reducible refine bel_set ?_ (by first | (simp; done) | (simp; omega)) _) | (with_reducible refine bel_alloc ?_ _) | (with_reducible refine bel_drew ?_) | (with_reducible refine bel_drewN ?_ _) | (with_reducible refine bel_trans ?_ (by with_reducible assumption))))) (H3.below (by repeat (first | (with_reducible exact Below.refl _ _) | (with_reducible assumption) | (with_reducible refine bel_set ?_ (by first | (simp; done) | (simp; omega)) _) | (with_reducible refine bel_alloc ?_ _) | (with_reducible refine bel_drew ?_) | (with_reducible refine bel_drewN ?_ _) | (with_reducible refine bel_trans ?_ (by with_reducible assumption)))))).mono ?_; rintro e w7 ⟨rfl, hb7⟩))
    go_wp2
    go_ret
    exact ⟨rfl, (by repeat (first | (with_reducible exact Below.refl _ _) | (with_reducible assumption) | (with_reducible refine bel_set ?_ (by first | (simp; done) | (simp; omega)) _) | (with_reducible refine bel_alloc ?_ _) | (with_reducible refine bel_drew ?_) | (with_reducible refine bel_drewN ?_ _) | (with_reducible refine bel_trans ?_ (by with_reducible assumption))))⟩

end Go.Proofs.Ytppdfmclhklkhaa
