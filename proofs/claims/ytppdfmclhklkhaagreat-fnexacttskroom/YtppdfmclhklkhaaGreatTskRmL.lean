/- Proved here: the law on TskRoom returns true at every argument. -/
import Derived.Test.YtppdfmclhklkhaaGreatTskRm
import Derived.Test.YtppdfmclhklkhaaGreatHd77
namespace Go.Proofs.YtppdfmclhklkhaaGreat
open Go.ChangeShapes Go.WideShapes Go.ChangeAt Go.RowKit
set_option linter.unusedVariables false

theorem specroom_eq (s t k z p l e : Int) (b : Bool) (v r : Int) (ia : Option Addr) (il ic : Nat) (om : Int) (oa : Option Addr) (ol oc : Nat) (wl pn : Int) (pa : Option Addr) (pl pc : Nat) (la : Option Addr) (ll lc : Nat) (d : TkD) (ni : Int) (B : Nat) (w : World) {ob : Bool} (h : TkIs w B ia il oa ol pa pl la ll d) (hV : Hid (okRoom s t k z p l e v r om wl pn d ni = ob)) : Calls Tryz.prog 7 #[.agg #[.int .i64 s, .int .i64 t, .int .i64 k, .int .i64 z, .int .i64 p, .int .i64 l, .int .i64 e, .bool b, .int .i64 v, .int .i64 r], .agg #[.slice ia il ic, .int .i64 om, .slice oa ol oc, .int .i64 wl, .int .i64 pn, .slice pa pl pc, .slice la ll lc], .int .i64 ni] w fun e' w' => e' = .returned (.bool ob) ∧ Below w.heap.size w w' := by
  rw [← unhide hV]; exact specroom_any s t k z p l e b v r ia il ic om oa ol oc wl pn pa pl pc la ll lc d ni B w h
theorem implroom_eq (s t k z p l e : Int) (b : Bool) (v r : Int) (ia : Option Addr) (il ic : Nat) (om : Int) (oa : Option Addr) (ol oc : Nat) (wl pn : Int) (pa : Option Addr) (pl pc : Nat) (la : Option Addr) (ll lc : Nat) (d : TkD) (ni : Int) (B : Nat) (w : World) {ob : Bool} (h : TkIs w B ia il oa ol pa pl la ll d) (hV : Hid (okRoom s t k z p l e v r om wl pn d ni = ob)) : Calls Tryz.prog 10 #[.agg #[.int .i64 s, .int .i64 t, .int .i64 k, .int .i64 z, .int .i64 p, .int .i64 l, .int .i64 e, .bool b, .int .i64 v, .int .i64 r], .agg #[.slice ia il ic, .int .i64 om, .slice oa ol oc, .int .i64 wl, .int .i64 pn, .slice pa pl pc, .slice la ll lc], .int .i64 ni] w fun e' w' => e' = .returned (.bool ob) ∧ Below w.heap.size w w' := by
  rw [← unhide hV]; exact implroom_any s t k z p l e b v r ia il ic om oa ol oc wl pn pa pl pc la ll lc d ni B w h
set_option linter.unusedSimpArgs false in
set_option maxRecDepth 20000 in
set_option maxHeartbeats 4000000 in
theorem lawTskRoom (s t k z p l e : Int) (b : Bool) (v r : Int) (ia : Option Addr) (il ic : Nat) (om : Int) (oa : Option Addr) (ol oc : Nat) (wl pn : Int) (pa : Option Addr) (pl pc : Nat) (la : Option Addr) (ll lc : Nat) (d : TkD) (ni : Int) (w : World) (h : TkIs w 0 ia il oa ol pa pl la ll d) : Calls Tryz.prog 3 #[.agg #[.int .i64 s, .int .i64 t, .int .i64 k, .int .i64 z, .int .i64 p, .int .i64 l, .int .i64 e, .bool b, .int .i64 v, .int .i64 r], .agg #[.slice ia il ic, .int .i64 om, .slice oa ol oc, .int .i64 wl, .int .i64 pn, .slice pa pl pc, .slice la ll lc], .int .i64 ni] w fun e' w' => e' = .returned (.bool true) ∧ Below w.heap.size w w' := by
  have hbb : Below w.heap.size w ((w.alloc (.cells #[.int .i64 s, .int .i64 t, .int .i64 k, .int .i64 z, .int .i64 p, .int .i64 l, .int .i64 e, .bool b, .int .i64 v, .int .i64 r] 23)).alloc (.cells #[.slice ia il ic, .int .i64 om, .slice oa ol oc, .int .i64 wl, .int .i64 pn, .slice pa pl pc, .slice la ll lc] 33)) := bel_alloc (bel_one _ _) _
  have h0 := h.below hbb
  go_enter Tryz.func3, Tryz.ntmps3
  go_wp2_with fail
  refine (szTk_any ia il ic om oa ol oc wl pn pa pl pc la ll lc d _ h0).mono ?_
  rintro e' w1 ⟨⟨rr, rfl, hr⟩, hb1⟩
  have z1 : w.heap.size + 1 < w1.heap.size := by have h9 := hb1.size; simp at h9; omega
  have z0 : w.heap.size < w1.heap.size := by omega
  have aj0 : w1.cell? ⟨w.heap.size, 0, none⟩ = some (.int .i64 s) := (hb1.cell (p := ⟨w.heap.size, 0, none⟩) (by simp <;> omega)).trans (by simp [go_sem])
  have aj1 : w1.cell? ⟨w.heap.size, 1, none⟩ = some (.int .i64 t) := (hb1.cell (p := ⟨w.heap.size, 1, none⟩) (by simp <;> omega)).trans (by simp [go_sem])
  have aj2 : w1.cell? ⟨w.heap.size, 2, none⟩ = some (.int .i64 k) := (hb1.cell (p := ⟨w.heap.size, 2, none⟩) (by simp <;> omega)).trans (by simp [go_sem])
  have aj3 : w1.cell? ⟨w.heap.size, 3, none⟩ = some (.int .i64 z) := (hb1.cell (p := ⟨w.heap.size, 3, none⟩) (by simp <;> omega)).trans (by simp [go_sem])
  have aj4 : w1.cell? ⟨w.heap.size, 4, none⟩ = some (.int .i64 p) := (hb1.cell (p := ⟨w.heap.size, 4, none⟩) (by simp <;> omega)).trans (by simp [go_sem])
  have aj5 : w1.cell? ⟨w.heap.size, 5, none⟩ = some (.int .i64 l) := (hb1.cell (p := ⟨w.heap.size, 5, none⟩) (by simp <;> omega)).trans (by simp [go_sem])
  have aj6 : w1.cell? ⟨w.heap.size, 6, none⟩ = some (.int .i64 e) := (hb1.cell (p := ⟨w.heap.size, 6, none⟩) (by simp <;> omega)).trans (by simp [go_sem])
  have aj7 : w1.cell? ⟨w.heap.size, 7, none⟩ = some (.bool b) := (hb1.cell (p := ⟨w.heap.size, 7, none⟩) (by simp <;> omega)).trans (by simp [go_sem])
  have aj8 : w1.cell? ⟨w.heap.size, 8, none⟩ = some (.int .i64 v) := (hb1.cell (p := ⟨w.heap.size, 8, none⟩) (by simp <;> omega)).trans (by simp [go_sem])
  have aj9 : w1.cell? ⟨w.heap.size, 9, none⟩ = some (.int .i64 r) := (hb1.cell (p := ⟨w.heap.size, 9, none⟩) (by simp <;> omega)).trans (by simp [go_sem])
  have at0 : w1.cell? ⟨w.heap.size + 1, 0, none⟩ = some (.slice ia il ic) := (hb1.cell (p := ⟨w.heap.size + 1, 0, none⟩) (by simp <;> omega)).trans (by simp [go_sem])
  have at1 : w1.cell? ⟨w.heap.size + 1, 1, none⟩ = some (.int .i64 om) := (hb1.cell (p := ⟨w.heap.size + 1, 1, none⟩) (by simp <;> omega)).trans (by simp [go_sem])
  have at2 : w1.cell? ⟨w.heap.size + 1, 2, none⟩ = some (.slice oa ol oc) := (hb1.cell (p := ⟨w.heap.size + 1, 2, none⟩) (by simp <;> omega)).trans (by simp [go_sem])
  have at3 : w1.cell? ⟨w.heap.size + 1, 3, none⟩ = some (.int .i64 wl) := (hb1.cell (p := ⟨w.heap.size + 1, 3, none⟩) (by simp <;> omega)).trans (by simp [go_sem])
  have at4 : w1.cell? ⟨w.heap.size + 1, 4, none⟩ = some (.int .i64 pn) := (hb1.cell (p := ⟨w.heap.size + 1, 4, none⟩) (by simp <;> omega)).trans (by simp [go_sem])
  have at5 : w1.cell? ⟨w.heap.size + 1, 5, none⟩ = some (.slice pa pl pc) := (hb1.cell (p := ⟨w.heap.size + 1, 5, none⟩) (by simp <;> omega)).trans (by simp [go_sem])
  have at6 : w1.cell? ⟨w.heap.size + 1, 6, none⟩ = some (.slice la ll lc) := (hb1.cell (p := ⟨w.heap.size + 1, 6, none⟩) (by simp <;> omega)).trans (by simp [go_sem])
  have h1 := h0.below hb1
  rcases hr with rfl | ⟨hr0, hr1, hok⟩
  · go_wp2
    go_ret
    exact ⟨rfl, (by repeat (first | (with_reducible exact Below.refl _ _) | (with_reducible assumption) | (with_reducible refine bel_set ?_ (by first | (simp; done) | (simp; omega)) _) | (with_reducible refine bel_alloc ?_ _) | (with_reducible refine bel_drew ?_) | (with_reducible refine bel_drewN ?_ _) | (with_reducible refine bel_trans ?_ (by with_reducible assumption))))⟩
  · have hneg : ¬ rr < 0 := by omega
    obtain ⟨ob, hV0⟩ : ∃ ob, okRoom s t k z p l e v r om wl pn d ni = ob := ⟨_, rfl⟩
    have hV := hide hV0
    clear hV0
    have hbF1 : Below w.heap.size w w1 := bel_trans hbb hb1
    clear hb1 hbb h0 h
    go_wp2_with fail
    go_region_held3 (fun W => ((W.cell? ⟨w.heap.size, 0, none⟩ = some (.int .i64 s) ∧ W.cell? ⟨w.heap.size, 1, none⟩ = some (.int .i64 t) ∧ W.cell? ⟨w.heap.size, 2, none⟩ = some (.int .i64 k) ∧ W.cell? ⟨w.heap.size, 3, none⟩ = some (.int .i64 z) ∧ W.cell? ⟨w.heap.size, 4, none⟩ = some (.int .i64 p) ∧ W.cell? ⟨w.heap.size, 5, none⟩ = some (.int .i64 l) ∧ W.cell? ⟨w.heap.size, 6, none⟩ = some (.int .i64 e) ∧ W.cell? ⟨w.heap.size, 7, none⟩ = some (.bool b) ∧ W.cell? ⟨w.heap.size, 8, none⟩ = some (.int .i64 v) ∧ W.cell? ⟨w.heap.size, 9, none⟩ = some (.int .i64 r) ∧ W.cell? ⟨w.heap.size + 1, 0, none⟩ = some (.slice ia il ic) ∧ W.cell? ⟨w.heap.size + 1, 1, none⟩ = some (.int .i64 om) ∧ W.cell? ⟨w.heap.size + 1, 2, none⟩ = some (.slice oa ol oc) ∧ W.cell? ⟨w.heap.size + 1, 3, none⟩ = some (.int .i64 wl) ∧ W.cell? ⟨w.heap.size + 1, 4, none⟩ = some (.int .i64 pn) ∧ W.cell? ⟨w.heap.size + 1, 5, none⟩ = some (.slice pa pl pc) ∧ W.cell? ⟨w.heap.size + 1, 6, none⟩ = some (.slice la ll lc)) ∧ w.heap.size < W.heap.size ∧ w.heap.size + 1 < W.heap.size)) ((first | ((repeat (first | (with_reducible assumption) | (with_reducible refine hd_10_7 ?_ (by with_reducible assumption)) | (with_reducible refine hd_10_7 ?_ (bel_drew (Below.refl _ _))) | (with_reducible exact hd_10_7_re (by with_reducible assumption) (by first | omega | (simp; done) | (simp; omega)) (by first | omega | (simp; done) | (simp; omega))) | (with_reducible refine hd_10_7 ?_ (bel_one _ _)) | (with_reducible refine hd_10_7_set ?_ (by first | omega | (simp; done) | (simp; omega)) (by first | omega | (simp; done) | (simp; omega)) _))); done) | (refine ⟨⟨?_, ?_, ?_, ?_, ?_, ?_, ?_, ?_, ?_, ?_, ?_, ?_, ?_, ?_, ?_, ?_, ?_⟩, ?_, ?_⟩ <;> first | (go_keep; done) | (simp; done) | (simp; omega) | omega)))
      (first
      | (go_at_call 8; refine (toJob_any _ _ _ _ _ _ _ _ _ _ _).mono ?_; rintro e' w2 ⟨rfl, hb2⟩; obtain ⟨hc2, hf2, hs2⟩ := bcell hb2)
      | (go_at_call 9; refine (toTk_any ia il ic om oa ol oc wl pn pa pl pc la ll lc d _ (h1.below (by repeat (first | (with_reducible exact Below.refl _ _) | (with_reducible assumption) | (with_reducible refine bel_set ?_ (by first | (simp; done) | (simp; omega)) _) | (with_reducible refine bel_alloc ?_ _) | (with_reducible refine bel_drew ?_) | (with_reducible refine bel_drewN ?_ _) | (with_reducible refine bel_trans ?_ (by with_reducible assumption))))) hok).mono ?_; rintro e' w3 ⟨ia1, oa1, pa1, la1, rfl, H1, hb3⟩; obtain ⟨hc3, hf3, hs3⟩ := bcell hb3)
      | (go_at_call 7; refine (specroom_eq s t k z p l e b v r ia1 il il om oa1 ol ol wl pn pa1 pl pl la1 ll ll d _ _ _ (H1.below (by repeat (first | (with_reducible exact Below.refl _ _) | (with_reducible assumption) | (with_reducible refine bel_set ?_ (by first | (simp; done) | (simp; omega)) _) | (with_reducible refine bel_alloc ?_ _) | (with_reducible refine bel_drew ?_) | (with_reducible refine bel_drewN ?_ _) | (with_reducible refine bel_trans ?_ (by with_reducible assumption))))) hV).mono ?_; rintro e' w4 ⟨rfl, hb4⟩; obtain ⟨hc4, hf4, hs4⟩ := bcell hb4))
    have hB4 : Below w1.heap.size w1 w4 := (by repeat (first | (with_reducible exact Below.refl _ _) | (with_reducible assumption) | (with_reducible refine bel_set ?_ (by first | (simp; done) | (simp; omega)) _) | (with_reducible refine bel_alloc ?_ _) | (with_reducible refine bel_drew ?_) | (with_reducible refine bel_drewN ?_ _) | (with_reducible refine bel_trans ?_ (by with_reducible assumption))))
    clear hc2 hf2 hs2 hc3 hf3 hs3 hc4 hf4 hs4 hb2 hb3 hb4 H1
    have y1 : w.heap.size + 1 < w4.heap.size := Nat.lt_of_lt_of_le z1 hB4.size
    have y0 : w.heap.size < w4.heap.size := by omega
    have bj0 : w4.cell? ⟨w.heap.size, 0, none⟩ = some (.int .i64 s) := (hB4.cell (p := ⟨w.heap.size, 0, none⟩) (by first | exact z0 | exact z1)).trans aj0
    have bj1 : w4.cell? ⟨w.heap.size, 1, none⟩ = some (.int .i64 t) := (hB4.cell (p := ⟨w.heap.size, 1, none⟩) (by first | exact z0 | exact z1)).trans aj1
    have bj2 : w4.cell? ⟨w.heap.size, 2, none⟩ = some (.int .i64 k) := (hB4.cell (p := ⟨w.heap.size, 2, none⟩) (by first | exact z0 | exact z1)).trans aj2
    have bj3 : w4.cell? ⟨w.heap.size, 3, none⟩ = some (.int .i64 z) := (hB4.cell (p := ⟨w.heap.size, 3, none⟩) (by first | exact z0 | exact z1)).trans aj3
    have bj4 : w4.cell? ⟨w.heap.size, 4, none⟩ = some (.int .i64 p) := (hB4.cell (p := ⟨w.heap.size, 4, none⟩) (by first | exact z0 | exact z1)).trans aj4
    have bj5 : w4.cell? ⟨w.heap.size, 5, none⟩ = some (.int .i64 l) := (hB4.cell (p := ⟨w.heap.size, 5, none⟩) (by first | exact z0 | exact z1)).trans aj5
    have bj6 : w4.cell? ⟨w.heap.size, 6, none⟩ = some (.int .i64 e) := (hB4.cell (p := ⟨w.heap.size, 6, none⟩) (by first | exact z0 | exact z1)).trans aj6
    have bj7 : w4.cell? ⟨w.heap.size, 7, none⟩ = some (.bool b) := (hB4.cell (p := ⟨w.heap.size, 7, none⟩) (by first | exact z0 | exact z1)).trans aj7
    have bj8 : w4.cell? ⟨w.heap.size, 8, none⟩ = some (.int .i64 v) := (hB4.cell (p := ⟨w.heap.size, 8, none⟩) (by first | exact z0 | exact z1)).trans aj8
    have bj9 : w4.cell? ⟨w.heap.size, 9, none⟩ = some (.int .i64 r) := (hB4.cell (p := ⟨w.heap.size, 9, none⟩) (by first | exact z0 | exact z1)).trans aj9
    have bt0 : w4.cell? ⟨w.heap.size + 1, 0, none⟩ = some (.slice ia il ic) := (hB4.cell (p := ⟨w.heap.size + 1, 0, none⟩) (by first | exact z0 | exact z1)).trans at0
    have bt1 : w4.cell? ⟨w.heap.size + 1, 1, none⟩ = some (.int .i64 om) := (hB4.cell (p := ⟨w.heap.size + 1, 1, none⟩) (by first | exact z0 | exact z1)).trans at1
    have bt2 : w4.cell? ⟨w.heap.size + 1, 2, none⟩ = some (.slice oa ol oc) := (hB4.cell (p := ⟨w.heap.size + 1, 2, none⟩) (by first | exact z0 | exact z1)).trans at2
    have bt3 : w4.cell? ⟨w.heap.size + 1, 3, none⟩ = some (.int .i64 wl) := (hB4.cell (p := ⟨w.heap.size + 1, 3, none⟩) (by first | exact z0 | exact z1)).trans at3
    have bt4 : w4.cell? ⟨w.heap.size + 1, 4, none⟩ = some (.int .i64 pn) := (hB4.cell (p := ⟨w.heap.size + 1, 4, none⟩) (by first | exact z0 | exact z1)).trans at4
    have bt5 : w4.cell? ⟨w.heap.size + 1, 5, none⟩ = some (.slice pa pl pc) := (hB4.cell (p := ⟨w.heap.size + 1, 5, none⟩) (by first | exact z0 | exact z1)).trans at5
    have bt6 : w4.cell? ⟨w.heap.size + 1, 6, none⟩ = some (.slice la ll lc) := (hB4.cell (p := ⟨w.heap.size + 1, 6, none⟩) (by first | exact z0 | exact z1)).trans at6
    clear aj0 aj1 aj2 aj3 aj4 aj5 aj6 aj7 aj8 aj9 at0 at1 at2 at3 at4 at5 at6
    have h4 := h1.below hB4
    go_wp2_with fail
    refine (toTk_any ia il ic om oa ol oc wl pn pa pl pc la ll lc d _ h4 hok).mono ?_
    rintro e' w5 ⟨ia2, oa2, pa2, la2, rfl, H2, hb5⟩
    have x1 : w.heap.size + 1 < w5.heap.size := Nat.lt_of_lt_of_le y1 hb5.size
    have x0 : w.heap.size < w5.heap.size := by omega
    have cj0 : w5.cell? ⟨w.heap.size, 0, none⟩ = some (.int .i64 s) := (hb5.cell (p := ⟨w.heap.size, 0, none⟩) (by first | exact y0 | exact y1)).trans bj0
    have cj1 : w5.cell? ⟨w.heap.size, 1, none⟩ = some (.int .i64 t) := (hb5.cell (p := ⟨w.heap.size, 1, none⟩) (by first | exact y0 | exact y1)).trans bj1
    have cj2 : w5.cell? ⟨w.heap.size, 2, none⟩ = some (.int .i64 k) := (hb5.cell (p := ⟨w.heap.size, 2, none⟩) (by first | exact y0 | exact y1)).trans bj2
    have cj3 : w5.cell? ⟨w.heap.size, 3, none⟩ = some (.int .i64 z) := (hb5.cell (p := ⟨w.heap.size, 3, none⟩) (by first | exact y0 | exact y1)).trans bj3
    have cj4 : w5.cell? ⟨w.heap.size, 4, none⟩ = some (.int .i64 p) := (hb5.cell (p := ⟨w.heap.size, 4, none⟩) (by first | exact y0 | exact y1)).trans bj4
    have cj5 : w5.cell? ⟨w.heap.size, 5, none⟩ = some (.int .i64 l) := (hb5.cell (p := ⟨w.heap.size, 5, none⟩) (by first | exact y0 | exact y1)).trans bj5
    have cj6 : w5.cell? ⟨w.heap.size, 6, none⟩ = some (.int .i64 e) := (hb5.cell (p := ⟨w.heap.size, 6, none⟩) (by first | exact y0 | exact y1)).trans bj6
    have cj7 : w5.cell? ⟨w.heap.size, 7, none⟩ = some (.bool b) := (hb5.cell (p := ⟨w.heap.size, 7, none⟩) (by first | exact y0 | exact y1)).trans bj7
    have cj8 : w5.cell? ⟨w.heap.size, 8, none⟩ = some (.int .i64 v) := (hb5.cell (p := ⟨w.heap.size, 8, none⟩) (by first | exact y0 | exact y1)).trans bj8
    have cj9 : w5.cell? ⟨w.heap.size, 9, none⟩ = some (.int .i64 r) := (hb5.cell (p := ⟨w.heap.size, 9, none⟩) (by first | exact y0 | exact y1)).trans bj9
    have ct0 : w5.cell? ⟨w.heap.size + 1, 0, none⟩ = some (.slice ia il ic) := (hb5.cell (p := ⟨w.heap.size + 1, 0, none⟩) (by first | exact y0 | exact y1)).trans bt0
    have ct1 : w5.cell? ⟨w.heap.size + 1, 1, none⟩ = some (.int .i64 om) := (hb5.cell (p := ⟨w.heap.size + 1, 1, none⟩) (by first | exact y0 | exact y1)).trans bt1
    have ct2 : w5.cell? ⟨w.heap.size + 1, 2, none⟩ = some (.slice oa ol oc) := (hb5.cell (p := ⟨w.heap.size + 1, 2, none⟩) (by first | exact y0 | exact y1)).trans bt2
    have ct3 : w5.cell? ⟨w.heap.size + 1, 3, none⟩ = some (.int .i64 wl) := (hb5.cell (p := ⟨w.heap.size + 1, 3, none⟩) (by first | exact y0 | exact y1)).trans bt3
    have ct4 : w5.cell? ⟨w.heap.size + 1, 4, none⟩ = some (.int .i64 pn) := (hb5.cell (p := ⟨w.heap.size + 1, 4, none⟩) (by first | exact y0 | exact y1)).trans bt4
    have ct5 : w5.cell? ⟨w.heap.size + 1, 5, none⟩ = some (.slice pa pl pc) := (hb5.cell (p := ⟨w.heap.size + 1, 5, none⟩) (by first | exact y0 | exact y1)).trans bt5
    have ct6 : w5.cell? ⟨w.heap.size + 1, 6, none⟩ = some (.slice la ll lc) := (hb5.cell (p := ⟨w.heap.size + 1, 6, none⟩) (by first | exact y0 | exact y1)).trans bt6
    clear bj0 bj1 bj2 bj3 bj4 bj5 bj6 bj7 bj8 bj9 bt0 bt1 bt2 bt3 bt4 bt5 bt6
    have h5 := h4.below hb5
    have hbX : Below w5.heap.size w5 (w5.alloc (.cells #[.slice ia2 il il, .int .i64 om, .slice oa2 ol ol, .int .i64 wl, .int .i64 pn, .slice pa2 pl pl, .slice la2 ll ll] 47)) := bel_one _ _
    have HX := H2.below hbX
    go_wp2_with fail
    go_region_held3 (fun W => ((W.cell? ⟨w.heap.size, 0, none⟩ = some (.int .i64 s) ∧ W.cell? ⟨w.heap.size, 1, none⟩ = some (.int .i64 t) ∧ W.cell? ⟨w.heap.size, 2, none⟩ = some (.int .i64 k) ∧ W.cell? ⟨w.heap.size, 3, none⟩ = some (.int .i64 z) ∧ W.cell? ⟨w.heap.size, 4, none⟩ = some (.int .i64 p) ∧ W.cell? ⟨w.heap.size, 5, none⟩ = some (.int .i64 l) ∧ W.cell? ⟨w.heap.size, 6, none⟩ = some (.int .i64 e) ∧ W.cell? ⟨w.heap.size, 7, none⟩ = some (.bool b) ∧ W.cell? ⟨w.heap.size, 8, none⟩ = some (.int .i64 v) ∧ W.cell? ⟨w.heap.size, 9, none⟩ = some (.int .i64 r) ∧ W.cell? ⟨w5.heap.size, 0, none⟩ = some (.slice ia2 il il) ∧ W.cell? ⟨w5.heap.size, 1, none⟩ = some (.int .i64 om) ∧ W.cell? ⟨w5.heap.size, 2, none⟩ = some (.slice oa2 ol ol) ∧ W.cell? ⟨w5.heap.size, 3, none⟩ = some (.int .i64 wl) ∧ W.cell? ⟨w5.heap.size, 4, none⟩ = some (.int .i64 pn) ∧ W.cell? ⟨w5.heap.size, 5, none⟩ = some (.slice pa2 pl pl) ∧ W.cell? ⟨w5.heap.size, 6, none⟩ = some (.slice la2 ll ll)) ∧ w.heap.size < W.heap.size ∧ w5.heap.size < W.heap.size)) ((first | ((repeat (first | (with_reducible assumption) | (with_reducible refine hd_10_7 ?_ (by with_reducible assumption)) | (with_reducible refine hd_10_7 ?_ (bel_drew (Below.refl _ _))) | (with_reducible exact hd_10_7_re (by with_reducible assumption) (by first | omega | (simp; done) | (simp; omega)) (by first | omega | (simp; done) | (simp; omega))) | (with_reducible refine hd_10_7 ?_ (bel_one _ _)) | (with_reducible refine hd_10_7_set ?_ (by first | omega | (simp; done) | (simp; omega)) (by first | omega | (simp; done) | (simp; omega)) _))); done) | (refine ⟨⟨?_, ?_, ?_, ?_, ?_, ?_, ?_, ?_, ?_, ?_, ?_, ?_, ?_, ?_, ?_, ?_, ?_⟩, ?_, ?_⟩ <;> first | (go_keep; done) | (simp; done) | (simp; omega) | omega)))
      (first
      | (go_at_call 8; refine (toJob_any _ _ _ _ _ _ _ _ _ _ _).mono ?_; rintro e' w6 ⟨rfl, hb6⟩; obtain ⟨hc6, hf6, hs6⟩ := bcell hb6)
      | (go_at_call 10; refine (implroom_eq s t k z p l e b v r ia2 il il om oa2 ol ol wl pn pa2 pl pl la2 ll ll d _ _ _ (HX.below (by repeat (first | (with_reducible exact Below.refl _ _) | (with_reducible assumption) | (with_reducible refine bel_set ?_ (by first | (simp; done) | (simp; omega)) _) | (with_reducible refine bel_alloc ?_ _) | (with_reducible refine bel_drew ?_) | (with_reducible refine bel_drewN ?_ _) | (with_reducible refine bel_trans ?_ (by with_reducible assumption))))) hV).mono ?_; rintro e' w7 ⟨rfl, hb7⟩; obtain ⟨hc7, hf7, hs7⟩ := bcell hb7))
    have hB7 : Below (w5.alloc (.cells #[.slice ia2 il il, .int .i64 om, .slice oa2 ol ol, .int .i64 wl, .int .i64 pn, .slice pa2 pl pl, .slice la2 ll ll] 47)).heap.size (w5.alloc (.cells #[.slice ia2 il il, .int .i64 om, .slice oa2 ol ol, .int .i64 wl, .int .i64 pn, .slice pa2 pl pl, .slice la2 ll ll] 47)) w7 := (by repeat (first | (with_reducible exact Below.refl _ _) | (with_reducible assumption) | (with_reducible refine bel_set ?_ (by first | (simp; done) | (simp; omega)) _) | (with_reducible refine bel_alloc ?_ _) | (with_reducible refine bel_drew ?_) | (with_reducible refine bel_drewN ?_ _) | (with_reducible refine bel_trans ?_ (by with_reducible assumption))))
    clear hc6 hf6 hs6 hc7 hf7 hs7 hb6 hb7
    have v0 : w5.heap.size < w7.heap.size := by have h9 := hB7.size; simp at h9; omega
    have v1 : w.heap.size + 1 < w7.heap.size := by omega
    have e0 : w7.cell? ⟨w.heap.size + 1, 0, none⟩ = some (.slice ia il ic) := (hB7.cell (p := ⟨w.heap.size + 1, 0, none⟩) (by simp <;> omega)).trans ((hbX.cell (p := ⟨w.heap.size + 1, 0, none⟩) x1).trans ct0)
    have e1 : w7.cell? ⟨w.heap.size + 1, 1, none⟩ = some (.int .i64 om) := (hB7.cell (p := ⟨w.heap.size + 1, 1, none⟩) (by simp <;> omega)).trans ((hbX.cell (p := ⟨w.heap.size + 1, 1, none⟩) x1).trans ct1)
    have e2 : w7.cell? ⟨w.heap.size + 1, 2, none⟩ = some (.slice oa ol oc) := (hB7.cell (p := ⟨w.heap.size + 1, 2, none⟩) (by simp <;> omega)).trans ((hbX.cell (p := ⟨w.heap.size + 1, 2, none⟩) x1).trans ct2)
    have e3 : w7.cell? ⟨w.heap.size + 1, 3, none⟩ = some (.int .i64 wl) := (hB7.cell (p := ⟨w.heap.size + 1, 3, none⟩) (by simp <;> omega)).trans ((hbX.cell (p := ⟨w.heap.size + 1, 3, none⟩) x1).trans ct3)
    have e4 : w7.cell? ⟨w.heap.size + 1, 4, none⟩ = some (.int .i64 pn) := (hB7.cell (p := ⟨w.heap.size + 1, 4, none⟩) (by simp <;> omega)).trans ((hbX.cell (p := ⟨w.heap.size + 1, 4, none⟩) x1).trans ct4)
    have e5 : w7.cell? ⟨w.heap.size + 1, 5, none⟩ = some (.slice pa pl pc) := (hB7.cell (p := ⟨w.heap.size + 1, 5, none⟩) (by simp <;> omega)).trans ((hbX.cell (p := ⟨w.heap.size + 1, 5, none⟩) x1).trans ct5)
    have e6 : w7.cell? ⟨w.heap.size + 1, 6, none⟩ = some (.slice la ll lc) := (hB7.cell (p := ⟨w.heap.size + 1, 6, none⟩) (by simp <;> omega)).trans ((hbX.cell (p := ⟨w.heap.size + 1, 6, none⟩) x1).trans ct6)
    have f0 : w7.cell? ⟨w5.heap.size, 0, none⟩ = some (.slice ia2 il il) := (hB7.cell (p := ⟨w5.heap.size, 0, none⟩) (by simp)).trans (by simp [go_sem])
    have f1 : w7.cell? ⟨w5.heap.size, 1, none⟩ = some (.int .i64 om) := (hB7.cell (p := ⟨w5.heap.size, 1, none⟩) (by simp)).trans (by simp [go_sem])
    have f2 : w7.cell? ⟨w5.heap.size, 2, none⟩ = some (.slice oa2 ol ol) := (hB7.cell (p := ⟨w5.heap.size, 2, none⟩) (by simp)).trans (by simp [go_sem])
    have f3 : w7.cell? ⟨w5.heap.size, 3, none⟩ = some (.int .i64 wl) := (hB7.cell (p := ⟨w5.heap.size, 3, none⟩) (by simp)).trans (by simp [go_sem])
    have f4 : w7.cell? ⟨w5.heap.size, 4, none⟩ = some (.int .i64 pn) := (hB7.cell (p := ⟨w5.heap.size, 4, none⟩) (by simp)).trans (by simp [go_sem])
    have f5 : w7.cell? ⟨w5.heap.size, 5, none⟩ = some (.slice pa2 pl pl) := (hB7.cell (p := ⟨w5.heap.size, 5, none⟩) (by simp)).trans (by simp [go_sem])
    have f6 : w7.cell? ⟨w5.heap.size, 6, none⟩ = some (.slice la2 ll ll) := (hB7.cell (p := ⟨w5.heap.size, 6, none⟩) (by simp)).trans (by simp [go_sem])
    clear cj0 cj1 cj2 cj3 cj4 cj5 cj6 cj7 cj8 cj9 ct0 ct1 ct2 ct3 ct4 ct5 ct6
    have h7 := (h5.below hbX).below hB7
    have H7 := HX.below hB7
    have hbF : Below w.heap.size w w7 := bel_trans hbF1 (bel_trans hB4 (bel_trans hb5 (bel_trans hbX hB7)))
    clear hB4 hb5 hbX hB7 h1 h4 h5 H2 HX hbF1
    go_wp2_with fail
    go_region_held3 (fun W => ((W.cell? ⟨w.heap.size + 1, 0, none⟩ = some (.slice ia il ic) ∧ W.cell? ⟨w.heap.size + 1, 1, none⟩ = some (.int .i64 om) ∧ W.cell? ⟨w.heap.size + 1, 2, none⟩ = some (.slice oa ol oc) ∧ W.cell? ⟨w.heap.size + 1, 3, none⟩ = some (.int .i64 wl) ∧ W.cell? ⟨w.heap.size + 1, 4, none⟩ = some (.int .i64 pn) ∧ W.cell? ⟨w.heap.size + 1, 5, none⟩ = some (.slice pa pl pc) ∧ W.cell? ⟨w.heap.size + 1, 6, none⟩ = some (.slice la ll lc) ∧ W.cell? ⟨w5.heap.size, 0, none⟩ = some (.slice ia2 il il) ∧ W.cell? ⟨w5.heap.size, 1, none⟩ = some (.int .i64 om) ∧ W.cell? ⟨w5.heap.size, 2, none⟩ = some (.slice oa2 ol ol) ∧ W.cell? ⟨w5.heap.size, 3, none⟩ = some (.int .i64 wl) ∧ W.cell? ⟨w5.heap.size, 4, none⟩ = some (.int .i64 pn) ∧ W.cell? ⟨w5.heap.size, 5, none⟩ = some (.slice pa2 pl pl) ∧ W.cell? ⟨w5.heap.size, 6, none⟩ = some (.slice la2 ll ll)) ∧ w.heap.size + 1 < W.heap.size ∧ w5.heap.size < W.heap.size)) ((first | ((repeat (first | (with_reducible assumption) | (with_reducible refine hd_7_7 ?_ (by with_reducible assumption)) | (with_reducible refine hd_7_7 ?_ (bel_drew (Below.refl _ _))) | (with_reducible exact hd_7_7_re (by with_reducible assumption) (by first | omega | (simp; done) | (simp; omega)) (by first | omega | (simp; done) | (simp; omega))) | (with_reducible refine hd_7_7 ?_ (bel_one _ _)) | (with_reducible refine hd_7_7_set ?_ (by first | omega | (simp; done) | (simp; omega)) (by first | omega | (simp; done) | (simp; omega)) _))); done) | (refine ⟨⟨?_, ?_, ?_, ?_, ?_, ?_, ?_, ?_, ?_, ?_, ?_, ?_, ?_, ?_⟩, ?_, ?_⟩ <;> first | (go_keep; done) | (simp; done) | (simp; omega) | omega)))
      (first
      | (go_at_call 9; refine (toTk_any ia il ic om oa ol oc wl pn pa pl pc la ll lc d _ (h7.below (by repeat (first | (with_reducible exact Below.refl _ _) | (with_reducible assumption) | (with_reducible refine bel_set ?_ (by first | (simp; done) | (simp; omega)) _) | (with_reducible refine bel_alloc ?_ _) | (with_reducible refine bel_drew ?_) | (with_reducible refine bel_drewN ?_ _) | (with_reducible refine bel_trans ?_ (by with_reducible assumption))))) hok).mono ?_; rintro e' w8 ⟨ia3, oa3, pa3, la3, rfl, H3, hb8⟩; obtain ⟨hc8, hf8, hs8⟩ := bcell hb8)
      | (go_at_call 11; refine (eqTk_any _ _ ia2 ia3 il il il om oa2 oa3 ol ol ol wl pn pa2 pa3 pl pl pl la2 la3 ll ll ll d _ (H7.below (by repeat (first | (with_reducible exact Below.refl _ _) | (with_reducible assumption) | (with_reducible refine bel_set ?_ (by first | (simp; done) | (simp; omega)) _) | (with_reducible refine bel_alloc ?_ _) | (with_reducible refine bel_drew ?_) | (with_reducible refine bel_drewN ?_ _) | (with_reducible refine bel_trans ?_ (by with_reducible assumption))))) (H3.below (by repeat (first | (with_reducible exact Below.refl _ _) | (with_reducible assumption) | (with_reducible refine bel_set ?_ (by first | (simp; done) | (simp; omega)) _) | (with_reducible refine bel_alloc ?_ _) | (with_reducible refine bel_drew ?_) | (with_reducible refine bel_drewN ?_ _) | (with_reducible refine bel_trans ?_ (by with_reducible assumption)))))).mono ?_; rintro e' w9 ⟨rfl, hb9⟩))
    go_wp2
    go_ret
    exact ⟨rfl, (by repeat (first | (with_reducible exact Below.refl _ _) | (with_reducible assumption) | (with_reducible refine bel_set ?_ (by first | (simp; done) | (simp; omega)) _) | (with_reducible refine bel_alloc ?_ _) | (with_reducible refine bel_drew ?_) | (with_reducible refine bel_drewN ?_ _) | (with_reducible refine bel_trans ?_ (by with_reducible assumption))))⟩
end Go.Proofs.YtppdfmclhklkhaaGreat
