/- Proved here: the law on LogOk returns true, if a log is drawn at all. -/
import Derived.Test.YthdfljankoffiaaLogL0
namespace Go.Proofs.Ythdfljankoffiaa
open Go.ChangeShapes Go.WideShapes Go.ChangeAt Go.RowKit
set_option linter.unusedVariables false

set_option maxRecDepth 20000 in
set_option maxHeartbeats 6000000 in
theorem lawLogP (a : Option Addr) (len cap : Nat) (w : World) (hm : len ≤ maxLen) (hd : (len : Int) ≤ 1048576 → Calls Try.prog 18 #[.slice a len cap] w fun e w' => LogsD w e w') : Calls Try.prog 5 #[.slice a len cap] w fun e w' => e = .returned (.bool true) ∧ Below w.heap.size w w' := by
  unfold maxLen at hm
  by_cases hlen : (len : Int) ≤ 1048576
  rotate_left
  · go_enter Try.func5, Try.ntmps5
    go_wp2
    go_ret
    exact ⟨rfl, Below.refl _ _⟩
  have hd' := hide (hd hlen)
  clear hd
  go_enter Try.func5, Try.ntmps5
  go_wp2_with fail
  refine (unhide hd').mono ?_
  rintro e w1 ⟨a1, len1, cap1, xs, rfl, hI, hb1⟩
  clear hd'
  have hml := hI.2.1
  unfold maxLen at hml
  rcases Nat.eq_zero_or_pos len1 with rfl | hpos
  · have hxl0 := hI.1
    have HF0 : Hid (okLog xs = false) := hide (okLog_short (inB_ff (by omega)))
    go_wp2
    go_loopw [4, 5, 6] (fun bv mv i wr => ∃ (k : Nat) (mk : Int) (b : Bool), k ≤ 0 ∧ bv = .bool b ∧ i = .int .i64 k ∧ mv = .int .i64 mk ∧ LkR xs k mk b ∧ Below w1.heap.size w1 wr) (fun _ _ i _ => 0 - (intOf i).toNat)
    case atStart => exact ⟨0, 0, false, Nat.zero_le _, rfl, rfl, rfl, Or.inr ⟨rfl, unhide HF0⟩, (by repeat (first | (with_reducible exact Below.refl _ _) | (with_reducible assumption) | (with_reducible refine bel_set ?_ (by first | (simp; done) | (simp; omega)) _) | (with_reducible refine bel_alloc ?_ _) | (with_reducible refine bel_drew ?_) | (with_reducible refine bel_drewN ?_ _) | (with_reducible refine bel_trans ?_ (by with_reducible assumption))))⟩
    case round =>
      obtain ⟨k, mk, b, hk, rfl, rfl, rfl, hR, hbw⟩ := hrel
      by_cases hlt : k < 0
      · exact absurd hlt (by omega)
      · obtain rfl : k = 0 := by omega
        rcases hR with ⟨rfl, hL, hG⟩ | ⟨rfl, hF⟩
        rotate_left
        · have HF := hide hF
          clear hF
          have VV := HF
          go_wp2_with (first | (go_at_call 20; (with_reducible refine (impllog_any _ _ _ endL _ (endL_its _ _)).mono ?_); rw [okLog_endL]; rintro e w' ⟨rfl, hb⟩; obtain ⟨hc, hf, hs⟩ := bcell hb) | (go_at_call 20; (with_reducible refine (impllog_any _ _ _ xs _ (hI.below (by repeat (first | (with_reducible exact Below.refl _ _) | (with_reducible assumption) | (with_reducible refine bel_set ?_ (by first | (simp; done) | (simp; omega)) _) | (with_reducible refine bel_alloc ?_ _) | (with_reducible refine bel_drew ?_) | (with_reducible refine bel_drewN ?_ _) | (with_reducible refine bel_trans ?_ (by with_reducible assumption)))))).mono ?_); rw [unhide VV]; rintro e w' ⟨rfl, hb⟩; obtain ⟨hc, hf, hs⟩ := bcell hb) | (go_at_call 21; (with_reducible refine (speclog_any _ _ _ xs _ (hI.below (by repeat (first | (with_reducible exact Below.refl _ _) | (with_reducible assumption) | (with_reducible refine bel_set ?_ (by first | (simp; done) | (simp; omega)) _) | (with_reducible refine bel_alloc ?_ _) | (with_reducible refine bel_drew ?_) | (with_reducible refine bel_drewN ?_ _) | (with_reducible refine bel_trans ?_ (by with_reducible assumption)))))).mono ?_); rw [unhide VV]; rintro e w' ⟨rfl, hb⟩; obtain ⟨hc, hf, hs⟩ := bcell hb))
          go_ret
          exact ⟨rfl, bel_trans hb1 (by repeat (first | (with_reducible exact Below.refl _ _) | (with_reducible assumption) | (with_reducible refine bel_set ?_ (by first | (simp; done) | (simp; omega)) _) | (with_reducible refine bel_alloc ?_ _) | (with_reducible refine bel_drew ?_) | (with_reducible refine bel_drewN ?_ _) | (with_reducible refine bel_trans ?_ (by with_reducible assumption))))⟩
        exact absurd hL (by omega)
  obtain ⟨n, rfl⟩ : ∃ n, len1 = n + 1 := ⟨len1 - 1, by omega⟩
  by_cases h40 : (n : Int) + 1 ≤ 40
  · have hxl0 := hI.1
    go_wp2
    go_loopw [4, 5, 6] (fun bv mv i wr => ∃ (k : Nat) (mk : Int) (b : Bool), k ≤ (n + 1) ∧ bv = .bool b ∧ i = .int .i64 k ∧ mv = .int .i64 mk ∧ LkR xs k mk b ∧ Below w1.heap.size w1 wr) (fun _ _ i _ => (n + 1) - (intOf i).toNat)
    case atStart => exact ⟨0, 0, true, Nat.zero_le _, rfl, rfl, rfl, Or.inl ⟨rfl, ⟨by omega, by omega⟩, by rw [List.drop_zero]⟩, (by repeat (first | (with_reducible exact Below.refl _ _) | (with_reducible assumption) | (with_reducible refine bel_set ?_ (by first | (simp; done) | (simp; omega)) _) | (with_reducible refine bel_alloc ?_ _) | (with_reducible refine bel_drew ?_) | (with_reducible refine bel_drewN ?_ _) | (with_reducible refine bel_trans ?_ (by with_reducible assumption))))⟩
    case round =>
      obtain ⟨k, mk, b, hk, rfl, rfl, rfl, hR, hbw⟩ := hrel
      by_cases hlt : k < (n + 1)
      · obtain ⟨hxl, _, hx⟩ := hI
        obtain ⟨g, o, rfl, hr⟩ := hx.resolve_left (by omega)
        have hg : g < w1.heap.size := hr.lt (by omega)
        obtain ⟨x, hxk⟩ : ∃ x, xs[k]? = some x := ⟨_, List.getElem?_eq_getElem (by omega)⟩
        obtain ⟨q, t, kk, v, nn⟩ := x
        obtain ⟨d0, d1, d2, d3, d4⟩ := ((hr k _ hxk).below hbw hg).get
        have hgr : g < wr.heap.size := Nat.lt_of_lt_of_le hg hbw.size
        have hst := hide (logGo_drop hxk mk)
        clear hxk hx hr
        by_cases h2 : q = 2
        · subst h2
          by_cases h4 : mk < t
          · skip
            rcases hR with ⟨rfl, hL, hG⟩ | ⟨rfl, hF⟩
            rotate_left
            · go_wp2
              go_roundw
              case rel => exact ⟨k + 1, t, false, by omega, rfl, by go_num, by go_num, Or.inr ⟨rfl, hF⟩, (by repeat (first | (with_reducible exact Below.refl _ _) | (with_reducible assumption) | (with_reducible refine bel_set ?_ (by first | (simp; done) | (simp; omega)) _) | (with_reducible refine bel_alloc ?_ _) | (with_reducible refine bel_drew ?_) | (with_reducible refine bel_drewN ?_ _) | (with_reducible refine bel_trans ?_ (by with_reducible assumption))))⟩
              case measure => simp [intOf]; omega
            cases ho : okItm 2 t kk v nn
            · have hF : okLog xs = false := okLog_go (by rw [hG, unhide hst, ho]; rfl)
              have HF := hide hF
              clear hF hG
              go_wp2_with (go_at_call 19; refine (implitm_any _ _ _ _ _ _).mono ?_; rintro e w' ⟨rfl, hb⟩; obtain ⟨hc, hf, hs⟩ := bcell hb)
              go_roundw
              case rel => exact ⟨k + 1, t, false, by omega, rfl, by go_num, by go_num, Or.inr ⟨rfl, unhide HF⟩, (by repeat (first | (with_reducible exact Below.refl _ _) | (with_reducible assumption) | (with_reducible refine bel_set ?_ (by first | (simp; done) | (simp; omega)) _) | (with_reducible refine bel_alloc ?_ _) | (with_reducible refine bel_drew ?_) | (with_reducible refine bel_drewN ?_ _) | (with_reducible refine bel_trans ?_ (by with_reducible assumption))))⟩
              case measure => simp [intOf]; omega
            · have HG : Hid (logGo xs 0 = logGo (xs.drop (k + 1)) t) := hide (by rw [hG, unhide hst, ho, if_pos rfl, decide_eq_true h4]; rfl)
              clear hG
              go_wp2_with (go_at_call 19; refine (implitm_any _ _ _ _ _ _).mono ?_; rintro e w' ⟨rfl, hb⟩; obtain ⟨hc, hf, hs⟩ := bcell hb)
              go_roundw
              case rel => exact ⟨k + 1, t, true, by omega, rfl, by go_num, by go_num, Or.inl ⟨rfl, hL, unhide HG⟩, (by repeat (first | (with_reducible exact Below.refl _ _) | (with_reducible assumption) | (with_reducible refine bel_set ?_ (by first | (simp; done) | (simp; omega)) _) | (with_reducible refine bel_alloc ?_ _) | (with_reducible refine bel_drew ?_) | (with_reducible refine bel_drewN ?_ _) | (with_reducible refine bel_trans ?_ (by with_reducible assumption))))⟩
              case measure => simp [intOf]; omega
          · have h4' : decide (mk < t) = false := decide_eq_false h4
            rcases hR with ⟨rfl, hL, hG⟩ | ⟨rfl, hF⟩
            rotate_left
            · go_wp2
              go_roundw
              case rel => exact ⟨k + 1, mk, false, by omega, rfl, by go_num, by go_num, Or.inr ⟨rfl, hF⟩, (by repeat (first | (with_reducible exact Below.refl _ _) | (with_reducible assumption) | (with_reducible refine bel_set ?_ (by first | (simp; done) | (simp; omega)) _) | (with_reducible refine bel_alloc ?_ _) | (with_reducible refine bel_drew ?_) | (with_reducible refine bel_drewN ?_ _) | (with_reducible refine bel_trans ?_ (by with_reducible assumption))))⟩
              case measure => simp [intOf]; omega
            cases ho : okItm 2 t kk v nn
            · have hF : okLog xs = false := okLog_go (by rw [hG, unhide hst, ho]; rfl)
              have HF := hide hF
              clear hF hG
              go_wp2_with (go_at_call 19; refine (implitm_any _ _ _ _ _ _).mono ?_; rintro e w' ⟨rfl, hb⟩; obtain ⟨hc, hf, hs⟩ := bcell hb)
              go_roundw
              case rel => exact ⟨k + 1, mk, false, by omega, rfl, by go_num, by go_num, Or.inr ⟨rfl, unhide HF⟩, (by repeat (first | (with_reducible exact Below.refl _ _) | (with_reducible assumption) | (with_reducible refine bel_set ?_ (by first | (simp; done) | (simp; omega)) _) | (with_reducible refine bel_alloc ?_ _) | (with_reducible refine bel_drew ?_) | (with_reducible refine bel_drewN ?_ _) | (with_reducible refine bel_trans ?_ (by with_reducible assumption))))⟩
              case measure => simp [intOf]; omega
            · have HF : Hid (okLog xs = false) := hide (okLog_go (by rw [hG, unhide hst, ho, if_pos rfl, decide_eq_false h4]; rfl))
              clear hG
              go_wp2_with (go_at_call 19; refine (implitm_any _ _ _ _ _ _).mono ?_; rintro e w' ⟨rfl, hb⟩; obtain ⟨hc, hf, hs⟩ := bcell hb)
              go_roundw
              case rel => exact ⟨k + 1, mk, false, by omega, rfl, by go_num, by go_num, Or.inr ⟨rfl, unhide HF⟩, (by repeat (first | (with_reducible exact Below.refl _ _) | (with_reducible assumption) | (with_reducible refine bel_set ?_ (by first | (simp; done) | (simp; omega)) _) | (with_reducible refine bel_alloc ?_ _) | (with_reducible refine bel_drew ?_) | (with_reducible refine bel_drewN ?_ _) | (with_reducible refine bel_trans ?_ (by with_reducible assumption))))⟩
              case measure => simp [intOf]; omega
        have g2 : (q == 2) = false := by simpa using h2
        rcases hR with ⟨rfl, hL, hG⟩ | ⟨rfl, hF⟩
        rotate_left
        · go_wp2
          go_roundw
          case rel => exact ⟨k + 1, mk, false, by omega, rfl, by go_num, by go_num, Or.inr ⟨rfl, hF⟩, (by repeat (first | (with_reducible exact Below.refl _ _) | (with_reducible assumption) | (with_reducible refine bel_set ?_ (by first | (simp; done) | (simp; omega)) _) | (with_reducible refine bel_alloc ?_ _) | (with_reducible refine bel_drew ?_) | (with_reducible refine bel_drewN ?_ _) | (with_reducible refine bel_trans ?_ (by with_reducible assumption))))⟩
          case measure => simp [intOf]; omega
        cases ho : okItm q t kk v nn
        · have hF : okLog xs = false := okLog_go (by rw [hG, unhide hst, ho]; rfl)
          have HF := hide hF
          clear hF hG
          go_wp2_with (go_at_call 19; refine (implitm_any _ _ _ _ _ _).mono ?_; rintro e w' ⟨rfl, hb⟩; obtain ⟨hc, hf, hs⟩ := bcell hb)
          go_roundw
          case rel => exact ⟨k + 1, mk, false, by omega, rfl, by go_num, by go_num, Or.inr ⟨rfl, unhide HF⟩, (by repeat (first | (with_reducible exact Below.refl _ _) | (with_reducible assumption) | (with_reducible refine bel_set ?_ (by first | (simp; done) | (simp; omega)) _) | (with_reducible refine bel_alloc ?_ _) | (with_reducible refine bel_drew ?_) | (with_reducible refine bel_drewN ?_ _) | (with_reducible refine bel_trans ?_ (by with_reducible assumption))))⟩
          case measure => simp [intOf]; omega
        by_cases h3 : q = 3
        · subst h3
          have HF : Hid (okLog xs = false) := hide (okLog_go (by rw [hG, unhide hst, ho]; rfl))
          clear hG
          go_wp2_with (go_at_call 19; refine (implitm_any _ _ _ _ _ _).mono ?_; rintro e w' ⟨rfl, hb⟩; obtain ⟨hc, hf, hs⟩ := bcell hb)
          go_roundw
          case rel => exact ⟨k + 1, mk, false, by omega, rfl, by go_num, by go_num, Or.inr ⟨rfl, unhide HF⟩, (by repeat (first | (with_reducible exact Below.refl _ _) | (with_reducible assumption) | (with_reducible refine bel_set ?_ (by first | (simp; done) | (simp; omega)) _) | (with_reducible refine bel_alloc ?_ _) | (with_reducible refine bel_drew ?_) | (with_reducible refine bel_drewN ?_ _) | (with_reducible refine bel_trans ?_ (by with_reducible assumption))))⟩
          case measure => simp [intOf]; omega
        · have g3 : (q == 3) = false := by simpa using h3
          have g3' : (q != 3) = true := by simp [h3]
          have HG : Hid (logGo xs 0 = logGo (xs.drop (k + 1)) mk) := hide (by rw [hG, unhide hst, ho, g3, if_neg h2]; rfl)
          clear hG
          go_wp2_with (go_at_call 19; refine (implitm_any _ _ _ _ _ _).mono ?_; rintro e w' ⟨rfl, hb⟩; obtain ⟨hc, hf, hs⟩ := bcell hb)
          go_roundw
          case rel => exact ⟨k + 1, mk, true, by omega, rfl, by go_num, by go_num, Or.inl ⟨rfl, hL, unhide HG⟩, (by repeat (first | (with_reducible exact Below.refl _ _) | (with_reducible assumption) | (with_reducible refine bel_set ?_ (by first | (simp; done) | (simp; omega)) _) | (with_reducible refine bel_alloc ?_ _) | (with_reducible refine bel_drew ?_) | (with_reducible refine bel_drewN ?_ _) | (with_reducible refine bel_trans ?_ (by with_reducible assumption))))⟩
          case measure => simp [intOf]; omega
      · obtain rfl : k = (n + 1) := by omega
        rcases hR with ⟨rfl, hL, hG⟩ | ⟨rfl, hF⟩
        rotate_left
        · have HF := hide hF
          clear hF
          have VV := HF
          go_wp2_with (first | (go_at_call 20; (with_reducible refine (impllog_any _ _ _ endL _ (endL_its _ _)).mono ?_); rw [okLog_endL]; rintro e w' ⟨rfl, hb⟩; obtain ⟨hc, hf, hs⟩ := bcell hb) | (go_at_call 20; (with_reducible refine (impllog_any _ _ _ xs _ (hI.below (by repeat (first | (with_reducible exact Below.refl _ _) | (with_reducible assumption) | (with_reducible refine bel_set ?_ (by first | (simp; done) | (simp; omega)) _) | (with_reducible refine bel_alloc ?_ _) | (with_reducible refine bel_drew ?_) | (with_reducible refine bel_drewN ?_ _) | (with_reducible refine bel_trans ?_ (by with_reducible assumption)))))).mono ?_); rw [unhide VV]; rintro e w' ⟨rfl, hb⟩; obtain ⟨hc, hf, hs⟩ := bcell hb) | (go_at_call 21; (with_reducible refine (speclog_any _ _ _ xs _ (hI.below (by repeat (first | (with_reducible exact Below.refl _ _) | (with_reducible assumption) | (with_reducible refine bel_set ?_ (by first | (simp; done) | (simp; omega)) _) | (with_reducible refine bel_alloc ?_ _) | (with_reducible refine bel_drew ?_) | (with_reducible refine bel_drewN ?_ _) | (with_reducible refine bel_trans ?_ (by with_reducible assumption)))))).mono ?_); rw [unhide VV]; rintro e w' ⟨rfl, hb⟩; obtain ⟨hc, hf, hs⟩ := bcell hb))
          go_ret
          exact ⟨rfl, bel_trans hb1 (by repeat (first | (with_reducible exact Below.refl _ _) | (with_reducible assumption) | (with_reducible refine bel_set ?_ (by first | (simp; done) | (simp; omega)) _) | (with_reducible refine bel_alloc ?_ _) | (with_reducible refine bel_drew ?_) | (with_reducible refine bel_drewN ?_ _) | (with_reducible refine bel_trans ?_ (by with_reducible assumption))))⟩
        obtain ⟨hxl, hm9, hx⟩ := id hI
        have hgo : logGo xs 0 = true := by rw [hG, List.drop_of_length_le (by omega)]; rfl
        obtain ⟨g, o, rfl, hr⟩ := hx.resolve_left (by omega)
        have hg : g < w1.heap.size := hr.lt (by omega)
        obtain ⟨y, hy⟩ : ∃ y, xs[n]? = some y := ⟨_, List.getElem?_eq_getElem (by omega)⟩
        have HV := hide (okLog_end hxl hL hy hgo)
        obtain ⟨q, t, kk, v, nn⟩ := y
        obtain ⟨c0, c1, c2, c3, c4⟩ := ((hr n _ hy).below hbw hg).get
        have hgr : g < wr.heap.size := Nat.lt_of_lt_of_le hg hbw.size
        clear hx hr hy hgo hG
        by_cases e0 : q = 2
        · subst e0
          by_cases e1 : t = 1000
          · subst e1
            have HW : Hid (okLog xs = true) := hide (by rw [unhide HV]; rfl)
            have VV := HW
            go_wp2_with (first | (go_at_call 20; (with_reducible refine (impllog_any _ _ _ endL _ (endL_its _ _)).mono ?_); rw [okLog_endL]; rintro e w' ⟨rfl, hb⟩; obtain ⟨hc, hf, hs⟩ := bcell hb) | (go_at_call 20; (with_reducible refine (impllog_any _ _ _ xs _ (hI.below (by repeat (first | (with_reducible exact Below.refl _ _) | (with_reducible assumption) | (with_reducible refine bel_set ?_ (by first | (simp; done) | (simp; omega)) _) | (with_reducible refine bel_alloc ?_ _) | (with_reducible refine bel_drew ?_) | (with_reducible refine bel_drewN ?_ _) | (with_reducible refine bel_trans ?_ (by with_reducible assumption)))))).mono ?_); rw [unhide VV]; rintro e w' ⟨rfl, hb⟩; obtain ⟨hc, hf, hs⟩ := bcell hb) | (go_at_call 21; (with_reducible refine (speclog_any _ _ _ xs _ (hI.below (by repeat (first | (with_reducible exact Below.refl _ _) | (with_reducible assumption) | (with_reducible refine bel_set ?_ (by first | (simp; done) | (simp; omega)) _) | (with_reducible refine bel_alloc ?_ _) | (with_reducible refine bel_drew ?_) | (with_reducible refine bel_drewN ?_ _) | (with_reducible refine bel_trans ?_ (by with_reducible assumption)))))).mono ?_); rw [unhide VV]; rintro e w' ⟨rfl, hb⟩; obtain ⟨hc, hf, hs⟩ := bcell hb))
            go_ret
            exact ⟨rfl, bel_trans hb1 (by repeat (first | (with_reducible exact Below.refl _ _) | (with_reducible assumption) | (with_reducible refine bel_set ?_ (by first | (simp; done) | (simp; omega)) _) | (with_reducible refine bel_alloc ?_ _) | (with_reducible refine bel_drew ?_) | (with_reducible refine bel_drewN ?_ _) | (with_reducible refine bel_trans ?_ (by with_reducible assumption))))⟩
          · have e1' : (t == 1000) = false := by simpa using e1
            have HW : Hid (okLog xs = false) := hide (by rw [unhide HV]; simp [e1])
            have VV := HW
            go_wp2_with (first | (go_at_call 20; (with_reducible refine (impllog_any _ _ _ endL _ (endL_its _ _)).mono ?_); rw [okLog_endL]; rintro e w' ⟨rfl, hb⟩; obtain ⟨hc, hf, hs⟩ := bcell hb) | (go_at_call 20; (with_reducible refine (impllog_any _ _ _ xs _ (hI.below (by repeat (first | (with_reducible exact Below.refl _ _) | (with_reducible assumption) | (with_reducible refine bel_set ?_ (by first | (simp; done) | (simp; omega)) _) | (with_reducible refine bel_alloc ?_ _) | (with_reducible refine bel_drew ?_) | (with_reducible refine bel_drewN ?_ _) | (with_reducible refine bel_trans ?_ (by with_reducible assumption)))))).mono ?_); rw [unhide VV]; rintro e w' ⟨rfl, hb⟩; obtain ⟨hc, hf, hs⟩ := bcell hb) | (go_at_call 21; (with_reducible refine (speclog_any _ _ _ xs _ (hI.below (by repeat (first | (with_reducible exact Below.refl _ _) | (with_reducible assumption) | (with_reducible refine bel_set ?_ (by first | (simp; done) | (simp; omega)) _) | (with_reducible refine bel_alloc ?_ _) | (with_reducible refine bel_drew ?_) | (with_reducible refine bel_drewN ?_ _) | (with_reducible refine bel_trans ?_ (by with_reducible assumption)))))).mono ?_); rw [unhide VV]; rintro e w' ⟨rfl, hb⟩; obtain ⟨hc, hf, hs⟩ := bcell hb))
            go_ret
            exact ⟨rfl, bel_trans hb1 (by repeat (first | (with_reducible exact Below.refl _ _) | (with_reducible assumption) | (with_reducible refine bel_set ?_ (by first | (simp; done) | (simp; omega)) _) | (with_reducible refine bel_alloc ?_ _) | (with_reducible refine bel_drew ?_) | (with_reducible refine bel_drewN ?_ _) | (with_reducible refine bel_trans ?_ (by with_reducible assumption))))⟩
        · have e0' : (q == 2) = false := by simpa using e0
          have HW : Hid (okLog xs = false) := hide (by rw [unhide HV]; simp [e0])
          have VV := HW
          go_wp2_with (first | (go_at_call 20; (with_reducible refine (impllog_any _ _ _ endL _ (endL_its _ _)).mono ?_); rw [okLog_endL]; rintro e w' ⟨rfl, hb⟩; obtain ⟨hc, hf, hs⟩ := bcell hb) | (go_at_call 20; (with_reducible refine (impllog_any _ _ _ xs _ (hI.below (by repeat (first | (with_reducible exact Below.refl _ _) | (with_reducible assumption) | (with_reducible refine bel_set ?_ (by first | (simp; done) | (simp; omega)) _) | (with_reducible refine bel_alloc ?_ _) | (with_reducible refine bel_drew ?_) | (with_reducible refine bel_drewN ?_ _) | (with_reducible refine bel_trans ?_ (by with_reducible assumption)))))).mono ?_); rw [unhide VV]; rintro e w' ⟨rfl, hb⟩; obtain ⟨hc, hf, hs⟩ := bcell hb) | (go_at_call 21; (with_reducible refine (speclog_any _ _ _ xs _ (hI.below (by repeat (first | (with_reducible exact Below.refl _ _) | (with_reducible assumption) | (with_reducible refine bel_set ?_ (by first | (simp; done) | (simp; omega)) _) | (with_reducible refine bel_alloc ?_ _) | (with_reducible refine bel_drew ?_) | (with_reducible refine bel_drewN ?_ _) | (with_reducible refine bel_trans ?_ (by with_reducible assumption)))))).mono ?_); rw [unhide VV]; rintro e w' ⟨rfl, hb⟩; obtain ⟨hc, hf, hs⟩ := bcell hb))
          go_ret
          exact ⟨rfl, bel_trans hb1 (by repeat (first | (with_reducible exact Below.refl _ _) | (with_reducible assumption) | (with_reducible refine bel_set ?_ (by first | (simp; done) | (simp; omega)) _) | (with_reducible refine bel_alloc ?_ _) | (with_reducible refine bel_drew ?_) | (with_reducible refine bel_drewN ?_ _) | (with_reducible refine bel_trans ?_ (by with_reducible assumption))))⟩
  · have hxl0 := hI.1
    have HF0 : Hid (okLog xs = false) := hide (okLog_short (inB_ff (by omega)))
    have h40' : decide ((n : Int) + 1 ≤ 40) = false := decide_eq_false h40
    go_wp2
    go_loopw [4, 5, 6] (fun bv mv i wr => ∃ (k : Nat) (mk : Int) (b : Bool), k ≤ (n + 1) ∧ bv = .bool b ∧ i = .int .i64 k ∧ mv = .int .i64 mk ∧ LkR xs k mk b ∧ Below w1.heap.size w1 wr) (fun _ _ i _ => (n + 1) - (intOf i).toNat)
    case atStart => exact ⟨0, 0, false, Nat.zero_le _, rfl, rfl, rfl, Or.inr ⟨rfl, unhide HF0⟩, (by repeat (first | (with_reducible exact Below.refl _ _) | (with_reducible assumption) | (with_reducible refine bel_set ?_ (by first | (simp; done) | (simp; omega)) _) | (with_reducible refine bel_alloc ?_ _) | (with_reducible refine bel_drew ?_) | (with_reducible refine bel_drewN ?_ _) | (with_reducible refine bel_trans ?_ (by with_reducible assumption))))⟩
    case round =>
      obtain ⟨k, mk, b, hk, rfl, rfl, rfl, hR, hbw⟩ := hrel
      by_cases hlt : k < (n + 1)
      · obtain ⟨hxl, _, hx⟩ := hI
        obtain ⟨g, o, rfl, hr⟩ := hx.resolve_left (by omega)
        have hg : g < w1.heap.size := hr.lt (by omega)
        obtain ⟨x, hxk⟩ : ∃ x, xs[k]? = some x := ⟨_, List.getElem?_eq_getElem (by omega)⟩
        obtain ⟨q, t, kk, v, nn⟩ := x
        obtain ⟨d0, d1, d2, d3, d4⟩ := ((hr k _ hxk).below hbw hg).get
        have hgr : g < wr.heap.size := Nat.lt_of_lt_of_le hg hbw.size
        have hst := hide (logGo_drop hxk mk)
        clear hxk hx hr
        by_cases h2 : q = 2
        · subst h2
          by_cases h4 : mk < t
          · skip
            obtain ⟨rfl, hF⟩ := hR.resolve_left (fun h => absurd h.2.1 (by omega))
            go_wp2
            go_roundw
            case rel => exact ⟨k + 1, t, false, by omega, rfl, by go_num, by go_num, Or.inr ⟨rfl, hF⟩, (by repeat (first | (with_reducible exact Below.refl _ _) | (with_reducible assumption) | (with_reducible refine bel_set ?_ (by first | (simp; done) | (simp; omega)) _) | (with_reducible refine bel_alloc ?_ _) | (with_reducible refine bel_drew ?_) | (with_reducible refine bel_drewN ?_ _) | (with_reducible refine bel_trans ?_ (by with_reducible assumption))))⟩
            case measure => simp [intOf]; omega
          · have h4' : decide (mk < t) = false := decide_eq_false h4
            obtain ⟨rfl, hF⟩ := hR.resolve_left (fun h => absurd h.2.1 (by omega))
            go_wp2
            go_roundw
            case rel => exact ⟨k + 1, mk, false, by omega, rfl, by go_num, by go_num, Or.inr ⟨rfl, hF⟩, (by repeat (first | (with_reducible exact Below.refl _ _) | (with_reducible assumption) | (with_reducible refine bel_set ?_ (by first | (simp; done) | (simp; omega)) _) | (with_reducible refine bel_alloc ?_ _) | (with_reducible refine bel_drew ?_) | (with_reducible refine bel_drewN ?_ _) | (with_reducible refine bel_trans ?_ (by with_reducible assumption))))⟩
            case measure => simp [intOf]; omega
        have g2 : (q == 2) = false := by simpa using h2
        obtain ⟨rfl, hF⟩ := hR.resolve_left (fun h => absurd h.2.1 (by omega))
        go_wp2
        go_roundw
        case rel => exact ⟨k + 1, mk, false, by omega, rfl, by go_num, by go_num, Or.inr ⟨rfl, hF⟩, (by repeat (first | (with_reducible exact Below.refl _ _) | (with_reducible assumption) | (with_reducible refine bel_set ?_ (by first | (simp; done) | (simp; omega)) _) | (with_reducible refine bel_alloc ?_ _) | (with_reducible refine bel_drew ?_) | (with_reducible refine bel_drewN ?_ _) | (with_reducible refine bel_trans ?_ (by with_reducible assumption))))⟩
        case measure => simp [intOf]; omega
      · obtain rfl : k = (n + 1) := by omega
        rcases hR with ⟨rfl, hL, hG⟩ | ⟨rfl, hF⟩
        rotate_left
        · have HF := hide hF
          clear hF
          have VV := HF
          go_wp2_with (first | (go_at_call 20; (with_reducible refine (impllog_any _ _ _ endL _ (endL_its _ _)).mono ?_); rw [okLog_endL]; rintro e w' ⟨rfl, hb⟩; obtain ⟨hc, hf, hs⟩ := bcell hb) | (go_at_call 20; (with_reducible refine (impllog_any _ _ _ xs _ (hI.below (by repeat (first | (with_reducible exact Below.refl _ _) | (with_reducible assumption) | (with_reducible refine bel_set ?_ (by first | (simp; done) | (simp; omega)) _) | (with_reducible refine bel_alloc ?_ _) | (with_reducible refine bel_drew ?_) | (with_reducible refine bel_drewN ?_ _) | (with_reducible refine bel_trans ?_ (by with_reducible assumption)))))).mono ?_); rw [unhide VV]; rintro e w' ⟨rfl, hb⟩; obtain ⟨hc, hf, hs⟩ := bcell hb) | (go_at_call 21; (with_reducible refine (speclog_any _ _ _ xs _ (hI.below (by repeat (first | (with_reducible exact Below.refl _ _) | (with_reducible assumption) | (with_reducible refine bel_set ?_ (by first | (simp; done) | (simp; omega)) _) | (with_reducible refine bel_alloc ?_ _) | (with_reducible refine bel_drew ?_) | (with_reducible refine bel_drewN ?_ _) | (with_reducible refine bel_trans ?_ (by with_reducible assumption)))))).mono ?_); rw [unhide VV]; rintro e w' ⟨rfl, hb⟩; obtain ⟨hc, hf, hs⟩ := bcell hb))
          go_ret
          exact ⟨rfl, bel_trans hb1 (by repeat (first | (with_reducible exact Below.refl _ _) | (with_reducible assumption) | (with_reducible refine bel_set ?_ (by first | (simp; done) | (simp; omega)) _) | (with_reducible refine bel_alloc ?_ _) | (with_reducible refine bel_drew ?_) | (with_reducible refine bel_drewN ?_ _) | (with_reducible refine bel_trans ?_ (by with_reducible assumption))))⟩
        exact absurd hL (by omega)
end Go.Proofs.Ythdfljankoffiaa
