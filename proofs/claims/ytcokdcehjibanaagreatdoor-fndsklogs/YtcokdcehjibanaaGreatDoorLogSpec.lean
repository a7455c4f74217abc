/- Proved here: what the specification says of a log. -/
import Derived.Test.YtcokdcehjibanaaGreatDoorLogEq
namespace Go.Proofs.YtcokdcehjibanaaGreatDoor
open Go.ChangeShapes Go.WideShapes Go.ChangeAt Go.RowKit
set_option linter.unusedVariables false

/-- Whether an item is ok. -/
def It.okB (x : It) : Bool := okItm x.q x.t x.k x.v x.n
/-- Whether the end of a log is one, behind a mark. -/
def logGo : List It → Int → Bool
  | [], _ => true
  | x :: r, m => x.okB && !(x.q == 3) && (if x.q = 2 then decide (m < x.t) && logGo r x.t else logGo r m)
/-- Whether an item is the mark of the end. -/
def It.endB (x : It) : Bool := x.q == 2 && x.t == 1000 && x.k == 0 && x.v == 0 && x.n == 0
/-- Whether items are a log. -/
def okLog (xs : List It) : Bool := inB xs.length 1 40 && (match xs.getLast? with | some x => x.endB | none => false) && logGo xs 0

theorem specItm_it (x : It) (w : World) : Calls Tryz.prog 40 #[.agg #[.int .i64 x.q, .int .i64 x.t, .int .i64 x.k, .int .i64 x.v, .int .i64 x.n]] w fun e w' => e = .returned (.bool x.okB) ∧ Below w.heap.size w w' := specitm_any x.q x.t x.k x.v x.n w

theorem logGo_drop {xs : List It} {k : Nat} {q t kk v nn : Int} (h : xs[k]? = some ⟨q, t, kk, v, nn⟩) (m : Int) : logGo (xs.drop k) m = (okItm q t kk v nn && !(q == 3) && (if q = 2 then decide (m < t) && logGo (xs.drop (k + 1)) t else logGo (xs.drop (k + 1)) m)) := by
  obtain ⟨hk, he⟩ := List.getElem?_eq_some_iff.1 h
  rw [List.drop_eq_getElem_cons hk, he]
  rfl

set_option maxHeartbeats 1000000 in
theorem speclog_any (a : Option Addr) (len cap : Nat) (xs : List It) (w : World) (h : Its w a len xs) : Calls Tryz.prog 24 #[.slice a len cap] w fun e w' => e = .returned (.bool (okLog xs)) ∧ Below w.heap.size w w' := by
  have hm := h.2.1
  unfold maxLen at hm
  cases hin : inB (len : Int) 1 40
  · have hq : Hid (okLog xs = false) := hide (by have := h.1; subst this; simp [okLog, hin])
    go_enter Tryz.func24, Tryz.ntmps24
    go_wp2_with (go_at_call 39; refine (l1In_any _ _ _ _).mono ?_; rintro e w' ⟨rfl, hw⟩; obtain rfl := hw.symm)
    go_ret
    exact ⟨ret_b (unhide hq).symm, Below.refl _ _⟩
  · obtain ⟨hb1, hb2⟩ := inB_iff.1 hin
    obtain ⟨n, rfl⟩ : ∃ n, len = n + 1 := ⟨len - 1, by omega⟩
    obtain ⟨hxl, _, hx⟩ := h
    obtain ⟨g, o, rfl, hr⟩ := hx.resolve_left (by omega)
    obtain ⟨y, hy⟩ : ∃ y, xs[n]? = some y := ⟨_, List.getElem?_eq_getElem (by omega)⟩
    have hg : g < w.heap.size := hr.lt (by omega)
    obtain ⟨c0, c1, c2, c3, c4⟩ := hr n _ hy
    clear hx
    have hlast : xs.getLast? = some y := by rw [List.getLast?_eq_getElem?]; simpa [hxl] using hy
    have H0 : Hid (okLog xs = (y.endB && logGo xs 0)) := hide (by unfold okLog; rw [hlast, hxl, hin]; rfl)
    have H1 : Hid (inB ((n : Int) + 1) 1 40 = true) := hide (by have := hin; simpa using this)
    clear hlast hy hin
    by_cases e0 : y.q = 2
    case neg =>
      have hq : Hid (okLog xs = false) := hide (by rw [unhide H0]; simp [It.endB, e0])
      have h7 := unhide H1
      go_enter Tryz.func24, Tryz.ntmps24
      go_wp2_with (go_at_call 39; refine (l1In_any _ _ _ _).mono ?_; rintro e w' ⟨rfl, hw⟩; obtain rfl := hw.symm)
      go_ret
      exact ⟨ret_b (unhide hq).symm, Below.refl _ _⟩
    by_cases e1 : y.t = 1000
    case neg =>
      have hq : Hid (okLog xs = false) := hide (by rw [unhide H0]; simp [It.endB, e0, e1])
      have h7 := unhide H1
      go_enter Tryz.func24, Tryz.ntmps24
      go_wp2_with (go_at_call 39; refine (l1In_any _ _ _ _).mono ?_; rintro e w' ⟨rfl, hw⟩; obtain rfl := hw.symm)
      go_ret
      exact ⟨ret_b (unhide hq).symm, Below.refl _ _⟩
    by_cases e2 : y.k = 0
    case neg =>
      have hq : Hid (okLog xs = false) := hide (by rw [unhide H0]; simp [It.endB, e0, e1, e2])
      have h7 := unhide H1
      go_enter Tryz.func24, Tryz.ntmps24
      go_wp2_with (go_at_call 39; refine (l1In_any _ _ _ _).mono ?_; rintro e w' ⟨rfl, hw⟩; obtain rfl := hw.symm)
      go_ret
      exact ⟨ret_b (unhide hq).symm, Below.refl _ _⟩
    by_cases e3 : y.v = 0
    case neg =>
      have hq : Hid (okLog xs = false) := hide (by rw [unhide H0]; simp [It.endB, e0, e1, e2, e3])
      have h7 := unhide H1
      go_enter Tryz.func24, Tryz.ntmps24
      go_wp2_with (go_at_call 39; refine (l1In_any _ _ _ _).mono ?_; rintro e w' ⟨rfl, hw⟩; obtain rfl := hw.symm)
      go_ret
      exact ⟨ret_b (unhide hq).symm, Below.refl _ _⟩
    by_cases e4 : y.n = 0
    case neg =>
      have hq : Hid (okLog xs = false) := hide (by rw [unhide H0]; simp [It.endB, e0, e1, e2, e3, e4])
      have h7 := unhide H1
      go_enter Tryz.func24, Tryz.ntmps24
      go_wp2_with (go_at_call 39; refine (l1In_any _ _ _ _).mono ?_; rintro e w' ⟨rfl, hw⟩; obtain rfl := hw.symm)
      go_ret
      exact ⟨ret_b (unhide hq).symm, Below.refl _ _⟩
    have HL : Hid (okLog xs = logGo xs 0) := hide (by rw [unhide H0]; simp [It.endB, e0, e1, e2, e3, e4])
    have h7 := unhide H1
    go_enter Tryz.func24, Tryz.ntmps24
    go_wp2_with (go_at_call 39; refine (l1In_any _ _ _ _).mono ?_; rintro e w' ⟨rfl, hw⟩; obtain rfl := hw.symm)
    go_loopw [3, 4] (fun m i wr => ∃ (k : Nat) (mk : Int), k ≤ n + 1 ∧ i = .int .i64 k ∧ m = .int .i64 mk ∧ Hid (logGo xs 0 = logGo (xs.drop k) mk) ∧ Below w.heap.size w wr) (fun _ i _ => n + 1 - (intOf i).toNat)
    case atStart => exact ⟨0, 0, Nat.zero_le _, rfl, rfl, hide (by rw [List.drop_zero]), Below.refl _ _⟩
    case round =>
      obtain ⟨k, mk, hk, rfl, rfl, hlg, hbw⟩ := hrel
      by_cases hlt : k < n + 1
      · obtain ⟨x, hxk⟩ : ∃ x, xs[k]? = some x := ⟨_, List.getElem?_eq_getElem (by omega)⟩
        obtain ⟨q, t, kk, v, nn⟩ := x
        obtain ⟨d0, d1, d2, d3, d4⟩ := ((hr k _ hxk).below hbw hg).get
        have hgr : g < wr.heap.size := Nat.lt_of_lt_of_le hg hbw.size
        have hst := hide (logGo_drop hxk mk)
        clear hxk c0 c1 c2 c3 c4 e0 e1 e2 e3 e4
        cases ho : okItm q t kk v nn
        · have hq : Hid (okLog xs = false) := hide (by rw [unhide HL, unhide hlg, unhide hst, ho]; rfl)
          go_wp2_with (go_at_call 40; refine (specitm_any _ _ _ _ _ _).mono ?_; rintro e w' ⟨rfl, hb⟩; obtain ⟨hc, hf, hs⟩ := bcell hb)
          go_ret
          exact ⟨ret_b (unhide hq).symm, bel_trans hbw hb⟩
        by_cases h3 : q = 3
        · subst h3
          have hq : Hid (okLog xs = false) := hide (by rw [unhide HL, unhide hlg, unhide hst, ho]; rfl)
          go_wp2_with (go_at_call 40; refine (specitm_any _ _ _ _ _ _).mono ?_; rintro e w' ⟨rfl, hb⟩; obtain ⟨hc, hf, hs⟩ := bcell hb)
          go_ret
          exact ⟨ret_b (unhide hq).symm, bel_trans hbw hb⟩
        have g3 : (q == 3) = false := by simpa using h3
        by_cases h2 : q = 2
        · subst h2
          clear h3 g3
          by_cases h4 : t ≤ mk
          · have hq : Hid (okLog xs = false) := hide (by rw [unhide HL, unhide hlg, unhide hst, ho, if_pos rfl, decide_eq_false (by omega)]; rfl)
            go_wp2_with (go_at_call 40; refine (specitm_any _ _ _ _ _ _).mono ?_; rintro e w' ⟨rfl, hb⟩; obtain ⟨hc, hf, hs⟩ := bcell hb)
            go_ret
            exact ⟨ret_b (unhide hq).symm, bel_trans hbw hb⟩
          · have hq : Hid (logGo xs 0 = logGo (xs.drop (k + 1)) t) := hide (by rw [unhide hlg, unhide hst, ho, if_pos rfl, decide_eq_true (by omega)]; rfl)
            go_wp2_with (go_at_call 40; refine (specitm_any _ _ _ _ _ _).mono ?_; rintro e w' ⟨rfl, hb⟩; obtain ⟨hc, hf, hs⟩ := bcell hb)
            go_roundw
            case rel => exact ⟨k + 1, t, by omega, by go_num, rfl, hq, bel_trans hbw hb⟩
            case measure => simp [intOf]; omega
        · have hq : Hid (logGo xs 0 = logGo (xs.drop (k + 1)) mk) := hide (by rw [unhide hlg, unhide hst, ho, g3, if_neg h2]; rfl)
          have g2 : (q == 2) = false := by simpa using h2
          clear h2 h3
          go_wp2_with (go_at_call 40; refine (specitm_any _ _ _ _ _ _).mono ?_; rintro e w' ⟨rfl, hb⟩; obtain ⟨hc, hf, hs⟩ := bcell hb)
          go_roundw
          case rel => exact ⟨k + 1, mk, by omega, by go_num, rfl, hq, bel_trans hbw hb⟩
          case measure => simp [intOf]; omega
      · have hq : Hid (okLog xs = true) := hide (by rw [unhide HL, unhide hlg, List.drop_of_length_le (by omega)]; rfl)
        go_wp2
        go_ret
        exact ⟨ret_b (unhide hq).symm, hbw⟩

end Go.Proofs.YtcokdcehjibanaaGreatDoor
