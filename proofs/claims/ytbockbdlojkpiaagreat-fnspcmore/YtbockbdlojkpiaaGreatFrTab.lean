/- Proved here: the law's own look at two lists of rows. -/
import Derived.Test.YtbockbdlojkpiaaGreatTabSame
import Derived.BigQuiet
namespace Go.Proofs.YtbockbdlojkpiaaGreat
open Go.ChangeShapes Go.WideShapes Go.ChangeAt Go.RowKit
set_option linter.unusedVariables false


set_option maxRecDepth 20000 in
set_option maxHeartbeats 2000000 in
theorem frtab_any (a1 a2 : Option Addr) (len1 cap1 len2 cap2 : Nat) (xs ys : List TbR) (w : World) (h : TbRs w a1 len1 xs) (h' : TbRs w a2 len2 ys) : Calls Tryz.prog 9 #[.slice a1 len1 cap1, .slice a2 len2 cap2] w fun e w' => e = .returned (.bool (sameT xs ys)) ∧ Below w.heap.size w w' := by
  have hm := h.2.1
  have hm' := h'.2.1
  unfold maxLen at hm hm'
  by_cases hll : len1 = len2
  case neg =>
    have HV := hide (sameT_ne (xs := xs) (ys := ys) (by have := h.1; have := h'.1; omega))
    have hl1 : ((len1 : Int) == (len2 : Int)) = false := by simp; omega
    have hl2 : ¬ (len1 : Int) = (len2 : Int) := by omega
    go_enter Tryz.func9, Tryz.ntmps9
    go_wp2
    go_ret
    exact ⟨ret_b (unhide HV).symm, (by repeat (first | (with_reducible exact Below.refl _ _) | (with_reducible assumption) | (with_reducible refine bel_set ?_ (by first | (simp; done) | (simp; omega)) _) | (with_reducible refine bel_alloc ?_ _) | (with_reducible refine bel_drew ?_) | (with_reducible refine bel_drewN ?_ _) | (with_reducible refine bel_trans ?_ (by with_reducible assumption))))⟩
  subst hll
  go_enter Tryz.func9, Tryz.ntmps9
  go_wp2
  go_loopw [5] (fun i wr => ∃ k : Nat, k ≤ len1 ∧ i = .int .i64 k ∧ Hid (∀ j, j < k → ∀ x y, xs[j]? = some x → ys[j]? = some y → eqR x y = true) ∧ Below w.heap.size w wr) (fun i _ => len1 - (intOf i).toNat)
  case atStart => exact ⟨0, Nat.zero_le _, rfl, hide (fun j hj => absurd hj (by omega)), Below.refl _ _⟩
  case round =>
    obtain ⟨k, hk, rfl, HN, hbw⟩ := hrel
    by_cases hlt : k < len1
    · obtain ⟨hxl, _, hx⟩ := h
      obtain ⟨hyl, _, hy⟩ := h'
      obtain ⟨g, o, rfl, hr⟩ := hx.resolve_left (by omega)
      obtain ⟨g', o', rfl, hr'⟩ := hy.resolve_left (by omega)
      obtain ⟨x, hxk⟩ : ∃ x, xs[k]? = some x := ⟨_, List.getElem?_eq_getElem (by omega)⟩
      obtain ⟨y, hyk⟩ : ∃ y, ys[k]? = some y := ⟨_, List.getElem?_eq_getElem (by omega)⟩
      have hg : g < w.heap.size := hr.lt (by omega)
      have hg' : g' < w.heap.size := hr'.lt (by omega)
      have hX := hide hxk
      have hY := hide hyk
      obtain ⟨d0, d1, d2, d3, d4, d5, d6⟩ := (hr k _ hxk).below hbw hg
      obtain ⟨e0, e1, e2, e3, e4, e5, e6⟩ := (hr' k _ hyk).below hbw hg'
      clear hx hxk hr hy hyk hr'
      by_cases k0 : x.ky = y.ky
      case neg =>
        have k0' : (x.ky == y.ky) = false := by simpa using k0
        have HV := hide (sameT_hit (unhide hX) (unhide hY) (show eqR x y = false by simp [eqR, k0]))
        go_wp2
        go_quiet (fail)
        go_wp2
        go_ret
        exact ⟨ret_b (unhide HV).symm, (by repeat (first | (with_reducible exact Below.refl _ _) | (with_reducible assumption) | (with_reducible refine bel_set ?_ (by first | (simp; done) | (simp; omega)) _) | (with_reducible refine bel_alloc ?_ _) | (with_reducible refine bel_drew ?_) | (with_reducible refine bel_drewN ?_ _) | (with_reducible refine bel_trans ?_ (by with_reducible assumption))))⟩
      by_cases k1 : x.st = y.st
      case neg =>
        have k1' : (x.st == y.st) = false := by simpa using k1
        have HV := hide (sameT_hit (unhide hX) (unhide hY) (show eqR x y = false by simp [eqR, k1]))
        go_wp2
        go_quiet (fail)
        go_wp2
        go_ret
        exact ⟨ret_b (unhide HV).symm, (by repeat (first | (with_reducible exact Below.refl _ _) | (with_reducible assumption) | (with_reducible refine bel_set ?_ (by first | (simp; done) | (simp; omega)) _) | (with_reducible refine bel_alloc ?_ _) | (with_reducible refine bel_drew ?_) | (with_reducible refine bel_drewN ?_ _) | (with_reducible refine bel_trans ?_ (by with_reducible assumption))))⟩
      by_cases k2 : x.en = y.en
      case neg =>
        have k2' : (x.en == y.en) = false := by simpa using k2
        have HV := hide (sameT_hit (unhide hX) (unhide hY) (show eqR x y = false by simp [eqR, k2]))
        go_wp2
        go_quiet (fail)
        go_wp2
        go_ret
        exact ⟨ret_b (unhide HV).symm, (by repeat (first | (with_reducible exact Below.refl _ _) | (with_reducible assumption) | (with_reducible refine bel_set ?_ (by first | (simp; done) | (simp; omega)) _) | (with_reducible refine bel_alloc ?_ _) | (with_reducible refine bel_drew ?_) | (with_reducible refine bel_drewN ?_ _) | (with_reducible refine bel_trans ?_ (by with_reducible assumption))))⟩
      by_cases k3 : x.n = y.n
      case neg =>
        have k3' : (x.n == y.n) = false := by simpa using k3
        have HV := hide (sameT_hit (unhide hX) (unhide hY) (show eqR x y = false by simp [eqR, k3]))
        go_wp2
        go_quiet (fail)
        go_wp2
        go_ret
        exact ⟨ret_b (unhide HV).symm, (by repeat (first | (with_reducible exact Below.refl _ _) | (with_reducible assumption) | (with_reducible refine bel_set ?_ (by first | (simp; done) | (simp; omega)) _) | (with_reducible refine bel_alloc ?_ _) | (with_reducible refine bel_drew ?_) | (with_reducible refine bel_drewN ?_ _) | (with_reducible refine bel_trans ?_ (by with_reducible assumption))))⟩
      by_cases k4 : x.su = y.su
      case neg =>
        have k4' : (x.su == y.su) = false := by simpa using k4
        have HV := hide (sameT_hit (unhide hX) (unhide hY) (show eqR x y = false by simp [eqR, k4]))
        go_wp2
        go_quiet (fail)
        go_wp2
        go_ret
        exact ⟨ret_b (unhide HV).symm, (by repeat (first | (with_reducible exact Below.refl _ _) | (with_reducible assumption) | (with_reducible refine bel_set ?_ (by first | (simp; done) | (simp; omega)) _) | (with_reducible refine bel_alloc ?_ _) | (with_reducible refine bel_drew ?_) | (with_reducible refine bel_drewN ?_ _) | (with_reducible refine bel_trans ?_ (by with_reducible assumption))))⟩
      by_cases k5 : x.le = y.le
      case neg =>
        have k5' : (x.le == y.le) = false := by simpa using k5
        have HV := hide (sameT_hit (unhide hX) (unhide hY) (show eqR x y = false by simp [eqR, k5]))
        go_wp2
        go_quiet (fail)
        go_wp2
        go_ret
        exact ⟨ret_b (unhide HV).symm, (by repeat (first | (with_reducible exact Below.refl _ _) | (with_reducible assumption) | (with_reducible refine bel_set ?_ (by first | (simp; done) | (simp; omega)) _) | (with_reducible refine bel_alloc ?_ _) | (with_reducible refine bel_drew ?_) | (with_reducible refine bel_drewN ?_ _) | (with_reducible refine bel_trans ?_ (by with_reducible assumption))))⟩
      by_cases k6 : x.mo = y.mo
      case neg =>
        have k6' : (x.mo == y.mo) = false := by simpa using k6
        have HV := hide (sameT_hit (unhide hX) (unhide hY) (show eqR x y = false by simp [eqR, k6]))
        go_wp2
        go_quiet (fail)
        go_wp2
        go_ret
        exact ⟨ret_b (unhide HV).symm, (by repeat (first | (with_reducible exact Below.refl _ _) | (with_reducible assumption) | (with_reducible refine bel_set ?_ (by first | (simp; done) | (simp; omega)) _) | (with_reducible refine bel_alloc ?_ _) | (with_reducible refine bel_drew ?_) | (with_reducible refine bel_drewN ?_ _) | (with_reducible refine bel_trans ?_ (by with_reducible assumption))))⟩
      have HN2 := hide (pre_step (unhide hX) (unhide hY) (show eqR x y = true by simp [eqR, k0, k1, k2, k3, k4, k5, k6]) (unhide HN))
      go_wp2
      go_quiet (fail)
      go_wp2
      go_roundw
      case rel => exact ⟨k + 1, by omega, by go_num, HN2, (by repeat (first | (with_reducible exact Below.refl _ _) | (with_reducible assumption) | (with_reducible refine bel_set ?_ (by first | (simp; done) | (simp; omega)) _) | (with_reducible refine bel_alloc ?_ _) | (with_reducible refine bel_drew ?_) | (with_reducible refine bel_drewN ?_ _) | (with_reducible refine bel_trans ?_ (by with_reducible assumption))))⟩
      case measure => simp [intOf]; omega
    · have HV := hide (sameT_end (by have := h.1; have := h'.1; omega) (by have := h.1; omega) (unhide HN))
      go_wp2
      go_ret
      exact ⟨ret_b (unhide HV).symm, hbw⟩
end Go.Proofs.YtbockbdlojkpiaaGreat
