/- Proved here: the law on LogRecs returns true at every code. -/
import Derived.Test.YthdfljankoffiaaLogDraw
import Derived.Test.YthdfljankoffiaaRecsImpl
import Derived.Test.YthdfljankoffiaaFrOk
namespace Go.Proofs.Ythdfljankoffiaa
open Go.ChangeShapes Go.WideShapes Go.ChangeAt Go.RowKit
set_option linter.unusedVariables false

set_option maxRecDepth 20000 in
set_option maxHeartbeats 1000000 in
theorem frits_any (a1 a2 : Option Addr) (len cap1 cap2 : Nat) (xs : List It) (w : World) (h1 : Its w a1 len xs) (h2 : Its w a2 len xs) : Calls Try.prog 9 #[.slice a1 len cap1, .slice a2 len cap2] w fun e w' => e = .returned (.bool true) ∧ Below w.heap.size w w' := by
  have hm := h1.2.1
  unfold maxLen at hm
  go_enter Try.func9, Try.ntmps9
  go_wp2
  go_loopw [5] (fun i wr => ∃ k : Nat, k ≤ len ∧ i = .int .i64 k ∧ Below w.heap.size w wr) (fun i _ => len - (intOf i).toNat)
  case atStart => exact ⟨0, Nat.zero_le _, rfl, Below.refl _ _⟩
  case round =>
    obtain ⟨k, hk, rfl, hbw⟩ := hrel
    by_cases hlt : k < len
    · obtain ⟨hl1, _, hx1⟩ := h1
      obtain ⟨hl2, _, hx2⟩ := h2
      obtain ⟨g1, o1, rfl, hr1⟩ := hx1.resolve_left (by omega)
      obtain ⟨g2, o2, rfl, hr2⟩ := hx2.resolve_left (by omega)
      obtain ⟨x, hxk⟩ : ∃ x, xs[k]? = some x := ⟨_, List.getElem?_eq_getElem (by omega)⟩
      have hg1 : g1 < w.heap.size := hr1.lt (by omega)
      have hg2 : g2 < w.heap.size := hr2.lt (by omega)
      have hltI : (k : Int) < (len : Int) := by omega
      obtain ⟨c0, c1, c2, c3, c4⟩ := (hr1 k _ hxk).below hbw hg1
      obtain ⟨d0, d1, d2, d3, d4⟩ := (hr2 k _ hxk).below hbw hg2
      clear hx1 hx2 hxk hr1 hr2
      go_wp2_with fail
      go_quiet (fail)
      go_wp2
      go_roundw
      case rel => exact ⟨k + 1, by omega, by go_num, (by repeat (first | (with_reducible exact Below.refl _ _) | (with_reducible assumption) | (with_reducible refine bel_set ?_ (by first | (simp; done) | (simp; omega)) _) | (with_reducible refine bel_alloc ?_ _) | (with_reducible refine bel_drew ?_) | (with_reducible refine bel_drewN ?_ _) | (with_reducible refine bel_trans ?_ (by with_reducible assumption))))⟩
      case measure => simp [intOf]; omega
    · go_wp2
      go_ret
      exact ⟨rfl, hbw⟩


theorem recs_recs (least : Int) (xs : List It) : recs least (recs least xs) = recs least xs := by simp [recs]
theorem recs_less (least : Int) (xs : List It) : (recs least xs).length ≤ (recs (least - 1) xs).length := by
  induction xs with
  | nil => simp [recs]
  | cons x r ih =>
    have h1 : recs least (x :: r) = if isRec least x = true then x :: recs least r else recs least r := by simp only [recs, List.filter_cons]
    have h2 : recs (least - 1) (x :: r) = if isRec (least - 1) x = true then x :: recs (least - 1) r else recs (least - 1) r := by simp only [recs, List.filter_cons]
    rw [h1, h2]
    by_cases ha : isRec least x = true
    · have hb : isRec (least - 1) x = true := by simp [isRec] at ha ⊢; omega
      rw [if_pos ha, if_pos hb]; simp; exact ih
    · rw [if_neg ha]
      split
      · simp; omega
      · exact ih
theorem recs_at {least : Int} {xs : List It} {k : Nat} {x : It} (h : xs[k]? = some x) (hr : isRec least x = true) : (recs least xs)[(recs least (xs.take k)).length]? = some x := by
  have h1 : xs = xs.take (k + 1) ++ xs.drop (k + 1) := (List.take_append_drop _ _).symm
  have h2 : recs least xs = recs least (xs.take k) ++ [x] ++ recs least (xs.drop (k + 1)) := by
    conv => lhs; rw [h1]
    show (xs.take (k + 1) ++ xs.drop (k + 1)).filter _ = _
    rw [List.filter_append]
    show recs least (xs.take (k + 1)) ++ _ = _
    rw [recs_take h, if_pos hr]
    rfl
  rw [h2, List.append_assoc, List.getElem?_append_right (Nat.le_refl _)]
  simp
theorem recs_part {least : Int} {xs : List It} {k : Nat} : (recs least (xs.take k)).length ≤ (recs least xs).length := by
  have h1 : xs = xs.take k ++ xs.drop k := (List.take_append_drop _ _).symm
  conv => rhs; rw [h1]
  show _ ≤ ((xs.take k ++ xs.drop k).filter _).length
  rw [List.filter_append, List.length_append]
  exact Nat.le_add_right _ _

set_option maxRecDepth 20000 in
set_option maxHeartbeats 4000000 in
theorem lawLogRecs (a : Option Addr) (len cap : Nat) (w : World) (hlc : len ≤ cap) (hmx : len ≤ maxLen) (hb : BytesAt w a len) (hl : ∀ g o, a = some ⟨g, o, none⟩ → 0 < len → g < w.heap.size) (hn : a = none → cap = 0) : Calls Try.prog 6 #[.slice a len cap] w fun e w' => e = .returned (.bool true) ∧ Below w.heap.size w w' := by
  unfold maxLen at hmx
  by_cases hlen : (len : Int) ≤ 1048576
  rotate_left
  · go_enter Try.func6, Try.ntmps6
    go_wp2
    go_ret
    exact ⟨rfl, Below.refl _ _⟩
  have hd := hide (drawlogrecs_any a len cap w hlc (by omega) hb hl hn)
  clear hb hl hn
  go_enter Try.func6, Try.ntmps6
  go_wp2_with fail
  refine (unhide hd).mono ?_
  rintro e w1 ⟨a1, cap1, xs, least, rfl, hI, hxl, ⟨hl1, hl2⟩, hb1⟩
  clear hd
  go_wp2_with fail
  refine (implrecs_any _ _ _ least xs _ hI (by omega)).mono ?_
  rintro e w2 ⟨v2, rfl, hO2, hb2⟩
  have hrl := recs_le least xs
  obtain ⟨a2, cap2, rfl, hX⟩ := own_its hO2 (by unfold maxLen; omega)
  clear hO2
  replace hI := hI.below hb2
  go_wp2_with fail
  refine (specrecs_any _ _ _ least xs _ hI (by omega)).mono ?_
  rintro e w3 ⟨v3, rfl, hO3, hb3⟩
  obtain ⟨a3, cap3, rfl, hY⟩ := own_its hO3 (by unfold maxLen; omega)
  clear hO3
  replace hI := hI.below hb3
  replace hX := hX.below hb3
  go_wp2_with fail
  refine (frits_any _ _ _ _ _ (recs least xs) _ hX hY).mono ?_
  rintro e w4 ⟨rfl, hb4⟩
  replace hI := hI.below hb4
  replace hX := hX.below hb4
  clear hY
  have hb0 : Below w.heap.size w w4 := (by repeat (first | (with_reducible exact Below.refl _ _) | (with_reducible assumption) | (with_reducible refine bel_set ?_ (by first | (simp; done) | (simp; omega)) _) | (with_reducible refine bel_alloc ?_ _) | (with_reducible refine bel_drew ?_) | (with_reducible refine bel_drewN ?_ _) | (with_reducible refine bel_trans ?_ (by with_reducible assumption))))
  go_wp2
  go_loopw [6, 7] (fun nv i wr => ∃ k : Nat, k ≤ xs.length ∧ i = .int .i64 k ∧ nv = .int .i64 ((recs least (xs.take k)).length : Nat) ∧ Below w4.heap.size w4 wr) (fun _ i _ => xs.length - (intOf i).toNat)
  case atStart => exact ⟨0, Nat.zero_le _, rfl, rfl, Below.refl _ _⟩
  case round =>
    obtain ⟨k, hk, rfl, rfl, hbw⟩ := hrel
    by_cases hlt : k < xs.length
    · obtain ⟨hxl', _, hx⟩ := hI
      obtain ⟨g, o, rfl, hr⟩ := hx.resolve_left (by omega)
      have hg : g < w4.heap.size := hr.lt (by omega)
      obtain ⟨x, hxk⟩ : ∃ x, xs[k]? = some x := ⟨_, List.getElem?_eq_getElem (by omega)⟩
      have hrt := recs_take (least := least) hxk
      have hat := recs_at (least := least) hxk
      obtain ⟨q, t, kk, v, nn⟩ := x
      obtain ⟨d0, d1, d2, d3, d4⟩ := ((hr k _ hxk).below hbw hg).get
      clear hx hr hxk
      have hpt := recs_part (least := least) (xs := xs) (k := k + 1)
      generalize hN : (recs least (xs.take k)).length = N at hat ⊢
      by_cases hq : q = 1
      · subst hq
        by_cases hv : least ≤ v
        · have hir : isRec least ⟨1, t, kk, v, nn⟩ = true := by simp [isRec, hv]
          rw [if_pos hir] at hrt
          rw [hrt, List.length_append, hN] at hpt
          have HN : Hid ((recs least (xs.take (k + 1))).length = N + 1) := hide (by rw [hrt, List.length_append, hN]; rfl)
          have hlt2 : N < (recs least xs).length := by simp at hpt; omega
          have hx2 := hat hir
          clear hat hrt hir
          obtain ⟨_, _, hx⟩ := hX
          obtain ⟨g2, o2, rfl, hr2⟩ := hx.resolve_left (by omega)
          have hg2 : g2 < w4.heap.size := hr2.lt (by omega)
          obtain ⟨e0, e1, e2, e3, e4⟩ := ((hr2 N _ hx2).below hbw hg2).get
          clear hx hr2 hx2 hN
          go_wp2_with fail
          go_quiet (fail)
          go_wp2
          go_roundw
          case rel => exact ⟨k + 1, by omega, by go_num, by rw [unhide HN]; go_num, (by repeat (first | (with_reducible exact Below.refl _ _) | (with_reducible assumption) | (with_reducible refine bel_set ?_ (by first | (simp; done) | (simp; omega)) _) | (with_reducible refine bel_alloc ?_ _) | (with_reducible refine bel_drew ?_) | (with_reducible refine bel_drewN ?_ _) | (with_reducible refine bel_trans ?_ (by with_reducible assumption))))⟩
          case measure => simp [intOf]; omega
        · have hir : ¬ isRec least ⟨1, t, kk, v, nn⟩ = true := by simp [isRec]; omega
          have HN : Hid ((recs least (xs.take (k + 1))).length = N) := hide (by rw [hrt, if_neg hir, hN])
          have hv' : decide (least ≤ v) = false := by simp; omega
          clear hat hrt hir hN hpt
          go_wp2
          go_roundw
          case rel => exact ⟨k + 1, by omega, by go_num, by rw [unhide HN], (by repeat (first | (with_reducible exact Below.refl _ _) | (with_reducible assumption) | (with_reducible refine bel_set ?_ (by first | (simp; done) | (simp; omega)) _) | (with_reducible refine bel_alloc ?_ _) | (with_reducible refine bel_drew ?_) | (with_reducible refine bel_drewN ?_ _) | (with_reducible refine bel_trans ?_ (by with_reducible assumption))))⟩
          case measure => simp [intOf]; omega
      · have hir : ¬ isRec least ⟨q, t, kk, v, nn⟩ = true := by simp [isRec, hq]
        have HN : Hid ((recs least (xs.take (k + 1))).length = N) := hide (by rw [hrt, if_neg hir, hN])
        have hq' : (q == 1) = false := beq_eq_false_iff_ne.2 hq
        clear hat hrt hir hN hpt
        go_wp2
        go_roundw
        case rel => exact ⟨k + 1, by omega, by go_num, by rw [unhide HN], (by repeat (first | (with_reducible exact Below.refl _ _) | (with_reducible assumption) | (with_reducible refine bel_set ?_ (by first | (simp; done) | (simp; omega)) _) | (with_reducible refine bel_alloc ?_ _) | (with_reducible refine bel_drew ?_) | (with_reducible refine bel_drewN ?_ _) | (with_reducible refine bel_trans ?_ (by with_reducible assumption))))⟩
        case measure => simp [intOf]; omega
    · obtain rfl : k = xs.length := by omega
      rw [List.take_length]
      have hle := recs_less least xs
      replace hI := hI.below hbw
      replace hX := hX.below hbw
      have hleI : ((recs least xs).length : Int) ≤ ((recs (least - 1) xs).length : Int) := by omega
      go_wp2_with (first
        | (go_at_call 23; (with_reducible refine (implrecs_any _ _ _ (least - 1) xs _ (hI.below (by repeat (first | (with_reducible exact Below.refl _ _) | (with_reducible assumption) | (with_reducible refine bel_set ?_ (by first | (simp; done) | (simp; omega)) _) | (with_reducible refine bel_alloc ?_ _) | (with_reducible refine bel_drew ?_) | (with_reducible refine bel_drewN ?_ _) | (with_reducible refine bel_trans ?_ (by with_reducible assumption))))) (by omega)).mono ?_); rintro e w7 ⟨v7, rfl, hO7, hb7⟩; obtain ⟨a7, c7, rfl, hI7⟩ := own_its hO7 (by have := recs_le (least - 1) xs; unfold maxLen; omega))
        | (go_at_call 23; (with_reducible refine (implrecs_any _ _ _ least (recs least xs) _ (hX.below (by repeat (first | (with_reducible exact Below.refl _ _) | (with_reducible assumption) | (with_reducible refine bel_set ?_ (by first | (simp; done) | (simp; omega)) _) | (with_reducible refine bel_alloc ?_ _) | (with_reducible refine bel_drew ?_) | (with_reducible refine bel_drewN ?_ _) | (with_reducible refine bel_trans ?_ (by with_reducible assumption))))) (by omega)).mono ?_); rintro e w8 ⟨v8, rfl, hO8, hb8⟩; rw [recs_recs] at hO8; obtain ⟨a8, c8, rfl, hI8⟩ := own_its hO8 (by unfold maxLen; omega))
        | (go_at_call 9; (with_reducible refine (frits_any _ _ _ _ _ (recs least xs) _ hI8 (hX.below (by repeat (first | (with_reducible exact Below.refl _ _) | (with_reducible assumption) | (with_reducible refine bel_set ?_ (by first | (simp; done) | (simp; omega)) _) | (with_reducible refine bel_alloc ?_ _) | (with_reducible refine bel_drew ?_) | (with_reducible refine bel_drewN ?_ _) | (with_reducible refine bel_trans ?_ (by with_reducible assumption)))))).mono ?_); rintro e w9 ⟨rfl, hb9⟩)
        | (go_at_call 17; refine (frok_any _).mono ?_; rintro e w10 ⟨rfl, hb10⟩))
      go_ret
      exact ⟨rfl, (by repeat (first | (with_reducible exact Below.refl _ _) | (with_reducible assumption) | (with_reducible refine bel_set ?_ (by first | (simp; done) | (simp; omega)) _) | (with_reducible refine bel_alloc ?_ _) | (with_reducible refine bel_drew ?_) | (with_reducible refine bel_drewN ?_ _) | (with_reducible refine bel_trans ?_ (by with_reducible assumption))))⟩
end Go.Proofs.Ythdfljankoffiaa
