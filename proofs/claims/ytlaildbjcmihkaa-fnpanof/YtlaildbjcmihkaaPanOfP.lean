/- Proved here: the law on the panes of a window returns true at every code. -/
import Derived.Test.YtlaildbjcmihkaaPanOfD
import Derived.BigQuiet
namespace Go.Proofs.Ytlaildbjcmihkaa
open Go.ChangeShapes Go.WideShapes Go.ChangeAt Go.RowKit
set_option linter.unusedVariables false

set_option maxRecDepth 20000 in
set_option maxHeartbeats 1000000 in
theorem frpanes_any (a1 a2 : Option Addr) (len cap1 cap2 : Nat) (xs : List PnR) (w : World) (h1 : PnRs w a1 len xs) (h2 : PnRs w a2 len xs) : Calls Try.prog 6 #[.slice a1 len cap1, .slice a2 len cap2] w fun e w' => e = .returned (.bool true) ∧ Below w.heap.size w w' := by
  have hm := h1.2.1
  unfold maxLen at hm
  go_enter Try.func6, Try.ntmps6
  go_wp2
  go_loopw [5] (fun i wr => ∃ k : Nat, k ≤ len ∧ i = .int .i64 k ∧ Below w.heap.size w wr) (fun i _ => len - (intOf i).toNat)
  case atStart => exact ⟨0, Nat.zero_le _, rfl, Below.refl _ _⟩
  case round =>
    obtain ⟨k, hk, rfl, hbw⟩ := hrel
    by_cases hlt : k < len
    · obtain ⟨hl1, _, hx1⟩ := h1
      obtain ⟨hl2, _, hx2⟩ := h2
      obtain ⟨g1, o1, rfl, hr1⟩ := hx1.resolve_left (by omega)
      obtain ⟨g2, o2, rfl, hr2⟩ := hx2.resolve_left (by omega)
      obtain ⟨x, hxk⟩ : ∃ x, xs[k]? = some x := ⟨_, List.getElem?_eq_getElem (by omega)⟩
      have hltI : (k : Int) < (len : Int) := by omega
      obtain ⟨c0, c1, c2, c3, c4, c5, c6, c7, c8⟩ := (hr1 k _ hxk).below hbw (hr1 k _ hxk).lt
      obtain ⟨d0, d1, d2, d3, d4, d5, d6, d7, d8⟩ := (hr2 k _ hxk).below hbw (hr2 k _ hxk).lt
      clear hx1 hx2 hxk hr1 hr2
      go_wp2_with fail
      go_quiet (fail)
      go_wp2
      go_roundw
      case rel => exact ⟨k + 1, by omega, by go_num, (by repeat (first | (with_reducible exact Below.refl _ _) | (with_reducible assumption) | (with_reducible refine bel_set ?_ (by first | (simp; done) | (simp; omega)) _) | (with_reducible refine bel_alloc ?_ _) | (with_reducible refine bel_drew ?_) | (with_reducible refine bel_drewN ?_ _) | (with_reducible refine bel_trans ?_ (by with_reducible assumption))))⟩
      case measure => simp [intOf]; omega
    · go_wp2
      go_ret
      exact ⟨rfl, hbw⟩
theorem kp_take {ky st en : Int} {xs : List PnR} {i : Nat} {x : PnR} (hx : xs[i]? = some x) (hb : x.isB ky st en = true) : (kpPn ky st en (xs.take (i + 1))).length = (kpPn ky st en (xs.take i)).length + 1 ∧ (kpPn ky st en xs)[(kpPn ky st en (xs.take i)).length]? = some x := by
  have h1 : xs.take (i + 1) = xs.take i ++ [x] := take_snocPn hx
  have h2 : xs = xs.take (i + 1) ++ xs.drop (i + 1) := (List.take_append_drop _ _).symm
  constructor
  · rw [h1]; simp [kpPn, hb]
  · have h4 : kpPn ky st en xs = kpPn ky st en (xs.take i ++ [x] ++ xs.drop (i + 1)) := by rw [← h1]; exact congrArg _ h2
    have h3 : kpPn ky st en xs = kpPn ky st en (xs.take i) ++ x :: kpPn ky st en (xs.drop (i + 1)) := by rw [h4]; simp [kpPn, hb]
    rw [h3, List.getElem?_append_right (Nat.le_refl _)]
    simp
theorem kp_skip {ky st en : Int} {xs : List PnR} {i : Nat} {x : PnR} (hx : xs[i]? = some x) (hb : x.isB ky st en = false) : (kpPn ky st en (xs.take (i + 1))).length = (kpPn ky st en (xs.take i)).length := by
  have h1 : xs.take (i + 1) = xs.take i ++ [x] := take_snocPn hx
  rw [h1]; simp [kpPn, hb]
theorem kp_again (ky st en : Int) (xs : List PnR) : kpPn ky st en (kpPn ky st en xs) = kpPn ky st en xs := by simp [kpPn]
theorem kp_len (ky st en : Int) (xs : List PnR) : (kpPn ky st en xs).length ≤ xs.length := List.length_filter_le _ _
set_option linter.unusedSimpArgs false in
set_option maxRecDepth 20000 in
set_option maxHeartbeats 8000000 in
theorem lawPanOfP (a : Option Addr) (len cap : Nat) (w : World) (hlc : len ≤ cap) (hm : len ≤ maxLen) (hb : BytesAt w a len) (hl : ∀ g o, a = some ⟨g, o, none⟩ → 0 < len → g < w.heap.size) (hn : a = none → cap = 0) : Calls Try.prog 3 #[.slice a len cap] w fun e w' => e = .returned (.bool true) ∧ Below w.heap.size w w' := by
  unfold maxLen at hm
  by_cases hlen : (len : Int) ≤ 1048576
  · go_enter Try.func3, Try.ntmps3
    go_wp2_with fail
    refine (drawpanof_any a len cap w hlc (by omega) hb hl hn).mono ?_
    rintro e' w1 ⟨a5, c5, xs, ky, rfl, hRs, hxl, hb1⟩
    clear hb hl hn
    have hb1' : Below w1.heap.size w1 (w1.alloc (.cells #[.int .i64 0, .int .i64 5] 25)) := bel_one _ _
    have HP := hide (hRs.below hb1')
    clear hRs
    obtain ⟨ys, hys⟩ : ∃ ys, kpPn ky 0 5 xs = ys := ⟨_, rfl⟩
    have hyl : ys.length ≤ 8 := by have := kp_len ky 0 5 xs; rw [hys] at this; omega
    have HY := hide hys
    clear hys
    go_wp2_with fail
    refine (implPanOf_eq a5 xs.length c5 xs ky 0 5 _ ys (unhide HP) (by omega) HY).mono ?_
    rintro e' w2 ⟨v2, rfl, hO2, hb2⟩
    obtain ⟨a6, c6, rfl, hR6, _, _⟩ := holdPn hO2 (by omega)
    have z2 : w1.heap.size < w2.heap.size := by have h9 := hb2.size; simp at h9; omega
    have q0 : w2.cell? ⟨w1.heap.size, 0, none⟩ = some (.int .i64 0) := (hb2.cell (p := ⟨w1.heap.size, 0, none⟩) (by simp)).trans (by simp [go_sem])
    have q1 : w2.cell? ⟨w1.heap.size, 1, none⟩ = some (.int .i64 5) := (hb2.cell (p := ⟨w1.heap.size, 1, none⟩) (by simp)).trans (by simp [go_sem])
    have HP2 := hide ((unhide HP).below hb2)
    have HR6 := hide hR6
    clear hO2 hR6 HP
    go_wp2_with fail
    refine (specPanOf_eq a5 xs.length c5 xs ky 0 5 _ ys (unhide HP2) (by omega) HY).mono ?_
    rintro e' w3 ⟨v3, rfl, hO3, hb3⟩
    obtain ⟨a7, c7, rfl, hR7, _, _⟩ := holdPn hO3 (by omega)
    have z3 : w1.heap.size < w3.heap.size := Nat.lt_of_lt_of_le z2 hb3.size
    have r0 : w3.cell? ⟨w1.heap.size, 0, none⟩ = some (.int .i64 0) := (hb3.cell (p := ⟨w1.heap.size, 0, none⟩) z2).trans q0
    have r1 : w3.cell? ⟨w1.heap.size, 1, none⟩ = some (.int .i64 5) := (hb3.cell (p := ⟨w1.heap.size, 1, none⟩) z2).trans q1
    have HP3 := hide ((unhide HP2).below hb3)
    have HR63 := hide ((unhide HR6).below hb3)
    have HR7 := hide hR7
    clear hO3 hR7 HP2 HR6 q0 q1
    go_wp2_with fail
    refine (frpanes_any a6 a7 ys.length c6 c7 ys _ (unhide HR63) (unhide HR7)).mono ?_
    rintro e' w4 ⟨rfl, hb4⟩
    have z4 : w1.heap.size < w4.heap.size := Nat.lt_of_lt_of_le z3 hb4.size
    have q0 : w4.cell? ⟨w1.heap.size, 0, none⟩ = some (.int .i64 0) := (hb4.cell (p := ⟨w1.heap.size, 0, none⟩) z3).trans r0
    have q1 : w4.cell? ⟨w1.heap.size, 1, none⟩ = some (.int .i64 5) := (hb4.cell (p := ⟨w1.heap.size, 1, none⟩) z3).trans r1
    have HP4 := hide ((unhide HP3).below hb4)
    have HR4 := hide ((unhide HR63).below hb4)
    have hbF : Below w.heap.size w w4 := bel_trans hb1 (bel_trans hb1' (bel_trans hb2 (bel_trans hb3 hb4)))
    clear r0 r1 HP3 HR63 HR7 hb2 hb3 hb4 hb1'
    go_wp2
    go_loopw [7, 8] (fun nv iv wr => ∃ i m : Nat, iv = .int .i64 i ∧ i ≤ xs.length ∧ nv = .int .i64 m ∧ Hid ((kpPn ky 0 5 (xs.take i)).length = m) ∧ m ≤ 8 ∧ Below w4.heap.size w4 wr) (fun _ iv _ => xs.length - (intOf iv).toNat)
    case atStart => exact ⟨0, 0, rfl, Nat.zero_le _, rfl, hide (by simp [kpPn]), by omega, Below.refl _ _⟩
    case round =>
      obtain ⟨i, m, rfl, hi, rfl, HM, hm8, hbw⟩ := hrel
      have zr : w1.heap.size < wr.heap.size := Nat.lt_of_lt_of_le z4 hbw.size
      have s0 : wr.cell? ⟨w1.heap.size, 0, none⟩ = some (.int .i64 0) := (hbw.cell (p := ⟨w1.heap.size, 0, none⟩) z4).trans q0
      have s1 : wr.cell? ⟨w1.heap.size, 1, none⟩ = some (.int .i64 5) := (hbw.cell (p := ⟨w1.heap.size, 1, none⟩) z4).trans q1
      by_cases hlt : i < xs.length
      · obtain ⟨x, hx⟩ : ∃ x, xs[i]? = some x := ⟨_, List.getElem?_eq_getElem hlt⟩
        have hltI : (i : Int) < (xs.length : Int) := by omega
        obtain ⟨_, _, h3⟩ := unhide HP4
        obtain ⟨g, o, rfl, hat⟩ := h3.resolve_left (by omega)
        obtain ⟨c0, c1, c2, c3, c4, c5, c6, c7, c8⟩ := (hat i x hx).below hbw (hat i x hx).lt
        clear hat h3
        have HX := hide hx
        clear hx
        cases hB : x.isB ky 0 5 with
        | true =>
          obtain ⟨hk1, hk2⟩ := kp_take (unhide HX) hB
          rw [unhide HY, unhide HM] at hk2
          rw [unhide HM] at hk1
          have hmy : m < ys.length := (List.getElem?_eq_some_iff.1 hk2).1
          obtain ⟨_, _, h6⟩ := unhide HR4
          obtain ⟨g6, o6, rfl, hat6⟩ := h6.resolve_left (by omega)
          obtain ⟨d0, d1, d2, d3, d4, d5, d6, d7, d8⟩ := (hat6 m x hk2).below hbw (hat6 m x hk2).lt
          have hmI : (m : Int) < (ys.length : Int) := by omega
          have hmD : decide ((ys.length : Int) ≤ (m : Int)) = false := decide_eq_false (by omega)
          simp only [PnR.isB, Bool.and_eq_true, beq_iff_eq] at hB
          obtain ⟨e1, e2, e3⟩ := hB
          have HK1 := hide hk1
          clear hat6 h6 hk2 hk1 HM
          rw [e1] at c0 d0
          rw [e2] at c1 d1
          rw [e3] at c2 d2
          clear e1 e2 e3
          go_wp2_with fail
          go_quiet (fail)
          go_wp2_with fail
          go_quiet (fail)
          go_wp2
          go_roundw
          case rel => exact ⟨i + 1, m + 1, by go_num, by omega, by go_num, HK1, by omega, (by repeat (first | (with_reducible exact Below.refl _ _) | (with_reducible assumption) | (with_reducible refine bel_set ?_ (by first | (simp; done) | (simp; omega)) _) | (with_reducible refine bel_alloc ?_ _) | (with_reducible refine bel_drew ?_) | (with_reducible refine bel_drewN ?_ _) | (with_reducible refine bel_trans ?_ (by with_reducible assumption))))⟩
          case measure => simp [intOf]; omega
        | false =>
          have HK1 := hide ((kp_skip (unhide HX) hB).trans (unhide HM))
          by_cases e1 : x.ky = ky
          · have e1' : (x.ky == ky) = true := by simp [e1]
            have e2 : ¬ (x.st = 0 ∧ x.en = 5) := fun ⟨h1, h2⟩ => by simp [PnR.isB, e1, h1, h2] at hB
            clear hB HM
            rw [e1] at c0
            by_cases f1 : x.st = 0
            · have f2 : ¬ x.en = 5 := fun h2 => e2 ⟨f1, h2⟩
              have f2' : (x.en == 5) = false := by simp [f2]
              rw [f1] at c1
              go_wp2_with fail
              go_quiet (fail)
              go_wp2
              go_roundw
              case rel => exact ⟨i + 1, m, by go_num, by omega, rfl, HK1, hm8, (by repeat (first | (with_reducible exact Below.refl _ _) | (with_reducible assumption) | (with_reducible refine bel_set ?_ (by first | (simp; done) | (simp; omega)) _) | (with_reducible refine bel_alloc ?_ _) | (with_reducible refine bel_drew ?_) | (with_reducible refine bel_drewN ?_ _) | (with_reducible refine bel_trans ?_ (by with_reducible assumption))))⟩
              case measure => simp [intOf]; omega
            · have f1' : (x.st == 0) = false := by simp [f1]
              go_wp2_with fail
              go_quiet (fail)
              go_wp2
              go_roundw
              case rel => exact ⟨i + 1, m, by go_num, by omega, rfl, HK1, hm8, (by repeat (first | (with_reducible exact Below.refl _ _) | (with_reducible assumption) | (with_reducible refine bel_set ?_ (by first | (simp; done) | (simp; omega)) _) | (with_reducible refine bel_alloc ?_ _) | (with_reducible refine bel_drew ?_) | (with_reducible refine bel_drewN ?_ _) | (with_reducible refine bel_trans ?_ (by with_reducible assumption))))⟩
              case measure => simp [intOf]; omega
          · have e1' : (x.ky == ky) = false := by simp [e1]
            clear hB HM
            go_wp2_with fail
            go_quiet (fail)
            go_wp2
            go_roundw
            case rel => exact ⟨i + 1, m, by go_num, by omega, rfl, HK1, hm8, (by repeat (first | (with_reducible exact Below.refl _ _) | (with_reducible assumption) | (with_reducible refine bel_set ?_ (by first | (simp; done) | (simp; omega)) _) | (with_reducible refine bel_alloc ?_ _) | (with_reducible refine bel_drew ?_) | (with_reducible refine bel_drewN ?_ _) | (with_reducible refine bel_trans ?_ (by with_reducible assumption))))⟩
            case measure => simp [intOf]; omega
      · obtain rfl : i = xs.length := by omega
        have hmy : m = ys.length := by
          have h9 := unhide HM
          rw [List.take_length, unhide HY] at h9
          exact h9.symm
        subst hmy
        have HYY : Hid (kpPn ky 0 5 ys = ys) := hide (by rw [← unhide HY]; exact kp_again _ _ _ _)
        have HRr := hide ((unhide HR4).below hbw)
        clear HM
        go_wp2_with fail
        refine (implPanOf_eq a6 ys.length c6 ys ky 0 5 _ ys (unhide HRr) (by omega) HYY).mono ?_
        rintro e' w5 ⟨v5, rfl, hO5, hb5⟩
        obtain ⟨a8, c8, rfl, hR8, _, _⟩ := holdPn hO5 (by omega)
        have HR8 := hide hR8
        have HRs := hide ((unhide HRr).below hb5)
        clear hO5 hR8
        go_wp2_with fail
        refine (frpanes_any a8 a6 ys.length c8 c6 ys _ (unhide HR8) (unhide HRs)).mono ?_
        rintro e' w6 ⟨rfl, hb6⟩
        go_wp2_with fail
        refine (frok_any _).mono ?_
        rintro e' w7 ⟨rfl, hb7⟩
        go_wp2
        go_ret
        exact ⟨rfl, bel_trans hbF (bel_trans hbw (bel_trans hb5 (bel_trans hb6 hb7)))⟩
  · go_enter Try.func3, Try.ntmps3
    go_wp2
    go_ret
    exact ⟨rfl, Below.refl _ _⟩
end Go.Proofs.Ytlaildbjcmihkaa
