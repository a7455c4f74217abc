/- Proved here: the law on all pairs of records and windows returns true at every code. -/
import Derived.Test.YtmlnddbbpdijoaaRecsD
import Derived.Test.YtmlnddbbpdijoaaWofMath
import Derived.Test.YtmlnddbbpdijoaaLat
import Derived.Test.YtmlnddbbpdijoaaFrOk
import Derived.Deep.RegionHeld3
import Derived.BigQuiet
namespace Go.Proofs.Ytmlnddbbpdijoaa
open Go.ChangeShapes Go.WideShapes Go.ChangeAt Go.RowKit
set_option linter.unusedVariables false

set_option maxRecDepth 20000 in
set_option maxHeartbeats 1000000 in
theorem frlates_any (a1 a2 : Option Addr) (len cap1 cap2 : Nat) (xs : List LpR) (w : World) (h1 : LpRs w a1 len xs) (h2 : LpRs w a2 len xs) : Calls Try.prog 6 #[.slice a1 len cap1, .slice a2 len cap2] w fun e w' => e = .returned (.bool true) ∧ Below w.heap.size w w' := by
  have hm := h1.2.1
  unfold maxLen at hm
  go_enter Try.func6, Try.ntmps6
  go_wp2
  go_loopw [5] (fun i wr => ∃ k : Nat, k ≤ len ∧ i = .int .i64 k ∧ Below w.heap.size w wr) (fun i _ => len - (intOf i).toNat)
  case atStart => exact ⟨0, Nat.zero_le _, rfl, Below.refl _ _⟩
  case round =>
    obtain ⟨k, hk, rfl, hbw⟩ := hrel
    by_cases hlt : k < len
    · obtain ⟨hl1, _, hx1⟩ := h1
      obtain ⟨hl2, _, hx2⟩ := h2
      obtain ⟨g1, o1, rfl, hr1⟩ := hx1.resolve_left (by omega)
      obtain ⟨g2, o2, rfl, hr2⟩ := hx2.resolve_left (by omega)
      obtain ⟨x, hxk⟩ : ∃ x, xs[k]? = some x := ⟨_, List.getElem?_eq_getElem (by omega)⟩
      have hg1 : g1 < w.heap.size := hr1.lt (by omega)
      have hg2 : g2 < w.heap.size := hr2.lt (by omega)
      have hltI : (k : Int) < (len : Int) := by omega
      obtain ⟨c0, c1, c2, c3, c4, c5, c6⟩ := (hr1 k _ hxk).below hbw hg1
      obtain ⟨d0, d1, d2, d3, d4, d5, d6⟩ := (hr2 k _ hxk).below hbw hg2
      clear hx1 hx2 hxk hr1 hr2
      go_wp2_with fail
      go_quiet (fail)
      go_wp2
      go_roundw
      case rel => exact ⟨k + 1, by omega, by go_num, (by repeat (first | (with_reducible exact Below.refl _ _) | (with_reducible assumption) | (with_reducible refine bel_set ?_ (by first | (simp; done) | (simp; omega)) _) | (with_reducible refine bel_alloc ?_ _) | (with_reducible refine bel_drew ?_) | (with_reducible refine bel_drewN ?_ _) | (with_reducible refine bel_trans ?_ (by with_reducible assumption))))⟩
      case measure => simp [intOf]; omega
    · go_wp2
      go_ret
      exact ⟨rfl, hbw⟩

theorem prsT_at {k z p : Int} {xs : List IwR} {i m : Nat} {x : IwR} {y : WnR} (hx : xs[i]? = some x) (hy : (winsOf k z p x.tm)[m]? = some y) : (prsT k z p xs)[(prsT k z p (xs.take i)).length + m]? = some (mkP x y) := by
  have hs : xs = xs.take i ++ (x :: xs.drop (i + 1)) := by
    obtain ⟨hi, rfl⟩ := List.getElem?_eq_some_iff.1 hx
    rw [← List.drop_eq_getElem_cons hi, List.take_append_drop]
  have e : prsT k z p xs = prsT k z p (xs.take i) ++ ((winsOf k z p x.tm).map (mkP x) ++ prsT k z p (xs.drop (i + 1))) := by
    conv => lhs; rw [hs]
    simp [prsT, prsOf]
  rw [e, List.getElem?_append_right (by omega), Nat.add_sub_cancel_left, List.getElem?_append_left (by rw [List.length_map]; exact (List.getElem?_eq_some_iff.1 hy).1), List.getElem?_map, hy]
  rfl
theorem prsT_next {k z p : Int} {xs : List IwR} {i : Nat} {x : IwR} (hx : xs[i]? = some x) : (prsT k z p (xs.take (i + 1))).length = (prsT k z p (xs.take i)).length + (winsOf k z p x.tm).length := by
  rw [prsT_snoc hx, List.length_append, prsOf, List.length_map]
theorem pairsT_yes {s t k z p l e v r : Int} {xs : List IwR} (h : ¬ (pairsT s t k z p l e v r xs).length = 0) : okJob s t k z p l e v r = true ∧ recsB xs = true ∧ pairsT s t k z p l e v r xs = prsT k z p xs := by
  unfold pairsT at h ⊢
  by_cases hc : (okJob s t k z p l e v r && recsB xs) = true
  · rw [if_pos hc]
    rw [Bool.and_eq_true] at hc
    exact ⟨hc.1, hc.2, rfl⟩
  · rw [if_neg hc] at h; simp at h
theorem okLat_of {s t k z p l e v r : Int} {x : IwR} {y : WnR} (hj : okJob s t k z p l e v r = true) (hx : x.isB = true) (hy : WinIs k z p x.tm y) : okLat x.kd x.tm x.ke x.va x.nn y.a y.b = true := by
  have hz := okJob_z hj
  have ht := isB_tm hx
  obtain ⟨h1, h2, h3, h4, _, _, _⟩ := hy
  unfold okLat okWin hasW
  have e1 : isRecB x.kd x.tm x.ke x.va x.nn = true := hx
  rw [e1, show inB y.a 0 60 = true from inB_iff.2 (by omega), show inB y.b (y.a + 1) 120 = true from inB_iff.2 (by omega), show inB x.tm y.a (y.b - 1) = true from inB_iff.2 (by omega)]
  rfl
theorem latok_is (q t k v n st en : Int) (w : World) (h : Hid (okLat q t k v n st en = true)) : Calls Try.prog 9 #[.agg #[.int .i64 q, .int .i64 t, .int .i64 k, .int .i64 v, .int .i64 n, .int .i64 st, .int .i64 en]] w fun e' w' => e' = .returned (.bool true) ∧ Below w.heap.size w w' := by
  have h9 := impllatok_any q t k v n st en w
  rw [unhide h] at h9
  exact h9

set_option linter.unusedSimpArgs false in
set_option maxRecDepth 20000 in
set_option maxHeartbeats 8000000 in
theorem lawSpcPairsP (a : Option Addr) (len cap : Nat) (w : World) (hlc : len ≤ cap) (hm : len ≤ maxLen) (hb : BytesAt w a len) (hl : ∀ g o, a = some ⟨g, o, none⟩ → 0 < len → g < w.heap.size) (hn : a = none → cap = 0) : Calls Try.prog 3 #[.slice a len cap] w fun e w' => e = .returned (.bool true) ∧ Below w.heap.size w w' := by
  unfold maxLen at hm
  by_cases hlen : (len : Int) ≤ 1048576
  · go_enter Try.func3, Try.ntmps3
    go_wp2_with fail
    refine (drawspc_any a len cap w hlc (by omega) hb hl hn).mono ?_
    rintro e' w1 ⟨s, t, k, z, q, l, e, b, v, r, u, xs, rfl, hO, hxl, hb1⟩
    clear hb hl hn
    obtain ⟨ar, cr, rfl, HR0, _, _⟩ := holdIw hO (by omega)
    clear hO
    obtain ⟨RR, hRR⟩ : ∃ RR, pairsT s t k z q l e v r xs = RR := ⟨_, rfl⟩
    have hRl : RR.length ≤ 7320 := by rw [← hRR]; exact pairsT_len _ _ _ _ _ _ _ _ _ _
    have HR := hide hRR
    clear hRR
    have hbJ : Below w1.heap.size w1 (w1.alloc (.cells #[.int .i64 s, .int .i64 t, .int .i64 k, .int .i64 z, .int .i64 q, .int .i64 l, .int .i64 e, .bool b, .int .i64 v, .int .i64 r] 24)) := bel_one _ _
    have HRj := hide (HR0.below hbJ)
    clear HR0
    go_wp2_with fail
    refine (implpairs_eq s t k z q l e b v r ar xs.length cr xs _ RR (unhide HRj) HR).mono ?_
    rintro e' w2 ⟨v2, rfl, hO2, hb2⟩
    obtain ⟨al, cl, rfl, HL2, _, _⟩ := holdLp hO2 (by omega)
    have HR2 := hide ((unhide HRj).below hb2)
    have HLh := hide HL2
    have z2 : w1.heap.size < w2.heap.size := by have h9 := hb2.size; simp at h9; omega
    have x0 : w2.cell? ⟨w1.heap.size, 0, none⟩ = some (.int .i64 s) := (hb2.cell (p := ⟨w1.heap.size, 0, none⟩) (by simp)).trans (by simp [go_sem])
    have x1 : w2.cell? ⟨w1.heap.size, 1, none⟩ = some (.int .i64 t) := (hb2.cell (p := ⟨w1.heap.size, 1, none⟩) (by simp)).trans (by simp [go_sem])
    have x2 : w2.cell? ⟨w1.heap.size, 2, none⟩ = some (.int .i64 k) := (hb2.cell (p := ⟨w1.heap.size, 2, none⟩) (by simp)).trans (by simp [go_sem])
    have x3 : w2.cell? ⟨w1.heap.size, 3, none⟩ = some (.int .i64 z) := (hb2.cell (p := ⟨w1.heap.size, 3, none⟩) (by simp)).trans (by simp [go_sem])
    have x4 : w2.cell? ⟨w1.heap.size, 4, none⟩ = some (.int .i64 q) := (hb2.cell (p := ⟨w1.heap.size, 4, none⟩) (by simp)).trans (by simp [go_sem])
    have x5 : w2.cell? ⟨w1.heap.size, 5, none⟩ = some (.int .i64 l) := (hb2.cell (p := ⟨w1.heap.size, 5, none⟩) (by simp)).trans (by simp [go_sem])
    have x6 : w2.cell? ⟨w1.heap.size, 6, none⟩ = some (.int .i64 e) := (hb2.cell (p := ⟨w1.heap.size, 6, none⟩) (by simp)).trans (by simp [go_sem])
    have x7 : w2.cell? ⟨w1.heap.size, 7, none⟩ = some (.bool b) := (hb2.cell (p := ⟨w1.heap.size, 7, none⟩) (by simp)).trans (by simp [go_sem])
    have x8 : w2.cell? ⟨w1.heap.size, 8, none⟩ = some (.int .i64 v) := (hb2.cell (p := ⟨w1.heap.size, 8, none⟩) (by simp)).trans (by simp [go_sem])
    have x9 : w2.cell? ⟨w1.heap.size, 9, none⟩ = some (.int .i64 r) := (hb2.cell (p := ⟨w1.heap.size, 9, none⟩) (by simp)).trans (by simp [go_sem])
    clear hO2 HL2 HRj
    go_wp2_with fail
    refine (specpairs_eq s t k z q l e b v r ar xs.length cr xs _ RR (unhide HR2) HR).mono ?_
    rintro e' w3 ⟨v3, rfl, hO3, hb3⟩
    obtain ⟨al3, cl3, rfl, HL3, _, _⟩ := holdLp hO3 (by omega)
    have HLb := hide ((unhide HLh).below hb3)
    have HR3 := hide ((unhide HR2).below hb3)
    clear hO3 HLh HR2
    have HL3h := hide HL3
    clear HL3
    have y0 : w3.cell? ⟨w1.heap.size, 0, none⟩ = some (.int .i64 s) := (hb3.cell (p := ⟨w1.heap.size, 0, none⟩) z2).trans x0
    have y1 : w3.cell? ⟨w1.heap.size, 1, none⟩ = some (.int .i64 t) := (hb3.cell (p := ⟨w1.heap.size, 1, none⟩) z2).trans x1
    have y2 : w3.cell? ⟨w1.heap.size, 2, none⟩ = some (.int .i64 k) := (hb3.cell (p := ⟨w1.heap.size, 2, none⟩) z2).trans x2
    have y3 : w3.cell? ⟨w1.heap.size, 3, none⟩ = some (.int .i64 z) := (hb3.cell (p := ⟨w1.heap.size, 3, none⟩) z2).trans x3
    have y4 : w3.cell? ⟨w1.heap.size, 4, none⟩ = some (.int .i64 q) := (hb3.cell (p := ⟨w1.heap.size, 4, none⟩) z2).trans x4
    have y5 : w3.cell? ⟨w1.heap.size, 5, none⟩ = some (.int .i64 l) := (hb3.cell (p := ⟨w1.heap.size, 5, none⟩) z2).trans x5
    have y6 : w3.cell? ⟨w1.heap.size, 6, none⟩ = some (.int .i64 e) := (hb3.cell (p := ⟨w1.heap.size, 6, none⟩) z2).trans x6
    have y7 : w3.cell? ⟨w1.heap.size, 7, none⟩ = some (.bool b) := (hb3.cell (p := ⟨w1.heap.size, 7, none⟩) z2).trans x7
    have y8 : w3.cell? ⟨w1.heap.size, 8, none⟩ = some (.int .i64 v) := (hb3.cell (p := ⟨w1.heap.size, 8, none⟩) z2).trans x8
    have y9 : w3.cell? ⟨w1.heap.size, 9, none⟩ = some (.int .i64 r) := (hb3.cell (p := ⟨w1.heap.size, 9, none⟩) z2).trans x9
    clear x0 x1 x2 x3 x4 x5 x6 x7 x8 x9
    have z3 : w1.heap.size < w3.heap.size := Nat.lt_of_lt_of_le z2 hb3.size
    go_wp2_with fail
    refine (frlates_any al al3 RR.length cl cl3 RR _ (unhide HLb) (unhide HL3h)).mono ?_
    rintro e' w4 ⟨rfl, hb4⟩
    have HL4 := hide ((unhide HLb).below hb4)
    have HR4 := hide ((unhide HR3).below hb4)
    have z4 : w1.heap.size < w4.heap.size := Nat.lt_of_lt_of_le z3 hb4.size
    have x0 : w4.cell? ⟨w1.heap.size, 0, none⟩ = some (.int .i64 s) := (hb4.cell (p := ⟨w1.heap.size, 0, none⟩) z3).trans y0
    have x1 : w4.cell? ⟨w1.heap.size, 1, none⟩ = some (.int .i64 t) := (hb4.cell (p := ⟨w1.heap.size, 1, none⟩) z3).trans y1
    have x2 : w4.cell? ⟨w1.heap.size, 2, none⟩ = some (.int .i64 k) := (hb4.cell (p := ⟨w1.heap.size, 2, none⟩) z3).trans y2
    have x3 : w4.cell? ⟨w1.heap.size, 3, none⟩ = some (.int .i64 z) := (hb4.cell (p := ⟨w1.heap.size, 3, none⟩) z3).trans y3
    have x4 : w4.cell? ⟨w1.heap.size, 4, none⟩ = some (.int .i64 q) := (hb4.cell (p := ⟨w1.heap.size, 4, none⟩) z3).trans y4
    have x5 : w4.cell? ⟨w1.heap.size, 5, none⟩ = some (.int .i64 l) := (hb4.cell (p := ⟨w1.heap.size, 5, none⟩) z3).trans y5
    have x6 : w4.cell? ⟨w1.heap.size, 6, none⟩ = some (.int .i64 e) := (hb4.cell (p := ⟨w1.heap.size, 6, none⟩) z3).trans y6
    have x7 : w4.cell? ⟨w1.heap.size, 7, none⟩ = some (.bool b) := (hb4.cell (p := ⟨w1.heap.size, 7, none⟩) z3).trans y7
    have x8 : w4.cell? ⟨w1.heap.size, 8, none⟩ = some (.int .i64 v) := (hb4.cell (p := ⟨w1.heap.size, 8, none⟩) z3).trans y8
    have x9 : w4.cell? ⟨w1.heap.size, 9, none⟩ = some (.int .i64 r) := (hb4.cell (p := ⟨w1.heap.size, 9, none⟩) z3).trans y9
    clear y0 y1 y2 y3 y4 y5 y6 y7 y8 y9 HLb HL3h HR3
    have hbF : Below w.heap.size w w4 := bel_trans hb1 (bel_trans hbJ (bel_trans hb2 (bel_trans hb3 hb4)))
    clear hb1 hbJ hb2 hb3 hb4
    by_cases hz : RR.length = 0
    · have hz' : ¬ (0 : Int) < (RR.length : Int) := by omega
      have Hz := hide hz
      simp only [hz]
      clear hz hz'
      go_wp2
      go_loopw [6, 7] (fun n i wr => ∃ ix : Nat, ix ≤ xs.length ∧ i = .int .i64 ix ∧ n = .int .i64 0 ∧ Below w.heap.size w wr) (fun _ i _ => xs.length - (intOf i).toNat)
      case atStart => exact ⟨0, Nat.zero_le _, rfl, rfl, hbF⟩
      case round =>
        obtain ⟨ix, hix, rfl, rfl, hbw⟩ := hrel
        by_cases hlt : (ix : Int) < (xs.length : Int)
        · go_wp2_with fail
          refine (frok_any _).mono ?_
          rintro e' w8 ⟨rfl, hb8⟩
          go_wp2
          go_ret
          exact ⟨rfl, bel_trans hbw hb8⟩
        · go_wp2_with fail
          refine (frok_any _).mono ?_
          rintro e' w8 ⟨rfl, hb8⟩
          go_wp2
          go_ret
          exact ⟨rfl, bel_trans hbw hb8⟩
    · obtain ⟨hj0, hrB, hP0⟩ := pairsT_yes (show ¬ (pairsT s t k z q l e v r xs).length = 0 by rw [unhide HR]; exact hz)
      have hP : Hid (RR = prsT k z q xs) := hide (by rw [← unhide HR]; exact hP0)
      have hj := hide hj0
      have hA := hide (recsB_iff hrB).2
      clear hj0 hrB hP0
      have hpos : (0 : Int) < (RR.length : Int) := by omega
      obtain ⟨_, _, hL9⟩ := unhide HL4
      obtain ⟨gl, ol, rfl, hLat⟩ := hL9.resolve_left hz
      have HLa := hide hLat
      have hgl : gl < w4.heap.size := hLat.lt (by omega)
      clear hL9 hLat HL4
      have hfin : Hid ((prsT k z q (xs.take xs.length)).length = RR.length) := hide (by rw [List.take_length, ← unhide hP])
      have hst : Hid ((prsT k z q (xs.take 0)).length = 0) := hide (by simp [prsT])
      go_wp2
      go_loopw [6, 7] (fun n i wr => ∃ ix nx : Nat, ix ≤ xs.length ∧ i = .int .i64 ix ∧ n = .int .i64 nx ∧ Hid (nx = (prsT k z q (xs.take ix)).length) ∧ nx ≤ 7320 ∧ Below w4.heap.size w4 wr) (fun _ i _ => xs.length - (intOf i).toNat)
      case atStart => exact ⟨0, 0, Nat.zero_le _, rfl, rfl, hide (unhide hst).symm, by omega, Below.refl _ _⟩
      case round =>
        obtain ⟨ix, nx, hix, rfl, rfl, Hnx, hnb, hbw⟩ := hrel
        have zr : w1.heap.size < wr.heap.size := Nat.lt_of_lt_of_le z4 hbw.size
        replace x0 : wr.cell? ⟨w1.heap.size, 0, none⟩ = some (.int .i64 s) := (hbw.cell (p := ⟨w1.heap.size, 0, none⟩) z4).trans x0
        replace x1 : wr.cell? ⟨w1.heap.size, 1, none⟩ = some (.int .i64 t) := (hbw.cell (p := ⟨w1.heap.size, 1, none⟩) z4).trans x1
        replace x2 : wr.cell? ⟨w1.heap.size, 2, none⟩ = some (.int .i64 k) := (hbw.cell (p := ⟨w1.heap.size, 2, none⟩) z4).trans x2
        replace x3 : wr.cell? ⟨w1.heap.size, 3, none⟩ = some (.int .i64 z) := (hbw.cell (p := ⟨w1.heap.size, 3, none⟩) z4).trans x3
        replace x4 : wr.cell? ⟨w1.heap.size, 4, none⟩ = some (.int .i64 q) := (hbw.cell (p := ⟨w1.heap.size, 4, none⟩) z4).trans x4
        replace x5 : wr.cell? ⟨w1.heap.size, 5, none⟩ = some (.int .i64 l) := (hbw.cell (p := ⟨w1.heap.size, 5, none⟩) z4).trans x5
        replace x6 : wr.cell? ⟨w1.heap.size, 6, none⟩ = some (.int .i64 e) := (hbw.cell (p := ⟨w1.heap.size, 6, none⟩) z4).trans x6
        replace x7 : wr.cell? ⟨w1.heap.size, 7, none⟩ = some (.bool b) := (hbw.cell (p := ⟨w1.heap.size, 7, none⟩) z4).trans x7
        replace x8 : wr.cell? ⟨w1.heap.size, 8, none⟩ = some (.int .i64 v) := (hbw.cell (p := ⟨w1.heap.size, 8, none⟩) z4).trans x8
        replace x9 : wr.cell? ⟨w1.heap.size, 9, none⟩ = some (.int .i64 r) := (hbw.cell (p := ⟨w1.heap.size, 9, none⟩) z4).trans x9
        by_cases hlt : (ix : Int) < (xs.length : Int)
        · obtain ⟨x, hxi⟩ : ∃ x, xs[ix]? = some x := ⟨_, List.getElem?_eq_getElem (by omega)⟩
          have Hxi := hide hxi
          have hxB : x.isB = true := List.all_eq_true.1 (unhide hA) x (List.mem_of_getElem? hxi)
          obtain ⟨ws, hws, hwi, _, _, _, hw1, hw4⟩ := wins_are (unhide hj) (isB_tm hxB)
          have hwo : Hid (winsOf k z q x.tm = ws) := hide (by rw [← hws]; exact (winsAll_tt (unhide hj) (inB_iff.2 (isB_tm hxB))).symm)
          have HxB := hide hxB
          have Hws := hide hws
          have Hwi := hide hwi
          clear hws hwi hxB
          obtain ⟨_, _, hR9⟩ := unhide HR4
          obtain ⟨gr, or_, rfl, hRat⟩ := hR9.resolve_left (by omega)
          have hgr : gr < w4.heap.size := hRat.lt (by omega)
          have HRx := hide (hRat ix x hxi)
          clear hR9 hRat HR4 hxi
          obtain ⟨xq, xt, xk, xv, xn⟩ := x
          obtain ⟨e0, e1, e2, e3, e4⟩ := (unhide HRx).below hbw hgr
          (try dsimp only at e0 e1 e2 e3 e4)
          have He0 := hide e0
          have He2 := hide e2
          have He3 := hide e3
          have He4 := hide e4
          clear e0 e2 e3 e4
          go_wp2_with fail
          refine wp_region_held_drew (S := (fun W => W.cell? ⟨w1.heap.size, 0, none⟩ = some (.int .i64 s) ∧ W.cell? ⟨w1.heap.size, 1, none⟩ = some (.int .i64 t) ∧ W.cell? ⟨w1.heap.size, 2, none⟩ = some (.int .i64 k) ∧ W.cell? ⟨w1.heap.size, 3, none⟩ = some (.int .i64 z) ∧ W.cell? ⟨w1.heap.size, 4, none⟩ = some (.int .i64 q) ∧ W.cell? ⟨w1.heap.size, 5, none⟩ = some (.int .i64 l) ∧ W.cell? ⟨w1.heap.size, 6, none⟩ = some (.int .i64 e) ∧ W.cell? ⟨w1.heap.size, 7, none⟩ = some (.bool b) ∧ W.cell? ⟨w1.heap.size, 8, none⟩ = some (.int .i64 v) ∧ W.cell? ⟨w1.heap.size, 9, none⟩ = some (.int .i64 r) ∧ W.cell? ⟨gr, or_ + ix * 5 + 1, none⟩ = some (.int .i64 xt))) (by kernel_rfl) ?_ (fun hHeld => ?_)
          · (try dsimp only); exact ⟨by first | (with_reducible assumption) | (simp [go_sem, *]; done), by first | (with_reducible assumption) | (simp [go_sem, *]; done), by first | (with_reducible assumption) | (simp [go_sem, *]; done), by first | (with_reducible assumption) | (simp [go_sem, *]; done), by first | (with_reducible assumption) | (simp [go_sem, *]; done), by first | (with_reducible assumption) | (simp [go_sem, *]; done), by first | (with_reducible assumption) | (simp [go_sem, *]; done), by first | (with_reducible assumption) | (simp [go_sem, *]; done), by first | (with_reducible assumption) | (simp [go_sem, *]; done), by first | (with_reducible assumption) | (simp [go_sem, *]; done), by first | (with_reducible assumption) | (simp [go_sem, *]; done)⟩
          refine wpAnyH_take (i := 0) (v := ?_) (by simp only [List.getElem?_toArray, List.getElem?_cons_zero, List.getElem?_cons_succ]; rfl) (by kernel_rfl) (by kernel_rfl) (by kernel_rfl) (by intro _ _ _ h; exact h) (Or.inl ⟨by rfl, ?_⟩) (by assumption) ?_
          rotate_left
          · (intro w9 hSw; (try dsimp only at hSw); go_simp <;> with_reducible rfl)
          try simp only [Act.put, List.setIfInBounds_toArray, List.set_cons_zero, List.set_cons_succ]
          refine wpAnyH_take (i := 1) (v := ?_) (by simp only [List.getElem?_toArray, List.getElem?_cons_zero, List.getElem?_cons_succ]; rfl) (by kernel_rfl) (by kernel_rfl) (by kernel_rfl) (by intro _ _ _ h; exact h) (Or.inl ⟨by rfl, ?_⟩) (by assumption) ?_
          rotate_left
          · (intro w9 hSw; (try dsimp only at hSw); go_simp <;> with_reducible rfl)
          try simp only [Act.put, List.setIfInBounds_toArray, List.set_cons_zero, List.set_cons_succ]
          refine wpAnyH_take (i := 2) (v := ?_) (by simp only [List.getElem?_toArray, List.getElem?_cons_zero, List.getElem?_cons_succ]; rfl) (by kernel_rfl) (by kernel_rfl) (by kernel_rfl) (by intro _ _ _ h; exact h) (Or.inl ⟨by rfl, ?_⟩) (by assumption) ?_
          rotate_left
          · (intro w9 hSw; (try dsimp only at hSw); go_simp <;> with_reducible rfl)
          try simp only [Act.put, List.setIfInBounds_toArray, List.set_cons_zero, List.set_cons_succ]
          refine wpAnyH_take (i := 3) (v := ?_) (by simp only [List.getElem?_toArray, List.getElem?_cons_zero, List.getElem?_cons_succ]; rfl) (by kernel_rfl) (by kernel_rfl) (by kernel_rfl) (by intro _ _ _ h; exact h) (Or.inl ⟨by rfl, ?_⟩) (by assumption) ?_
          rotate_left
          · (intro w9 hSw; (try dsimp only at hSw); go_simp <;> with_reducible rfl)
          try simp only [Act.put, List.setIfInBounds_toArray, List.set_cons_zero, List.set_cons_succ]
          refine wpAnyH_take (i := 4) (v := ?_) (by simp only [List.getElem?_toArray, List.getElem?_cons_zero, List.getElem?_cons_succ]; rfl) (by kernel_rfl) (by kernel_rfl) (by kernel_rfl) (by intro _ _ _ h; exact h) (Or.inl ⟨by rfl, ?_⟩) (by assumption) ?_
          rotate_left
          · (intro w9 hSw; (try dsimp only at hSw); go_simp <;> with_reducible rfl)
          try simp only [Act.put, List.setIfInBounds_toArray, List.set_cons_zero, List.set_cons_succ]
          refine wpAnyH_take (i := 5) (v := ?_) (by simp only [List.getElem?_toArray, List.getElem?_cons_zero, List.getElem?_cons_succ]; rfl) (by kernel_rfl) (by kernel_rfl) (by kernel_rfl) (by intro _ _ _ h; exact h) (Or.inl ⟨by rfl, ?_⟩) (by assumption) ?_
          rotate_left
          · (intro w9 hSw; (try dsimp only at hSw); go_simp <;> with_reducible rfl)
          try simp only [Act.put, List.setIfInBounds_toArray, List.set_cons_zero, List.set_cons_succ]
          refine wpAnyH_ready (rs := [6]) (by kernel_rfl) (by simp) ?_
          refine AllReadyH.cons (by simp only [List.getElem?_toArray, List.getElem?_cons_zero, List.getElem?_cons_succ]; rfl) (fun K hK => ?_) AllReadyH.nil
          go_simp
          (go_at_call 8; refine (implwinof_is s t k z q l e b v r xt _ Hws).mono ?_; rintro e' w6 ⟨v6, rfl, hO6, hb6⟩; obtain ⟨aw, cw, rfl, hW6, _, _⟩ := holdWn hO6 (by omega); have HW6 := hide hW6; clear hO6 hW6; have z6 : w1.heap.size < w6.heap.size := Nat.lt_of_lt_of_le zr hb6.size; have y0 : w6.cell? ⟨w1.heap.size, 0, none⟩ = some (.int .i64 s) := (hb6.cell (p := ⟨w1.heap.size, 0, none⟩) zr).trans x0; have y1 : w6.cell? ⟨w1.heap.size, 1, none⟩ = some (.int .i64 t) := (hb6.cell (p := ⟨w1.heap.size, 1, none⟩) zr).trans x1; have y2 : w6.cell? ⟨w1.heap.size, 2, none⟩ = some (.int .i64 k) := (hb6.cell (p := ⟨w1.heap.size, 2, none⟩) zr).trans x2; have y3 : w6.cell? ⟨w1.heap.size, 3, none⟩ = some (.int .i64 z) := (hb6.cell (p := ⟨w1.heap.size, 3, none⟩) zr).trans x3; have y4 : w6.cell? ⟨w1.heap.size, 4, none⟩ = some (.int .i64 q) := (hb6.cell (p := ⟨w1.heap.size, 4, none⟩) zr).trans x4; have y5 : w6.cell? ⟨w1.heap.size, 5, none⟩ = some (.int .i64 l) := (hb6.cell (p := ⟨w1.heap.size, 5, none⟩) zr).trans x5; have y6 : w6.cell? ⟨w1.heap.size, 6, none⟩ = some (.int .i64 e) := (hb6.cell (p := ⟨w1.heap.size, 6, none⟩) zr).trans x6; have y7 : w6.cell? ⟨w1.heap.size, 7, none⟩ = some (.bool b) := (hb6.cell (p := ⟨w1.heap.size, 7, none⟩) zr).trans x7; have y8 : w6.cell? ⟨w1.heap.size, 8, none⟩ = some (.int .i64 v) := (hb6.cell (p := ⟨w1.heap.size, 8, none⟩) zr).trans x8; have y9 : w6.cell? ⟨w1.heap.size, 9, none⟩ = some (.int .i64 r) := (hb6.cell (p := ⟨w1.heap.size, 9, none⟩) zr).trans x9; have e6 : w6.cell? ⟨gr, or_ + ix * 5 + 1, none⟩ = some (.int .i64 xt) := (hb6.cell (p := ⟨gr, or_ + ix * 5 + 1, none⟩) (Nat.lt_of_lt_of_le hgr hbw.size)).trans e1)
          (try go_wp2_with fail)
          refine hK.out _ _ ?_ (fun hHeld2 => ?_)
          · (try dsimp only); exact ⟨by first | (with_reducible assumption) | (simp [go_sem, *]; done), by first | (with_reducible assumption) | (simp [go_sem, *]; done), by first | (with_reducible assumption) | (simp [go_sem, *]; done), by first | (with_reducible assumption) | (simp [go_sem, *]; done), by first | (with_reducible assumption) | (simp [go_sem, *]; done), by first | (with_reducible assumption) | (simp [go_sem, *]; done), by first | (with_reducible assumption) | (simp [go_sem, *]; done), by first | (with_reducible assumption) | (simp [go_sem, *]; done), by first | (with_reducible assumption) | (simp [go_sem, *]; done), by first | (with_reducible assumption) | (simp [go_sem, *]; done), by first | (with_reducible assumption) | (simp [go_sem, *]; done)⟩
          clear hK K hHeld
          have hHeld := hHeld2
          clear hHeld2
          try simp only [Act.put, List.setIfInBounds_toArray, List.set_cons_zero, List.set_cons_succ]
          refine wpAnyH_take (i := 7) (v := ?_) (by simp only [List.getElem?_toArray, List.getElem?_cons_zero, List.getElem?_cons_succ]; rfl) (by kernel_rfl) (by kernel_rfl) (by kernel_rfl) (by intro _ _ _ h; exact h) (Or.inl ⟨by rfl, ?_⟩) (by assumption) ?_
          rotate_left
          · (intro w9 hSw; (try dsimp only at hSw); go_simp <;> with_reducible rfl)
          try simp only [Act.put, List.setIfInBounds_toArray, List.set_cons_zero, List.set_cons_succ]
          refine wpAnyH_done (by kernel_rfl) ?_ _
          clear hHeld y0 y1 y2 y3 y4 y5 y6 y7 y8 y9 e6
          have hb46 : Below w4.heap.size w4 w6 := hbw.trans ((bel_trans (bel_drew (Below.refl _ _)) hb6).mono hbw.size)
          clear hb6
          obtain ⟨_, _, hW9⟩ := unhide HW6
          obtain ⟨gw, ow, rfl, hWat⟩ := hW9.resolve_left (by omega)
          have hgw : gw < w6.heap.size := hWat.lt (by omega)
          have HWa := hide hWat
          clear hW9 hWat HW6
          go_wp2
          go_loopw [6, 9] (fun n mi wr => ∃ m nn : Nat, m ≤ ws.length ∧ mi = .int .i64 m ∧ n = .int .i64 nn ∧ Hid (nn = nx + m) ∧ Below w6.heap.size w6 wr) (fun _ mi _ => ws.length - (intOf mi).toNat)
          case atStart => exact ⟨0, nx, Nat.zero_le _, rfl, rfl, hide rfl, Below.refl _ _⟩
          case round =>
            obtain ⟨m, nn, hm9, rfl, rfl, Hnn, hbw2⟩ := hrel
            by_cases hlm : (m : Int) < (ws.length : Int)
            · obtain ⟨y, hyi⟩ : ∃ y, ws[m]? = some y := ⟨_, List.getElem?_eq_getElem (by omega)⟩
              have hat := prsT_at (k := k) (z := z) (p := q) (unhide Hxi) (m := m) (y := y) (by rw [unhide hwo]; exact hyi)
              rw [← unhide hP, ← unhide Hnx, ← unhide Hnn] at hat
              have hnl : nn < RR.length := (List.getElem?_eq_some_iff.1 hat).1
              have hyo := hide (okLat_of (unhide hj) (unhide HxB) (unhide Hwi m y hyi))
              have HLc := hide (unhide HLa nn _ hat)
              have HWc := hide (unhide HWa m y hyi)
              have HRr := hide (((unhide HRx).below (hb46.trans (hbw2.mono hb46.size)) hgr))
              obtain ⟨ya, yb⟩ := y
              obtain ⟨l0, l1, l2, l3, l4, l5, l6⟩ := (unhide HLc).below (hb46.trans (hbw2.mono hb46.size)) hgl
              obtain ⟨r0, r1, r2, r3, r4⟩ := unhide HRr
              obtain ⟨c0, c1⟩ := (unhide HWc).below hbw2 hgw
              (try dsimp only [mkP] at l0 l1 l2 l3 l4 l5 l6 r0 r1 r2 r3 r4 c0 c1 hyo)
              have hgeI : ¬ (RR.length : Int) ≤ (nn : Int) := by omega
              have hgeD : decide ((RR.length : Int) ≤ (nn : Int)) = false := decide_eq_false hgeI
              have hgeN : decide (RR.length ≤ nn) = false := decide_eq_false (by omega)
              have Hhat := hide hat
              have Hyi := hide hyi
              have hnn2 : nn + 1 ≤ 7320 := by omega
              have zg : gl < wr.heap.size ∧ gr < wr.heap.size ∧ gw < wr.heap.size := ⟨Nat.lt_of_lt_of_le (Nat.lt_of_lt_of_le hgl hb46.size) hbw2.size, Nat.lt_of_lt_of_le (Nat.lt_of_lt_of_le hgr hb46.size) hbw2.size, Nat.lt_of_lt_of_le hgw hbw2.size⟩
              clear hat hyi HLc HWc HRr e1 x0 x1 x2 x3 x4 x5 x6 x7 x8 x9
              go_wp2_with fail
              refine wp_region_held_drew (S := (fun W => W.cell? ⟨gl, ol + nn * 7, none⟩ = some (.int .i64 xq) ∧ W.cell? ⟨gl, ol + nn * 7 + 1, none⟩ = some (.int .i64 xt) ∧ W.cell? ⟨gl, ol + nn * 7 + 2, none⟩ = some (.int .i64 xk) ∧ W.cell? ⟨gl, ol + nn * 7 + 3, none⟩ = some (.int .i64 xv) ∧ W.cell? ⟨gl, ol + nn * 7 + 4, none⟩ = some (.int .i64 xn) ∧ W.cell? ⟨gl, ol + nn * 7 + 5, none⟩ = some (.int .i64 ya) ∧ W.cell? ⟨gl, ol + nn * 7 + 6, none⟩ = some (.int .i64 yb) ∧ W.cell? ⟨gr, or_ + ix * 5, none⟩ = some (.int .i64 xq) ∧ W.cell? ⟨gr, or_ + ix * 5 + 1, none⟩ = some (.int .i64 xt) ∧ W.cell? ⟨gr, or_ + ix * 5 + 2, none⟩ = some (.int .i64 xk) ∧ W.cell? ⟨gr, or_ + ix * 5 + 3, none⟩ = some (.int .i64 xv) ∧ W.cell? ⟨gr, or_ + ix * 5 + 4, none⟩ = some (.int .i64 xn) ∧ W.cell? ⟨gw, ow + m * 2, none⟩ = some (.int .i64 ya) ∧ W.cell? ⟨gw, ow + m * 2 + 1, none⟩ = some (.int .i64 yb))) (by kernel_rfl) ?_ (fun hHeld => ?_)
              · (try dsimp only); exact ⟨by first | (with_reducible assumption) | (simp [go_sem, *]; done), by first | (with_reducible assumption) | (simp [go_sem, *]; done), by first | (with_reducible assumption) | (simp [go_sem, *]; done), by first | (with_reducible assumption) | (simp [go_sem, *]; done), by first | (with_reducible assumption) | (simp [go_sem, *]; done), by first | (with_reducible assumption) | (simp [go_sem, *]; done), by first | (with_reducible assumption) | (simp [go_sem, *]; done), by first | (with_reducible assumption) | (simp [go_sem, *]; done), by first | (with_reducible assumption) | (simp [go_sem, *]; done), by first | (with_reducible assumption) | (simp [go_sem, *]; done), by first | (with_reducible assumption) | (simp [go_sem, *]; done), by first | (with_reducible assumption) | (simp [go_sem, *]; done), by first | (with_reducible assumption) | (simp [go_sem, *]; done), by first | (with_reducible assumption) | (simp [go_sem, *]; done)⟩
              refine wpAnyH_take (i := 0) (v := ?_) (by simp only [List.getElem?_toArray, List.getElem?_cons_zero, List.getElem?_cons_succ]; rfl) (by kernel_rfl) (by kernel_rfl) (by kernel_rfl) (by intro _ _ _ h; exact h) (Or.inl ⟨by rfl, ?_⟩) (by assumption) ?_
              rotate_left
              · (intro w9 hSw; (try dsimp only at hSw); go_simp <;> with_reducible rfl)
              try simp only [Act.put, List.setIfInBounds_toArray, List.set_cons_zero, List.set_cons_succ]
              refine wpAnyH_take (i := 1) (v := ?_) (by simp only [List.getElem?_toArray, List.getElem?_cons_zero, List.getElem?_cons_succ]; rfl) (by kernel_rfl) (by kernel_rfl) (by kernel_rfl) (by intro _ _ _ h; exact h) (Or.inl ⟨by rfl, ?_⟩) (by assumption) ?_
              rotate_left
              · (intro w9 hSw; (try dsimp only at hSw); go_simp <;> with_reducible rfl)
              try simp only [Act.put, List.setIfInBounds_toArray, List.set_cons_zero, List.set_cons_succ]
              refine wpAnyH_take (i := 2) (v := ?_) (by simp only [List.getElem?_toArray, List.getElem?_cons_zero, List.getElem?_cons_succ]; rfl) (by kernel_rfl) (by kernel_rfl) (by kernel_rfl) (by intro _ _ _ h; exact h) (Or.inl ⟨by rfl, ?_⟩) (by assumption) ?_
              rotate_left
              · (intro w9 hSw; (try dsimp only at hSw); go_simp <;> with_reducible rfl)
              try simp only [Act.put, List.setIfInBounds_toArray, List.set_cons_zero, List.set_cons_succ]
              refine wpAnyH_take (i := 3) (v := ?_) (by simp only [List.getElem?_toArray, List.getElem?_cons_zero, List.getElem?_cons_succ]; rfl) (by kernel_rfl) (by kernel_rfl) (by kernel_rfl) (by intro _ _ _ h; exact h) (Or.inl ⟨by rfl, ?_⟩) (by assumption) ?_
              rotate_left
              · (intro w9 hSw; (try dsimp only at hSw); go_simp <;> with_reducible rfl)
              try simp only [Act.put, List.setIfInBounds_toArray, List.set_cons_zero, List.set_cons_succ]
              refine wpAnyH_take (i := 4) (v := ?_) (by simp only [List.getElem?_toArray, List.getElem?_cons_zero, List.getElem?_cons_succ]; rfl) (by kernel_rfl) (by kernel_rfl) (by kernel_rfl) (by intro _ _ _ h; exact h) (Or.inl ⟨by rfl, ?_⟩) (by assumption) ?_
              rotate_left
              · (intro w9 hSw; (try dsimp only at hSw); go_simp <;> with_reducible rfl)
              try simp only [Act.put, List.setIfInBounds_toArray, List.set_cons_zero, List.set_cons_succ]
              refine wpAnyH_take (i := 5) (v := ?_) (by simp only [List.getElem?_toArray, List.getElem?_cons_zero, List.getElem?_cons_succ]; rfl) (by kernel_rfl) (by kernel_rfl) (by kernel_rfl) (by intro _ _ _ h; exact h) (Or.inl ⟨by rfl, ?_⟩) (by assumption) ?_
              rotate_left
              · (intro w9 hSw; (try dsimp only at hSw); go_simp <;> with_reducible rfl)
              try simp only [Act.put, List.setIfInBounds_toArray, List.set_cons_zero, List.set_cons_succ]
              refine wpAnyH_take (i := 6) (v := ?_) (by simp only [List.getElem?_toArray, List.getElem?_cons_zero, List.getElem?_cons_succ]; rfl) (by kernel_rfl) (by kernel_rfl) (by kernel_rfl) (by intro _ _ _ h; exact h) (Or.inl ⟨by rfl, ?_⟩) (by assumption) ?_
              rotate_left
              · (intro w9 hSw; (try dsimp only at hSw); go_simp <;> with_reducible rfl)
              try simp only [Act.put, List.setIfInBounds_toArray, List.set_cons_zero, List.set_cons_succ]
              refine wpAnyH_take (i := 7) (v := ?_) (by simp only [List.getElem?_toArray, List.getElem?_cons_zero, List.getElem?_cons_succ]; rfl) (by kernel_rfl) (by kernel_rfl) (by kernel_rfl) (by intro _ _ _ h; exact h) (Or.inl ⟨by rfl, ?_⟩) (by assumption) ?_
              rotate_left
              · (intro w9 hSw; (try dsimp only at hSw); go_simp <;> with_reducible rfl)
              try simp only [Act.put, List.setIfInBounds_toArray, List.set_cons_zero, List.set_cons_succ]
              refine wpAnyH_take (i := 8) (v := ?_) (by simp only [List.getElem?_toArray, List.getElem?_cons_zero, List.getElem?_cons_succ]; rfl) (by kernel_rfl) (by kernel_rfl) (by kernel_rfl) (by intro _ _ _ h; exact h) (Or.inl ⟨by rfl, ?_⟩) (by assumption) ?_
              rotate_left
              · (intro w9 hSw; (try dsimp only at hSw); go_simp <;> with_reducible rfl)
              try simp only [Act.put, List.setIfInBounds_toArray, List.set_cons_zero, List.set_cons_succ]
              refine wpAnyH_take (i := 9) (v := ?_) (by simp only [List.getElem?_toArray, List.getElem?_cons_zero, List.getElem?_cons_succ]; rfl) (by kernel_rfl) (by kernel_rfl) (by kernel_rfl) (by intro _ _ _ h; exact h) (Or.inl ⟨by rfl, ?_⟩) (by assumption) ?_
              rotate_left
              · (intro w9 hSw; (try dsimp only at hSw); go_simp <;> with_reducible rfl)
              try simp only [Act.put, List.setIfInBounds_toArray, List.set_cons_zero, List.set_cons_succ]
              refine wpAnyH_take (i := 10) (v := ?_) (by simp only [List.getElem?_toArray, List.getElem?_cons_zero, List.getElem?_cons_succ]; rfl) (by kernel_rfl) (by kernel_rfl) (by kernel_rfl) (by intro _ _ _ h; exact h) (Or.inl ⟨by rfl, ?_⟩) (by assumption) ?_
              rotate_left
              · (intro w9 hSw; (try dsimp only at hSw); go_simp <;> with_reducible rfl)
              try simp only [Act.put, List.setIfInBounds_toArray, List.set_cons_zero, List.set_cons_succ]
              refine wpAnyH_take (i := 11) (v := ?_) (by simp only [List.getElem?_toArray, List.getElem?_cons_zero, List.getElem?_cons_succ]; rfl) (by kernel_rfl) (by kernel_rfl) (by kernel_rfl) (by intro _ _ _ h; exact h) (Or.inl ⟨by rfl, ?_⟩) (by assumption) ?_
              rotate_left
              · (intro w9 hSw; (try dsimp only at hSw); go_simp <;> with_reducible rfl)
              try simp only [Act.put, List.setIfInBounds_toArray, List.set_cons_zero, List.set_cons_succ]
              refine wpAnyH_take (i := 12) (v := ?_) (by simp only [List.getElem?_toArray, List.getElem?_cons_zero, List.getElem?_cons_succ]; rfl) (by kernel_rfl) (by kernel_rfl) (by kernel_rfl) (by intro _ _ _ h; exact h) (Or.inl ⟨by rfl, ?_⟩) (by assumption) ?_
              rotate_left
              · (intro w9 hSw; (try dsimp only at hSw); go_simp <;> with_reducible rfl)
              try simp only [Act.put, List.setIfInBounds_toArray, List.set_cons_zero, List.set_cons_succ]
              refine wpAnyH_take (i := 13) (v := ?_) (by simp only [List.getElem?_toArray, List.getElem?_cons_zero, List.getElem?_cons_succ]; rfl) (by kernel_rfl) (by kernel_rfl) (by kernel_rfl) (by intro _ _ _ h; exact h) (Or.inl ⟨by rfl, ?_⟩) (by assumption) ?_
              rotate_left
              · (intro w9 hSw; (try dsimp only at hSw); go_simp <;> with_reducible rfl)
              try simp only [Act.put, List.setIfInBounds_toArray, List.set_cons_zero, List.set_cons_succ]
              refine wpAnyH_take (i := 14) (v := ?_) (by simp only [List.getElem?_toArray, List.getElem?_cons_zero, List.getElem?_cons_succ]; rfl) (by kernel_rfl) (by kernel_rfl) (by kernel_rfl) (by intro _ _ _ h; exact h) (Or.inl ⟨by rfl, ?_⟩) (by assumption) ?_
              rotate_left
              · (intro w9 hSw; (try dsimp only at hSw); go_simp <;> with_reducible rfl)
              try simp only [Act.put, List.setIfInBounds_toArray, List.set_cons_zero, List.set_cons_succ]
              refine wpAnyH_take (i := 15) (v := ?_) (by simp only [List.getElem?_toArray, List.getElem?_cons_zero, List.getElem?_cons_succ]; rfl) (by kernel_rfl) (by kernel_rfl) (by kernel_rfl) (by intro _ _ _ h; exact h) (Or.inl ⟨by rfl, ?_⟩) (by assumption) ?_
              rotate_left
              · (intro w9 hSw; (try dsimp only at hSw); go_simp <;> with_reducible rfl)
              try simp only [Act.put, List.setIfInBounds_toArray, List.set_cons_zero, List.set_cons_succ]
              refine wpAnyH_take (i := 16) (v := ?_) (by simp only [List.getElem?_toArray, List.getElem?_cons_zero, List.getElem?_cons_succ]; rfl) (by kernel_rfl) (by kernel_rfl) (by kernel_rfl) (by intro _ _ _ h; exact h) (Or.inl ⟨by rfl, ?_⟩) (by assumption) ?_
              rotate_left
              · (intro w9 hSw; (try dsimp only at hSw); go_simp <;> with_reducible rfl)
              try simp only [Act.put, List.setIfInBounds_toArray, List.set_cons_zero, List.set_cons_succ]
              refine wpAnyH_take (i := 17) (v := ?_) (by simp only [List.getElem?_toArray, List.getElem?_cons_zero, List.getElem?_cons_succ]; rfl) (by kernel_rfl) (by kernel_rfl) (by kernel_rfl) (by intro _ _ _ h; exact h) (Or.inl ⟨by rfl, ?_⟩) (by assumption) ?_
              rotate_left
              · (intro w9 hSw; (try dsimp only at hSw); go_simp <;> with_reducible rfl)
              try simp only [Act.put, List.setIfInBounds_toArray, List.set_cons_zero, List.set_cons_succ]
              refine wpAnyH_take (i := 18) (v := ?_) (by simp only [List.getElem?_toArray, List.getElem?_cons_zero, List.getElem?_cons_succ]; rfl) (by kernel_rfl) (by kernel_rfl) (by kernel_rfl) (by intro _ _ _ h; exact h) (Or.inl ⟨by rfl, ?_⟩) (by assumption) ?_
              rotate_left
              · (intro w9 hSw; (try dsimp only at hSw); go_simp <;> with_reducible rfl)
              try simp only [Act.put, List.setIfInBounds_toArray, List.set_cons_zero, List.set_cons_succ]
              refine wpAnyH_take (i := 19) (v := ?_) (by simp only [List.getElem?_toArray, List.getElem?_cons_zero, List.getElem?_cons_succ]; rfl) (by kernel_rfl) (by kernel_rfl) (by kernel_rfl) (by intro _ _ _ h; exact h) (Or.inl ⟨by rfl, ?_⟩) (by assumption) ?_
              rotate_left
              · (intro w9 hSw; (try dsimp only at hSw); go_simp <;> with_reducible rfl)
              try simp only [Act.put, List.setIfInBounds_toArray, List.set_cons_zero, List.set_cons_succ]
              refine wpAnyH_take (i := 20) (v := ?_) (by simp only [List.getElem?_toArray, List.getElem?_cons_zero, List.getElem?_cons_succ]; rfl) (by kernel_rfl) (by kernel_rfl) (by kernel_rfl) (by intro _ _ _ h; exact h) (Or.inl ⟨by rfl, ?_⟩) (by assumption) ?_
              rotate_left
              · (intro w9 hSw; (try dsimp only at hSw); go_simp <;> with_reducible rfl)
              try simp only [Act.put, List.setIfInBounds_toArray, List.set_cons_zero, List.set_cons_succ]
              refine wpAnyH_take (i := 21) (v := ?_) (by simp only [List.getElem?_toArray, List.getElem?_cons_zero, List.getElem?_cons_succ]; rfl) (by kernel_rfl) (by kernel_rfl) (by kernel_rfl) (by intro _ _ _ h; exact h) (Or.inl ⟨by rfl, ?_⟩) (by assumption) ?_
              rotate_left
              · (intro w9 hSw; (try dsimp only at hSw); go_simp <;> with_reducible rfl)
              try simp only [Act.put, List.setIfInBounds_toArray, List.set_cons_zero, List.set_cons_succ]
              refine wpAnyH_take (i := 22) (v := ?_) (by simp only [List.getElem?_toArray, List.getElem?_cons_zero, List.getElem?_cons_succ]; rfl) (by kernel_rfl) (by kernel_rfl) (by kernel_rfl) (by intro _ _ _ h; exact h) (Or.inl ⟨by rfl, ?_⟩) (by assumption) ?_
              rotate_left
              · (intro w9 hSw; (try dsimp only at hSw); go_simp <;> with_reducible rfl)
              try simp only [Act.put, List.setIfInBounds_toArray, List.set_cons_zero, List.set_cons_succ]
              refine wpAnyH_take (i := 23) (v := ?_) (by simp only [List.getElem?_toArray, List.getElem?_cons_zero, List.getElem?_cons_succ]; rfl) (by kernel_rfl) (by kernel_rfl) (by kernel_rfl) (by intro _ _ _ h; exact h) (Or.inl ⟨by rfl, ?_⟩) (by assumption) ?_
              rotate_left
              · (intro w9 hSw; (try dsimp only at hSw); go_simp <;> with_reducible rfl)
              try simp only [Act.put, List.setIfInBounds_toArray, List.set_cons_zero, List.set_cons_succ]
              refine wpAnyH_take (i := 24) (v := ?_) (by simp only [List.getElem?_toArray, List.getElem?_cons_zero, List.getElem?_cons_succ]; rfl) (by kernel_rfl) (by kernel_rfl) (by kernel_rfl) (by intro _ _ _ h; exact h) (Or.inl ⟨by rfl, ?_⟩) (by assumption) ?_
              rotate_left
              · (intro w9 hSw; (try dsimp only at hSw); go_simp <;> with_reducible rfl)
              try simp only [Act.put, List.setIfInBounds_toArray, List.set_cons_zero, List.set_cons_succ]
              refine wpAnyH_take (i := 25) (v := ?_) (by simp only [List.getElem?_toArray, List.getElem?_cons_zero, List.getElem?_cons_succ]; rfl) (by kernel_rfl) (by kernel_rfl) (by kernel_rfl) (by intro _ _ _ h; exact h) (Or.inl ⟨by rfl, ?_⟩) (by assumption) ?_
              rotate_left
              · (intro w9 hSw; (try dsimp only at hSw); go_simp <;> with_reducible rfl)
              try simp only [Act.put, List.setIfInBounds_toArray, List.set_cons_zero, List.set_cons_succ]
              refine wpAnyH_take (i := 26) (v := ?_) (by simp only [List.getElem?_toArray, List.getElem?_cons_zero, List.getElem?_cons_succ]; rfl) (by kernel_rfl) (by kernel_rfl) (by kernel_rfl) (by intro _ _ _ h; exact h) (Or.inl ⟨by rfl, ?_⟩) (by assumption) ?_
              rotate_left
              · (intro w9 hSw; (try dsimp only at hSw); go_simp <;> with_reducible rfl)
              try simp only [Act.put, List.setIfInBounds_toArray, List.set_cons_zero, List.set_cons_succ]
              refine wpAnyH_take (i := 27) (v := ?_) (by simp only [List.getElem?_toArray, List.getElem?_cons_zero, List.getElem?_cons_succ]; rfl) (by kernel_rfl) (by kernel_rfl) (by kernel_rfl) (by intro _ _ _ h; exact h) (Or.inl ⟨by rfl, ?_⟩) (by assumption) ?_
              rotate_left
              · (intro w9 hSw; (try dsimp only at hSw); go_simp <;> with_reducible rfl)
              try simp only [Act.put, List.setIfInBounds_toArray, List.set_cons_zero, List.set_cons_succ]
              refine wpAnyH_take (i := 28) (v := ?_) (by simp only [List.getElem?_toArray, List.getElem?_cons_zero, List.getElem?_cons_succ]; rfl) (by kernel_rfl) (by kernel_rfl) (by kernel_rfl) (by intro _ _ _ h; exact h) (Or.inl ⟨by rfl, ?_⟩) (by assumption) ?_
              rotate_left
              · (intro w9 hSw; (try dsimp only at hSw); go_simp <;> with_reducible rfl)
              try simp only [Act.put, List.setIfInBounds_toArray, List.set_cons_zero, List.set_cons_succ]
              refine wpAnyH_take (i := 29) (v := ?_) (by simp only [List.getElem?_toArray, List.getElem?_cons_zero, List.getElem?_cons_succ]; rfl) (by kernel_rfl) (by kernel_rfl) (by kernel_rfl) (by intro _ _ _ h; exact h) (Or.inl ⟨by rfl, ?_⟩) (by assumption) ?_
              rotate_left
              · (intro w9 hSw; (try dsimp only at hSw); go_simp <;> with_reducible rfl)
              try simp only [Act.put, List.setIfInBounds_toArray, List.set_cons_zero, List.set_cons_succ]
              refine wpAnyH_take (i := 30) (v := ?_) (by simp only [List.getElem?_toArray, List.getElem?_cons_zero, List.getElem?_cons_succ]; rfl) (by kernel_rfl) (by kernel_rfl) (by kernel_rfl) (by intro _ _ _ h; exact h) (Or.inl ⟨by rfl, ?_⟩) (by assumption) ?_
              rotate_left
              · (intro w9 hSw; (try dsimp only at hSw); go_simp <;> with_reducible rfl)
              try simp only [Act.put, List.setIfInBounds_toArray, List.set_cons_zero, List.set_cons_succ]
              refine wpAnyH_take (i := 31) (v := ?_) (by simp only [List.getElem?_toArray, List.getElem?_cons_zero, List.getElem?_cons_succ]; rfl) (by kernel_rfl) (by kernel_rfl) (by kernel_rfl) (by intro _ _ _ h; exact h) (Or.inl ⟨by rfl, ?_⟩) (by assumption) ?_
              rotate_left
              · (intro w9 hSw; (try dsimp only at hSw); go_simp <;> with_reducible rfl)
              try simp only [Act.put, List.setIfInBounds_toArray, List.set_cons_zero, List.set_cons_succ]
              refine wpAnyH_take (i := 32) (v := ?_) (by simp only [List.getElem?_toArray, List.getElem?_cons_zero, List.getElem?_cons_succ]; rfl) (by kernel_rfl) (by kernel_rfl) (by kernel_rfl) (by intro _ _ _ h; exact h) (Or.inl ⟨by rfl, ?_⟩) (by assumption) ?_
              rotate_left
              · (intro w9 hSw; (try dsimp only at hSw); go_simp <;> with_reducible rfl)
              try simp only [Act.put, List.setIfInBounds_toArray, List.set_cons_zero, List.set_cons_succ]
              refine wpAnyH_ready (rs := [33]) (by kernel_rfl) (by simp) ?_
              refine AllReadyH.cons (by simp only [List.getElem?_toArray, List.getElem?_cons_zero, List.getElem?_cons_succ]; rfl) (fun K hK => ?_) AllReadyH.nil
              go_simp
              (go_at_call 9; refine (latok_is xq xt xk xv xn ya yb _ hyo).mono ?_; rintro e' w7 ⟨rfl, hb7⟩; have nl0 : w7.cell? ⟨gl, ol + nn * 7, none⟩ = some (.int .i64 xq) := (hb7.cell (p := ⟨gl, ol + nn * 7, none⟩) zg.1).trans l0; have nl1 : w7.cell? ⟨gl, ol + nn * 7 + 1, none⟩ = some (.int .i64 xt) := (hb7.cell (p := ⟨gl, ol + nn * 7 + 1, none⟩) zg.1).trans l1; have nl2 : w7.cell? ⟨gl, ol + nn * 7 + 2, none⟩ = some (.int .i64 xk) := (hb7.cell (p := ⟨gl, ol + nn * 7 + 2, none⟩) zg.1).trans l2; have nl3 : w7.cell? ⟨gl, ol + nn * 7 + 3, none⟩ = some (.int .i64 xv) := (hb7.cell (p := ⟨gl, ol + nn * 7 + 3, none⟩) zg.1).trans l3; have nl4 : w7.cell? ⟨gl, ol + nn * 7 + 4, none⟩ = some (.int .i64 xn) := (hb7.cell (p := ⟨gl, ol + nn * 7 + 4, none⟩) zg.1).trans l4; have nl5 : w7.cell? ⟨gl, ol + nn * 7 + 5, none⟩ = some (.int .i64 ya) := (hb7.cell (p := ⟨gl, ol + nn * 7 + 5, none⟩) zg.1).trans l5; have nl6 : w7.cell? ⟨gl, ol + nn * 7 + 6, none⟩ = some (.int .i64 yb) := (hb7.cell (p := ⟨gl, ol + nn * 7 + 6, none⟩) zg.1).trans l6; have nr0 : w7.cell? ⟨gr, or_ + ix * 5, none⟩ = some (.int .i64 xq) := (hb7.cell (p := ⟨gr, or_ + ix * 5, none⟩) zg.2.1).trans r0; have nr1 : w7.cell? ⟨gr, or_ + ix * 5 + 1, none⟩ = some (.int .i64 xt) := (hb7.cell (p := ⟨gr, or_ + ix * 5 + 1, none⟩) zg.2.1).trans r1; have nr2 : w7.cell? ⟨gr, or_ + ix * 5 + 2, none⟩ = some (.int .i64 xk) := (hb7.cell (p := ⟨gr, or_ + ix * 5 + 2, none⟩) zg.2.1).trans r2; have nr3 : w7.cell? ⟨gr, or_ + ix * 5 + 3, none⟩ = some (.int .i64 xv) := (hb7.cell (p := ⟨gr, or_ + ix * 5 + 3, none⟩) zg.2.1).trans r3; have nr4 : w7.cell? ⟨gr, or_ + ix * 5 + 4, none⟩ = some (.int .i64 xn) := (hb7.cell (p := ⟨gr, or_ + ix * 5 + 4, none⟩) zg.2.1).trans r4; have nc0 : w7.cell? ⟨gw, ow + m * 2, none⟩ = some (.int .i64 ya) := (hb7.cell (p := ⟨gw, ow + m * 2, none⟩) zg.2.2).trans c0; have nc1 : w7.cell? ⟨gw, ow + m * 2 + 1, none⟩ = some (.int .i64 yb) := (hb7.cell (p := ⟨gw, ow + m * 2 + 1, none⟩) zg.2.2).trans c1)
              (try go_wp2_with fail)
              refine hK.out _ _ ?_ (fun hHeld2 => ?_)
              · (try dsimp only); exact ⟨by first | (with_reducible assumption) | (simp [go_sem, *]; done), by first | (with_reducible assumption) | (simp [go_sem, *]; done), by first | (with_reducible assumption) | (simp [go_sem, *]; done), by first | (with_reducible assumption) | (simp [go_sem, *]; done), by first | (with_reducible assumption) | (simp [go_sem, *]; done), by first | (with_reducible assumption) | (simp [go_sem, *]; done), by first | (with_reducible assumption) | (simp [go_sem, *]; done), by first | (with_reducible assumption) | (simp [go_sem, *]; done), by first | (with_reducible assumption) | (simp [go_sem, *]; done), by first | (with_reducible assumption) | (simp [go_sem, *]; done), by first | (with_reducible assumption) | (simp [go_sem, *]; done), by first | (with_reducible assumption) | (simp [go_sem, *]; done), by first | (with_reducible assumption) | (simp [go_sem, *]; done), by first | (with_reducible assumption) | (simp [go_sem, *]; done)⟩
              clear hK K hHeld
              have hHeld := hHeld2
              clear hHeld2
              try simp only [Act.put, List.setIfInBounds_toArray, List.set_cons_zero, List.set_cons_succ]
              refine wpAnyH_take (i := 34) (v := ?_) (by simp only [List.getElem?_toArray, List.getElem?_cons_zero, List.getElem?_cons_succ]; rfl) (by kernel_rfl) (by kernel_rfl) (by kernel_rfl) (by intro _ _ _ h; exact h) (Or.inl ⟨by rfl, ?_⟩) (by assumption) ?_
              rotate_left
              · (intro w9 hSw; (try dsimp only at hSw); go_simp <;> with_reducible rfl)
              try simp only [Act.put, List.setIfInBounds_toArray, List.set_cons_zero, List.set_cons_succ]
              refine wpAnyH_take (i := 35) (v := ?_) (by simp only [List.getElem?_toArray, List.getElem?_cons_zero, List.getElem?_cons_succ]; rfl) (by kernel_rfl) (by kernel_rfl) (by kernel_rfl) (by intro _ _ _ h; exact h) (Or.inl ⟨by rfl, ?_⟩) (by assumption) ?_
              rotate_left
              · (intro w9 hSw; (try dsimp only at hSw); go_simp <;> with_reducible rfl)
              try simp only [Act.put, List.setIfInBounds_toArray, List.set_cons_zero, List.set_cons_succ]
              refine wpAnyH_done (by kernel_rfl) ?_ _
              clear hHeld
              go_wp2
              go_roundw
              case rel => exact ⟨m + 1, nn + 1, by omega, by go_num, by go_num, hide (by rw [unhide Hnn]; omega), hbw2.trans ((bel_trans (bel_drew (Below.refl _ _)) hb7).mono hbw2.size)⟩
              case measure => simp [intOf]; omega
            · have hmw : m = ws.length := by omega
              have hbo : Below w4.heap.size w4 wr := hb46.trans (hbw2.mono hb46.size)
              have Hn2 : Hid (nn = (prsT k z q (xs.take (ix + 1))).length) := hide (by rw [prsT_next (unhide Hxi), unhide hwo, ← unhide Hnx, unhide Hnn, hmw])
              have hnl : nn ≤ 7320 := by
                have h9 : nn ≤ xs.length * 61 := by rw [unhide Hn2]; exact Nat.le_trans (prsT_len _ _ _ _) (by rw [List.length_take]; omega)
                omega
              clear hmw e1 x0 x1 x2 x3 x4 x5 x6 x7 x8 x9
              go_wp2
              go_roundw
              case rel => exact ⟨ix + 1, nn, by omega, by go_num, rfl, Hn2, hnl, hbo⟩
              case measure => simp [intOf]; omega
        · have hie : ix = xs.length := by omega
          have hnE : nx = RR.length := by rw [unhide Hnx, hie]; exact unhide hfin
          have hEb : ((nx : Int) == (RR.length : Int)) = true := by simp [hnE]
          have hEn : (nx == RR.length) = true := by simp [hnE]
          clear hie hnE x0 x1 x2 x3 x4 x5 x6 x7 x8 x9
          go_wp2_with fail
          refine (frok_any _).mono ?_
          rintro e' w8 ⟨rfl, hb8⟩
          go_wp2
          go_ret
          exact ⟨rfl, bel_trans hbF (bel_trans hbw hb8)⟩
  · go_enter Try.func3, Try.ntmps3
    go_wp2
    go_ret
    exact ⟨rfl, Below.refl _ _⟩
end Go.Proofs.Ytmlnddbbpdijoaa
