/- Laid together: what the claim needs of the texts that were built one by one. -/
import Derived.Test.YtblmhpngaccllaaPkTabOfD
import Derived.Test.YtblmhpngaccllaaPkTabOfI
import Derived.Test.YtblmhpngaccllaaPkTabFnd2
import Derived.Test.YtblmhpngaccllaaPkTabOutI
import Derived.Test.YtblmhpngaccllaaPkPutI
import Derived.Test.YtblmhpngaccllaaPkFrTab
import Derived.Test.YtblmhpngaccllaaPkFrOk
import Derived.Test.YtblmhpngaccllaaPkBase
namespace Go.Proofs.Ytblmhpngaccllaa
open Go.ChangeShapes Go.WideShapes Go.ChangeAt Go.RowKit
set_option linter.unusedVariables false
set_option linter.unusedSimpArgs false

theorem PnB.ok {x : PnR} (h : PnB x) : ok3 (plP x) := by
  obtain ⟨ky, st, en, no, kd, n, su, le, mo⟩ := x
  obtain ⟨h1, h2, h3⟩ := h
  dsimp only at h1 h2 h3
  exact ⟨WalkArith.wf_i64 (n := ky) ⟨by omega, by omega⟩, WalkArith.wf_i64 (n := st) ⟨by omega, by omega⟩, WalkArith.wf_i64 (n := en) ⟨by omega, by omega⟩⟩

theorem sameT_self (xs : List TbR) : sameT xs xs = true := sameT_all rfl (fun k x y h1 h2 => by rw [h1] at h2; cases h2; simp [eqR])

theorem frtab_eq (a1 a2 : Option Addr) (len cap1 cap2 : Nat) (xs : List TbR) (w : World) (h : TbRs w a1 len xs) (h' : TbRs w a2 len xs) : Calls Try.prog 6 #[.slice a1 len cap1, .slice a2 len cap2] w fun e w' => e = .returned (.bool true) ∧ Below w.heap.size w w' := by
  have h9 := frtab_any a1 a2 len cap1 len cap2 xs xs w h h'
  rw [sameT_self] at h9
  exact h9

theorem spectab_r (pc : Bool) (a : Option Addr) (len cap : Nat) (ps : List PnR) (w : World) (RR : List TbR) (h : PnRs w a len ps) (hl : len ≤ 1000) (hR : Hid (tabOfL pc ps = RR)) : Calls Try.prog 7 #[.slice a len cap, .bool pc] w fun e w' => ∃ ar cr, e = .returned (.slice ar RR.length cr) ∧ TbRs w' ar RR.length RR ∧ Below w.heap.size w w' := by
  refine (spectabof_any pc a len cap ps w h (by omega)).mono ?_
  rintro e w' ⟨v, rfl, hO, hb⟩
  have hL := tabOfL_len pc ps
  rw [unhide hR] at hO hL
  have := h.1
  obtain ⟨ar, cr, rfl, H, _, _⟩ := holdTb hO (by omega)
  exact ⟨ar, cr, rfl, H, hb⟩

theorem impltab_r (pc : Bool) (a : Option Addr) (len cap : Nat) (ps : List PnR) (w : World) (RR : List TbR) (h : PnRs w a len ps) (hl : len ≤ 1000) (hok : ∀ p ∈ ps, ok3 (plP p)) (hR : Hid (tabOfL pc ps = RR)) : Calls Try.prog 5 #[.slice a len cap, .bool pc] w fun e w' => ∃ ar cr, e = .returned (.slice ar RR.length cr) ∧ TbRs w' ar RR.length RR ∧ Below w.heap.size w w' := by
  refine (impltabof_o pc a len cap ps w h (by omega) hok).mono ?_
  rintro e w' ⟨v, rfl, hO, hb⟩
  have hL := tabOfL_len pc ps
  rw [unhide hR] at hO hL
  have := h.1
  obtain ⟨ar, cr, rfl, H, _, _⟩ := holdTb hO (by omega)
  exact ⟨ar, cr, rfl, H, hb⟩

theorem implout_r (a : Option Addr) (len cap : Nat) (xs : List TbR) (ky st en : Int) (w : World) (RR : List TbR) (h : TbRs w a len xs) (hl : len ≤ 1000) (hR : Hid (kpTb ky st en xs = RR)) : Calls Try.prog 9 #[.slice a len cap, .int .i64 ky, .agg #[.int .i64 st, .int .i64 en]] w fun e w' => ∃ ar cr, e = .returned (.slice ar RR.length cr) ∧ TbRs w' ar RR.length RR ∧ Below w.heap.size w w' := by
  refine (implTabOut_any a len cap xs ky st en w h (by omega)).mono ?_
  rintro e w' ⟨v, rfl, hO, hb⟩
  have hL := kpTb_le ky st en xs
  rw [unhide hR] at hO hL
  have := h.1
  obtain ⟨ar, cr, rfl, H, _, _⟩ := holdTb hO (by omega)
  exact ⟨ar, cr, rfl, H, hb⟩

theorem implput_r (ky st en n su le mo : Int) (a : Option Addr) (len cap : Nat) (xs : List TbR) (w : World) (RR : List TbR) (h : TbRs w a len xs) (hl : len ≤ 1000) (hR : Hid (insR (⟨ky, st, en, n, su, le, mo⟩ : TbR) (kpTb ky st en xs) = RR)) : Calls Try.prog 12 #[.slice a len cap, .agg #[.int .i64 ky, .int .i64 st, .int .i64 en, .int .i64 n, .int .i64 su, .int .i64 le, .int .i64 mo]] w fun e w' => ∃ ar cr, e = .returned (.slice ar RR.length cr) ∧ TbRs w' ar RR.length RR ∧ Below w.heap.size w w' := by
  refine (implput_any ⟨ky, st, en, n, su, le, mo⟩ a len cap xs w h (by omega)).mono ?_
  rintro e w' ⟨v, rfl, hO, hb⟩
  have hL := kpTb_le ky st en xs
  have hL2 := insR_len (⟨ky, st, en, n, su, le, mo⟩ : TbR) (kpTb ky st en xs)
  dsimp only at hO
  rw [unhide hR] at hO hL2
  have := h.1
  obtain ⟨ar, cr, rfl, H, _, _⟩ := holdTb hO (by omega)
  exact ⟨ar, cr, rfl, H, hb⟩

theorem implfind_r (a : Option Addr) (len cap : Nat) (xs : List TbR) (ky st en : Int) (w : World) {n s l m : Int} (h : TbRs w a len xs) (hV : Hid (aggF (findT ky st en xs) = (n, s, l, m))) : Calls Try.prog 10 #[.slice a len cap, .int .i64 ky, .agg #[.int .i64 st, .int .i64 en]] w fun e w' => ∃ b, e = .returned (.tuple #[.agg #[.int .i64 n, .int .i64 s, .int .i64 l, .int .i64 m], .bool b]) ∧ Below w.heap.size w w' := by
  obtain ⟨b, hb⟩ := foundV_is _ (unhide hV)
  have h9 := implfind_any a len cap xs ky st en w h
  rw [hb] at h9
  refine h9.mono ?_
  rintro e w' ⟨rfl, h8⟩
  exact ⟨b, rfl, h8⟩

theorem PnRs.upto {W : World} {a : Option Addr} {n : Nat} {xs : List PnR} (h : PnRs W a n xs) (k : Nat) (hk : k ≤ n) : PnRs W a k (xs.take k) := by
  obtain ⟨h1, h2, h3⟩ := h
  refine ⟨by rw [List.length_take]; omega, by omega, ?_⟩
  rcases h3 with h3 | ⟨g, o, ha, hr⟩
  · exact .inl (by omega)
  · by_cases hz : k = 0
    · exact .inl hz
    · refine .inr ⟨g, o, ha, fun i x hx => hr i x ?_⟩
      rw [List.getElem?_take] at hx
      split at hx
      · exact hx
      · cases hx

set_option maxRecDepth 20000 in
set_option maxHeartbeats 8000000 in
theorem lawTabOfP (a : Option Addr) (len cap : Nat) (w : World) (hlc : len ≤ cap) (hm : len ≤ maxLen) (hb : BytesAt w a len) (hl : ∀ g o, a = some ⟨g, o, none⟩ → 0 < len → g < w.heap.size) (hn : a = none → cap = 0) : Calls Try.prog 3 #[.slice a len cap] w fun e w' => e = .returned (.bool true) ∧ Below w.heap.size w w' := by
  unfold maxLen at hm
  by_cases hlen : (len : Int) ≤ 1048576
  rotate_left
  · go_enter Try.func3, Try.ntmps3
    go_wp2
    go_ret
    exact ⟨rfl, Below.refl _ _⟩
  have hd := hide (drawtabof_any a len cap w hlc (by omega) hb hl hn)
  clear hb hl hn
  go_enter Try.func3, Try.ntmps3
  go_wp2_with fail
  refine (unhide hd).mono ?_
  rintro e w1 ⟨ap, cp, ps, pc, rfl, hP, hpl, hcap, hpb, hb1⟩
  clear hd
  have HPO := hide (fun p (hp : p ∈ ps) => (hpb p hp).ok)
  obtain ⟨RR, hRR⟩ : ∃ RR, tabOfL pc ps = RR := ⟨_, rfl⟩
  have HR := hide hRR
  have hRl : RR.length ≤ 8 := by rw [← hRR]; exact Nat.le_trans (tabOfL_len pc ps) hpl
  have HP := hide hP
  clear hpb hRR hP
  go_wp2_with fail
  refine (impltab_r pc _ _ _ ps _ RR (unhide HP) (by omega) (unhide HPO) HR).mono ?_
  rintro e w2 ⟨a2, c2, rfl, H2, hb2⟩
  have HT2 := hide H2
  replace HP := hide ((unhide HP).below hb2)
  clear H2
  go_wp2_with fail
  refine (spectab_r pc _ _ _ ps _ RR (unhide HP) (by omega) HR).mono ?_
  rintro e w3 ⟨a3, c3, rfl, H3, hb3⟩
  have HT3 := hide H3
  replace HP := hide ((unhide HP).below hb3)
  replace HT2 := hide ((unhide HT2).below hb3)
  clear H3
  go_wp2_with fail
  refine (frtab_eq _ _ _ _ _ RR _ (unhide HT2) (unhide HT3)).mono ?_
  rintro e w4 ⟨rfl, hb4⟩
  replace HP := hide ((unhide HP).below hb4)
  replace HT2 := hide ((unhide HT2).below hb4)
  clear HT3
  have hbF : Below w.heap.size w w4 := bel_trans (bel_trans (bel_trans hb1 hb2) hb3) hb4
  clear hb1 hb2 hb3 hb4
  by_cases h0 : ps.length = 0
  · have hR0 : RR.length = 0 := by rw [← unhide HR]; have := tabOfL_len pc ps; omega
    rw [h0, hR0]
    go_wp2_with fail
    refine (frok_any _).mono ?_
    rintro e w5 ⟨rfl, hb5⟩
    go_wp2
    go_ret
    exact ⟨rfl, bel_trans hbF hb5⟩
  · obtain ⟨k, hk⟩ : ∃ k, ps.length = k + 1 := ⟨ps.length - 1, by omega⟩
    obtain ⟨x, hxk⟩ : ∃ x, ps[k]? = some x := ⟨_, List.getElem?_eq_getElem (by omega)⟩
    obtain ⟨WS, hWS⟩ : ∃ WS, tabOfL pc (ps.take k) = WS := ⟨_, rfl⟩
    have hWl : WS.length ≤ 8 := by rw [← hWS]; exact Nat.le_trans (tabOfL_le pc ps k) hpl
    have hst : RR = tabStep pc WS x := by rw [← unhide HR, ← hWS, ← tabOfL_snoc hxk, List.take_of_length_le (by omega)]
    have HW := hide hWS
    have HS := hide hst
    have HPO2 : Hid (∀ p ∈ ps.take k, ok3 (plP p)) := hide (fun p hp => unhide HPO p (List.mem_of_mem_take hp))
    obtain ⟨g, o, hap, hr⟩ := (unhide HP).2.2.resolve_left (by omega)
    subst hap
    have hgl : g < w4.heap.size := (unhide HP).lt (by omega)
    obtain ⟨q0, q1, q2, q3, q4, q5, q6, q7, q8⟩ := hr k x hxk
    clear hxk hWS hst hr
    obtain ⟨ky, st, en, no, kd, n, su, le, mo⟩ := x
    dsimp only at q0 q1 q2 q3 q4 q5 q6 q7 q8
    have hk8 : k ≤ 8 := by omega
    have HPk : Hid (PnRs w4 (some ⟨g, o, none⟩) (k + 1) ps) := hide (by have h9 := unhide HP; rw [hk] at h9; exact h9)
    rw [hk]
    have hcp : k + 1 ≤ cp := by omega
    clear HP hk h0 hcap
    have hbB : Below w4.heap.size w4 (w4.alloc (.cells #[.int .i64 ky, .int .i64 st, .int .i64 en, .int .i64 no, .int .i64 kd, .int .i64 n, .int .i64 su, .int .i64 le, .int .i64 mo] 35)) := bel_one _ _
    go_wp2_with fail
    refine (impltab_r pc _ _ _ (ps.take k) _ WS (((unhide HPk).below hbB).upto k (by omega)) (by omega) (unhide HPO2) HW).mono ?_
    rintro e w5 ⟨a5, c5, rfl, H5, hb5⟩
    have HW5 := hide H5
    have HT5 := hide (((unhide HT2).below hbB).below hb5)
    have z5 : w4.heap.size < w5.heap.size := by have := hb5.size; simp at this; omega
    have bP : w5.heap[w4.heap.size]? = some (.cells #[.int .i64 ky, .int .i64 st, .int .i64 en, .int .i64 no, .int .i64 kd, .int .i64 n, .int .i64 su, .int .i64 le, .int .i64 mo] 35 (0, 0)) := (hb5.block w4.heap.size (by simp)).trans (World.alloc_heap_new w4 _)
    have hbF5 : Below w.heap.size w w5 := bel_trans (bel_trans hbF hbB) hb5
    clear H5 HT2 hb5 hbB hbF HPk q0 q1 q2 q3 q4 q5 q6 q7 q8
    have p0 := Joins.cell_of_block bP 0
    have p1 := Joins.cell_of_block bP 1
    have p2 := Joins.cell_of_block bP 2
    have p4 := Joins.cell_of_block bP 4
    have p5 := Joins.cell_of_block bP 5
    have p6 := Joins.cell_of_block bP 6
    have p7 := Joins.cell_of_block bP 7
    have p8 := Joins.cell_of_block bP 8
    simp only [gA, gZ, gS] at p0 p1 p2 p4 p5 p6 p7 p8
    by_cases hkd : kd = 3
    · have hkd' : (kd == 3) = true := by simp [hkd]
      have HRo : Hid (kpTb ky st en WS = RR) := hide (by rw [unhide HS]; unfold tabStep; rw [if_pos hkd])
      clear HS hkd
      go_wp2_with fail
      refine (implout_r _ _ _ WS ky st en _ RR (unhide HW5) (by omega) HRo).mono ?_
      rintro e w6 ⟨a6, c6, rfl, H6, hb6⟩
      go_wp2_with fail
      refine (frtab_eq _ _ _ _ _ RR _ ((unhide HT5).below hb6) H6).mono ?_
      rintro e w7 ⟨rfl, hb7⟩
      go_wp2
      go_ret
      exact ⟨rfl, bel_trans (bel_trans hbF5 hb6) hb7⟩
    · have hkd' : (kd == 3) = false := by simp [hkd]
      cases pc
      · have HRo : Hid (insR (⟨ky, st, en, n, su, le, mo⟩ : TbR) (kpTb ky st en WS) = RR) := hide (by rw [unhide HS]; unfold tabStep; rw [if_neg hkd]; rfl)
        clear HS hkd
        have hbC : Below w5.heap.size w5 (w5.alloc (.cells #[.int .i64 n, .int .i64 su, .int .i64 le, .int .i64 mo] 33)) := bel_one _ _
        go_wp2_with fail
        refine (implput_r ky st en n su le mo _ _ _ WS _ RR ((unhide HW5).below hbC) (by omega) HRo).mono ?_
        rintro e w6 ⟨a6, c6, rfl, H6, hb6⟩
        go_wp2_with fail
        refine (frtab_eq _ _ _ _ _ RR _ (((unhide HT5).below hbC).below hb6) H6).mono ?_
        rintro e w7 ⟨rfl, hb7⟩
        go_wp2
        go_ret
        exact ⟨rfl, bel_trans (bel_trans (bel_alloc hbF5 _) hb6) hb7⟩
      · obtain ⟨xa, xb, xc, xd, hx⟩ : ∃ xa xb xc xd, aggF (findT ky st en WS) = (xa, xb, xc, xd) := ⟨_, _, _, _, rfl⟩
        obtain ⟨ya, yb, yc, yd, hy9⟩ : ∃ ya yb yc yd, bothF (xa, xb, xc, xd) n su le mo = (ya, yb, yc, yd) := ⟨_, _, _, _, rfl⟩
        have HRo : Hid (insR (⟨ky, st, en, ya, yb, yc, yd⟩ : TbR) (kpTb ky st en WS) = RR) := hide (by
          rw [unhide HS]; unfold tabStep; rw [if_neg hkd]
          have e9 : tabAgg true WS ⟨ky, st, en, no, kd, n, su, le, mo⟩ = (ya, yb, yc, yd) := by
            unfold tabAgg; rw [if_pos rfl]; show bothF (aggF (findT ky st en WS)) n su le mo = _; rw [hx, hy9]
          rw [e9]; rfl)
        have Hx := hide hx
        have Hy := hide hy9
        clear HS hkd hx hy9
        have hbC : Below w5.heap.size w5 (w5.alloc (.cells #[.int .i64 n, .int .i64 su, .int .i64 le, .int .i64 mo] 33)) := bel_one _ _
        go_wp2_with fail
        refine (implfind_r _ _ _ WS ky st en _ ((unhide HW5).below hbC) Hx).mono ?_
        rintro e w6 ⟨fb, rfl, hb6⟩
        obtain ⟨b0, b1, b2⟩ := bcell hb6
        have z6 := hb6.size
        simp at z6
        go_wp2_with fail
        have hb7a : Below w6.heap.size w6 (w6.alloc (.cells #[.int .i64 xa, .int .i64 xb, .int .i64 xc, .int .i64 xd] 33)) := bel_one _ _
        refine (implboth_at _ Hy).mono ?_
        rintro e w7 ⟨rfl, hb7⟩
        obtain ⟨d0, d1, d2⟩ := bcell hb7
        have z7 := hb7.size
        simp at z7
        have r0 : w7.cell? ⟨w4.heap.size, 0, none⟩ = some (.int .i64 ky) := (d0 _ _ (by simp; omega)).trans (by rw [hb7a.cell (p := ⟨w4.heap.size, 0, none⟩) (by simp; omega)]; exact (b0 _ _ (by simp; omega)).trans ((hbC.cell (p := ⟨w4.heap.size, 0, none⟩) (by simp; omega)).trans p0))
        have r1 : w7.cell? ⟨w4.heap.size, 1, none⟩ = some (.int .i64 st) := (d0 _ _ (by simp; omega)).trans (by rw [hb7a.cell (p := ⟨w4.heap.size, 1, none⟩) (by simp; omega)]; exact (b0 _ _ (by simp; omega)).trans ((hbC.cell (p := ⟨w4.heap.size, 1, none⟩) (by simp; omega)).trans p1))
        have r2 : w7.cell? ⟨w4.heap.size, 2, none⟩ = some (.int .i64 en) := (d0 _ _ (by simp; omega)).trans (by rw [hb7a.cell (p := ⟨w4.heap.size, 2, none⟩) (by simp; omega)]; exact (b0 _ _ (by simp; omega)).trans ((hbC.cell (p := ⟨w4.heap.size, 2, none⟩) (by simp; omega)).trans p2))
        have hne : w4.heap.size ≠ w5.heap.size := by omega
        have bA : w7.heap[w5.heap.size]? = some (.cells #[.int .i64 n, .int .i64 su, .int .i64 le, .int .i64 mo] 33 (0, 0)) := (hb7.block w5.heap.size (by simp; omega)).trans ((hb7a.block w5.heap.size (by omega)).trans ((hb6.block w5.heap.size (by simp)).trans (World.alloc_heap_new w5 _)))
        have s0 := Joins.cell_of_block bA 0
        have s1 := Joins.cell_of_block bA 1
        have s2 := Joins.cell_of_block bA 2
        have s3 := Joins.cell_of_block bA 3
        simp only [gA, gZ, gS] at s0 s1 s2 s3
        have u0 : ∀ j, w7.frozen? ⟨w5.heap.size, j, none⟩ = false := by intro j; simp [World.frozen?, bA]
        have v0 := u0 0
        have v1 := u0 1
        have v2 := u0 2
        have v3 := u0 3
        have hb57 : Below w5.heap.size w5 w7 := bel_trans (bel_alloc (bel_trans hbC hb6) _) hb7
        clear d0 d1 d2 b0 b1 b2 u0 bA p0 p1 p2 p4 p5 p6 p7 p8 bP
        go_wp2_with fail
        have hbS : Below w5.heap.size w5 ((((w7.setCell ⟨w5.heap.size, 0, none⟩ (.int .i64 ya)).setCell ⟨w5.heap.size, 1, none⟩ (.int .i64 yb)).setCell ⟨w5.heap.size, 2, none⟩ (.int .i64 yc)).setCell ⟨w5.heap.size, 3, none⟩ (.int .i64 yd)) := bel_set (bel_set (bel_set (bel_set hb57 (by simp) _) (by simp) _) (by simp) _) (by simp) _
        refine (implput_r ky st en ya yb yc yd _ _ _ WS _ RR ((unhide HW5).below hbS) (by omega) HRo).mono ?_
        rintro e w8 ⟨a8, c8, rfl, H8, hb8⟩
        go_wp2_with fail
        refine (frtab_eq _ _ _ _ _ RR _ (((unhide HT5).below hbS).below hb8) H8).mono ?_
        rintro e w9 ⟨rfl, hb9⟩
        go_wp2
        go_ret
        exact ⟨rfl, bel_trans (bel_trans (bel_trans hbF5 hbS) hb8) hb9⟩
end Go.Proofs.Ytblmhpngaccllaa
