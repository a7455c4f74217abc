/- Proved here: the law returns true at every argument. -/
import Derived.Test.YtdpifgdignhebaaPutS
import Derived.Test.YtdpifgdignhebaaPutI
import Derived.Test.YtdpifgdignhebaaRwTab2
namespace Go.Proofs.Ytdpifgdignhebaa
open Go.ChangeShapes Go.WideShapes Go.ChangeAt Go.RowKit
set_option linter.unusedVariables false

theorem specput_eq (a : Option Addr) (len cap : Nat) (xs : List TbR) (ky st en n su le mo : Int) (w : World) (RR : List TbR) (h : TbRs w a len xs) (hl : len ≤ 1048576) (hR : Hid (insR (⟨ky, st, en, n, su, le, mo⟩ : TbR) (kpTb ky st en xs) = RR)) : Calls Try.prog 9 #[.slice a len cap, .agg #[.int .i64 ky, .int .i64 st, .int .i64 en, .int .i64 n, .int .i64 su, .int .i64 le, .int .i64 mo]] w fun e w' => ∃ v, e = .returned v ∧ OwnTb w' w.heap.size v RR ∧ Below w.heap.size w w' := by
  rw [← unhide hR]; exact specput_any (⟨ky, st, en, n, su, le, mo⟩ : TbR) a len cap xs w h hl
theorem implput_eq (a : Option Addr) (len cap : Nat) (xs : List TbR) (ky st en n su le mo : Int) (w : World) (RR : List TbR) (h : TbRs w a len xs) (hl : len ≤ 1048576) (hR : Hid (insR (⟨ky, st, en, n, su, le, mo⟩ : TbR) (kpTb ky st en xs) = RR)) : Calls Try.prog 12 #[.slice a len cap, .agg #[.int .i64 ky, .int .i64 st, .int .i64 en, .int .i64 n, .int .i64 su, .int .i64 le, .int .i64 mo]] w fun e w' => ∃ v, e = .returned v ∧ OwnTb w' w.heap.size v RR ∧ Below w.heap.size w w' := by
  rw [← unhide hR]; exact implput_any (⟨ky, st, en, n, su, le, mo⟩ : TbR) a len cap xs w h hl

set_option maxRecDepth 20000 in
set_option maxHeartbeats 2000000 in
theorem lawTabPut (a0 : Option Addr) (len0 cap0 : Nat) (z0 : List TbR) (ky st en n su le mo : Int) (w : World) (w0 : TbRs w a0 len0 z0) : Calls Try.prog 3 #[.slice a0 len0 cap0, .agg #[.int .i64 ky, .int .i64 st, .int .i64 en, .int .i64 n, .int .i64 su, .int .i64 le, .int .i64 mo]] w fun e' w' => e' = .returned (.bool true) ∧ Below w.heap.size w w' := by
  have hm := w0.2.1
  by_cases hl : (len0 : Int) ≤ 1048576
  · have hl0 : len0 ≤ 1048576 := by omega
    have lt0 : ∀ g o, 0 < len0 → a0 = some ⟨g, o, none⟩ → g < w.heap.size := fun g o hp ha => by subst ha; exact w0.lt hp
    have H0 := w0
    have hRl : (insR (⟨ky, st, en, n, su, le, mo⟩ : TbR) (kpTb ky st en z0)).length ≤ 2097152 := by rw [insR_len]; have h8 := kpTb_le ky st en z0; have h9 := w0.1; omega
    generalize hR : insR (⟨ky, st, en, n, su, le, mo⟩ : TbR) (kpTb ky st en z0) = RR at hRl
    have HR := hide hR
    clear hR
    go_enter Try.func3, Try.ntmps3
    go_wp2_with fail
    have hb0 : Below w.heap.size w (w.alloc (.cells #[.int .i64 ky, .int .i64 st, .int .i64 en, .int .i64 n, .int .i64 su, .int .i64 le, .int .i64 mo] 28)) := (by repeat (first | (with_reducible refine bel_set ?_ (by first | (simp; done) | (simp; omega)) _) | (with_reducible refine bel_alloc ?_ _) | (with_reducible exact Below.refl _ _) | (with_reducible assumption) | (with_reducible refine bel_drew ?_) | (with_reducible refine bel_drewN ?_ _) | (with_reducible refine bel_trans ?_ (by with_reducible assumption))))
    have hz0 := hb0.size
    have hB0 : Below (w.alloc (.cells #[.int .i64 ky, .int .i64 st, .int .i64 en, .int .i64 n, .int .i64 su, .int .i64 le, .int .i64 mo] 28)).heap.size (w.alloc (.cells #[.int .i64 ky, .int .i64 st, .int .i64 en, .int .i64 n, .int .i64 su, .int .i64 le, .int .i64 mo] 28)) (w.alloc (.cells #[.int .i64 ky, .int .i64 st, .int .i64 en, .int .i64 n, .int .i64 su, .int .i64 le, .int .i64 mo] 28)) := Below.refl _ _
    replace H0 := H0.below hb0
    refine (szTb_small a0 len0 cap0 _ hm hl).mono ?_
    rintro e wx ⟨rfl, hw⟩
    obtain rfl := hw.symm
    clear hw
    go_wp2_with fail
    have hx0 : w.heap.size < (w.alloc (.cells #[.int .i64 ky, .int .i64 st, .int .i64 en, .int .i64 n, .int .i64 su, .int .i64 le, .int .i64 mo] 28)).heap.size := by simp; try omega
    go_region_with (first
      | (go_at_call 10; refine (toTb_any _ len0 _ z0 _ (H0.below (by repeat (first | (with_reducible exact Below.refl _ _) | (with_reducible assumption) | (with_reducible refine bel_set ?_ (by first | (simp; done) | (simp; omega)) _) | (with_reducible refine bel_alloc ?_ _) | (with_reducible refine bel_drew ?_) | (with_reducible refine bel_drewN ?_ _) | (with_reducible refine bel_trans ?_ (by with_reducible assumption))))) hl0).mono ?_; rintro e w1x ⟨b1, rfl, H1, R1, ge1, hq1⟩; obtain ⟨hc, hf, hs⟩ := bcell hq1; have hy0 : w.heap.size < w1x.heap.size := hs _ (by first | (simp; done) | (simp; omega)))
      | (go_at_call 11; refine (toTb_one _ _ _ _ _ _ _ _).mono ?_; rintro e w2x ⟨rfl, hq2⟩)
      | (go_at_call 9; refine (specput_eq _ _ _ z0 ky st en n su le mo _ RR (H1.below (by repeat (first | (with_reducible exact Below.refl _ _) | (with_reducible assumption) | (with_reducible refine bel_set ?_ (by first | (simp; done) | (simp; omega)) _) | (with_reducible refine bel_alloc ?_ _) | (with_reducible refine bel_drew ?_) | (with_reducible refine bel_drewN ?_ _) | (with_reducible refine bel_trans ?_ (by with_reducible assumption))))) hl0 HR).mono ?_; rintro e w3x ⟨v2, rfl, hO2, hq3⟩))
    all_goals
      clear hc hf hs hx0 hy0
      have hz1 : (w.alloc (.cells #[.int .i64 ky, .int .i64 st, .int .i64 en, .int .i64 n, .int .i64 su, .int .i64 le, .int .i64 mo] 28)).heap.size ≤ w1x.heap.size := (show Below (w.alloc (.cells #[.int .i64 ky, .int .i64 st, .int .i64 en, .int .i64 n, .int .i64 su, .int .i64 le, .int .i64 mo] 28)).heap.size (w.alloc (.cells #[.int .i64 ky, .int .i64 st, .int .i64 en, .int .i64 n, .int .i64 su, .int .i64 le, .int .i64 mo] 28)) w1x from (by repeat (first | (with_reducible exact Below.refl _ _) | (with_reducible assumption) | (with_reducible refine bel_set ?_ (by first | (simp; done) | (simp; omega)) _) | (with_reducible refine bel_alloc ?_ _) | (with_reducible refine bel_drew ?_) | (with_reducible refine bel_drewN ?_ _) | (with_reducible refine bel_trans ?_ (by with_reducible assumption))))).size
      have hz2 : w1x.heap.size ≤ w2x.heap.size := (show Below w1x.heap.size w1x w2x from (by repeat (first | (with_reducible exact Below.refl _ _) | (with_reducible assumption) | (with_reducible refine bel_set ?_ (by first | (simp; done) | (simp; omega)) _) | (with_reducible refine bel_alloc ?_ _) | (with_reducible refine bel_drew ?_) | (with_reducible refine bel_drewN ?_ _) | (with_reducible refine bel_trans ?_ (by with_reducible assumption))))).size
      have hz3 : w2x.heap.size ≤ w3x.heap.size := (show Below w2x.heap.size w2x w3x from (by repeat (first | (with_reducible exact Below.refl _ _) | (with_reducible assumption) | (with_reducible refine bel_set ?_ (by first | (simp; done) | (simp; omega)) _) | (with_reducible refine bel_alloc ?_ _) | (with_reducible refine bel_drew ?_) | (with_reducible refine bel_drewN ?_ _) | (with_reducible refine bel_trans ?_ (by with_reducible assumption))))).size
      have hbx1 : Below w1x.heap.size w1x w3x := (by repeat (first | (with_reducible exact Below.refl _ _) | (with_reducible assumption) | (with_reducible refine bel_set ?_ (by first | (simp; done) | (simp; omega)) _) | (with_reducible refine bel_alloc ?_ _) | (with_reducible refine bel_drew ?_) | (with_reducible refine bel_drewN ?_ _) | (with_reducible refine bel_trans ?_ (by with_reducible assumption))))
      have hb3 : Below (w.alloc (.cells #[.int .i64 ky, .int .i64 st, .int .i64 en, .int .i64 n, .int .i64 su, .int .i64 le, .int .i64 mo] 28)).heap.size (w.alloc (.cells #[.int .i64 ky, .int .i64 st, .int .i64 en, .int .i64 n, .int .i64 su, .int .i64 le, .int .i64 mo] 28)) w3x := (by repeat (first | (with_reducible exact Below.refl _ _) | (with_reducible assumption) | (with_reducible refine bel_set ?_ (by first | (simp; done) | (simp; omega)) _) | (with_reducible refine bel_alloc ?_ _) | (with_reducible refine bel_drew ?_) | (with_reducible refine bel_drewN ?_ _) | (with_reducible refine bel_trans ?_ hq3) | (with_reducible refine bel_trans ?_ hq2) | (with_reducible refine bel_trans ?_ hq1)))
      have hB3 : Below (w.alloc (.cells #[.int .i64 ky, .int .i64 st, .int .i64 en, .int .i64 n, .int .i64 su, .int .i64 le, .int .i64 mo] 28)).heap.size (w.alloc (.cells #[.int .i64 ky, .int .i64 st, .int .i64 en, .int .i64 n, .int .i64 su, .int .i64 le, .int .i64 mo] 28)) w3x := hb3
      replace H0 := H0.below hb3
      replace ge1 : ∀ g o, 0 < len0 → b1 = some ⟨g, o, none⟩ → (w.alloc (.cells #[.int .i64 ky, .int .i64 st, .int .i64 en, .int .i64 n, .int .i64 su, .int .i64 le, .int .i64 mo] 28)).heap.size ≤ g := fun g o hp e9 => Nat.le_trans (by first | exact Nat.le_refl _ | (simp; done) | (simp; omega)) (ge1 g o hp e9)
      have lt1 : ∀ g o, 0 < len0 → b1 = some ⟨g, o, none⟩ → g < w1x.heap.size := fun g o hp ha => by subst ha; exact H1.lt hp
      replace H1 := H1.below hbx1
      replace R1 := R1.below hbx1
      clear hbx1
      obtain ⟨b2, cp2, rfl, H2, R2, ge2⟩ := holdTb2 hO2 hRl
      clear hO2
      replace ge2 : ∀ g o, 0 < RR.length → b2 = some ⟨g, o, none⟩ → w2x.heap.size ≤ g := fun g o hp e9 => Nat.le_trans (by first | exact Nat.le_refl _ | (simp; done) | (simp; omega)) (ge2 g o hp e9)
      have lt2 : ∀ g o, 0 < RR.length → b2 = some ⟨g, o, none⟩ → g < w3x.heap.size := fun g o hp ha => by subst ha; exact H2.lt hp
      clear hq1 hq2 hq3
      have c0_0 : w3x.cell? ⟨w.heap.size, 0, none⟩ = some (.int .i64 ky) := (hB3.cell (p := ⟨w.heap.size, 0, none⟩) (by simp)).trans (by simp [go_sem])
      have c0_1 : w3x.cell? ⟨w.heap.size, 1, none⟩ = some (.int .i64 st) := (hB3.cell (p := ⟨w.heap.size, 1, none⟩) (by simp)).trans (by simp [go_sem])
      have c0_2 : w3x.cell? ⟨w.heap.size, 2, none⟩ = some (.int .i64 en) := (hB3.cell (p := ⟨w.heap.size, 2, none⟩) (by simp)).trans (by simp [go_sem])
      have c0_3 : w3x.cell? ⟨w.heap.size, 3, none⟩ = some (.int .i64 n) := (hB3.cell (p := ⟨w.heap.size, 3, none⟩) (by simp)).trans (by simp [go_sem])
      have c0_4 : w3x.cell? ⟨w.heap.size, 4, none⟩ = some (.int .i64 su) := (hB3.cell (p := ⟨w.heap.size, 4, none⟩) (by simp)).trans (by simp [go_sem])
      have c0_5 : w3x.cell? ⟨w.heap.size, 5, none⟩ = some (.int .i64 le) := (hB3.cell (p := ⟨w.heap.size, 5, none⟩) (by simp)).trans (by simp [go_sem])
      have c0_6 : w3x.cell? ⟨w.heap.size, 6, none⟩ = some (.int .i64 mo) := (hB3.cell (p := ⟨w.heap.size, 6, none⟩) (by simp)).trans (by simp [go_sem])
      go_wp2_with fail
      clear c0_0 c0_1 c0_2 c0_3 c0_4 c0_5 c0_6
      refine (toTb_any _ len0 _ z0 _ H0 hl0).mono ?_
      rintro e w4x ⟨b3, rfl, H3, R3, ge3, hb⟩
      have hb4 : Below w3x.heap.size w3x w4x := (by repeat (first | (with_reducible refine bel_set ?_ (by first | (simp; done) | (simp; omega)) _) | (with_reducible refine bel_alloc ?_ _) | (with_reducible exact Below.refl _ _) | (with_reducible assumption) | (with_reducible refine bel_drew ?_) | (with_reducible refine bel_drewN ?_ _) | (with_reducible refine bel_trans ?_ (by with_reducible assumption))))
      clear hb
      have hB4 : Below (w.alloc (.cells #[.int .i64 ky, .int .i64 st, .int .i64 en, .int .i64 n, .int .i64 su, .int .i64 le, .int .i64 mo] 28)).heap.size (w.alloc (.cells #[.int .i64 ky, .int .i64 st, .int .i64 en, .int .i64 n, .int .i64 su, .int .i64 le, .int .i64 mo] 28)) w4x := bel_trans hB3 hb4
      have hz4 := hb4.size
      replace H0 := H0.below hb4
      replace H1 := H1.below hb4
      replace R1 := R1.below hb4
      replace H2 := H2.below hb4
      replace R2 := R2.below hb4
      replace ge3 : ∀ g o, 0 < len0 → b3 = some ⟨g, o, none⟩ → w3x.heap.size ≤ g := fun g o hp e9 => Nat.le_trans (by first | exact Nat.le_refl _ | (simp; done) | (simp; omega)) (ge3 g o hp e9)
      have lt3 : ∀ g o, 0 < len0 → b3 = some ⟨g, o, none⟩ → g < w4x.heap.size := fun g o hp ha => by subst ha; exact H3.lt hp
      have c0_0 : w4x.cell? ⟨w.heap.size, 0, none⟩ = some (.int .i64 ky) := (hB4.cell (p := ⟨w.heap.size, 0, none⟩) (by simp)).trans (by simp [go_sem])
      have c0_1 : w4x.cell? ⟨w.heap.size, 1, none⟩ = some (.int .i64 st) := (hB4.cell (p := ⟨w.heap.size, 1, none⟩) (by simp)).trans (by simp [go_sem])
      have c0_2 : w4x.cell? ⟨w.heap.size, 2, none⟩ = some (.int .i64 en) := (hB4.cell (p := ⟨w.heap.size, 2, none⟩) (by simp)).trans (by simp [go_sem])
      have c0_3 : w4x.cell? ⟨w.heap.size, 3, none⟩ = some (.int .i64 n) := (hB4.cell (p := ⟨w.heap.size, 3, none⟩) (by simp)).trans (by simp [go_sem])
      have c0_4 : w4x.cell? ⟨w.heap.size, 4, none⟩ = some (.int .i64 su) := (hB4.cell (p := ⟨w.heap.size, 4, none⟩) (by simp)).trans (by simp [go_sem])
      have c0_5 : w4x.cell? ⟨w.heap.size, 5, none⟩ = some (.int .i64 le) := (hB4.cell (p := ⟨w.heap.size, 5, none⟩) (by simp)).trans (by simp [go_sem])
      have c0_6 : w4x.cell? ⟨w.heap.size, 6, none⟩ = some (.int .i64 mo) := (hB4.cell (p := ⟨w.heap.size, 6, none⟩) (by simp)).trans (by simp [go_sem])
      go_wp2_with fail
      clear c0_0 c0_1 c0_2 c0_3 c0_4 c0_5 c0_6
      refine (toTb_one _ _ _ _ _ _ _ _).mono ?_
      rintro e w5x ⟨rfl, hb⟩
      have hb5 : Below w4x.heap.size w4x w5x := (by repeat (first | (with_reducible refine bel_set ?_ (by first | (simp; done) | (simp; omega)) _) | (with_reducible refine bel_alloc ?_ _) | (with_reducible exact Below.refl _ _) | (with_reducible assumption) | (with_reducible refine bel_drew ?_) | (with_reducible refine bel_drewN ?_ _) | (with_reducible refine bel_trans ?_ (by with_reducible assumption))))
      clear hb
      have hB5 : Below (w.alloc (.cells #[.int .i64 ky, .int .i64 st, .int .i64 en, .int .i64 n, .int .i64 su, .int .i64 le, .int .i64 mo] 28)).heap.size (w.alloc (.cells #[.int .i64 ky, .int .i64 st, .int .i64 en, .int .i64 n, .int .i64 su, .int .i64 le, .int .i64 mo] 28)) w5x := bel_trans hB4 hb5
      have hz5 := hb5.size
      replace H0 := H0.below hb5
      replace H1 := H1.below hb5
      replace R1 := R1.below hb5
      replace H2 := H2.below hb5
      replace R2 := R2.below hb5
      replace H3 := H3.below hb5
      replace R3 := R3.below hb5
      go_wp2_with fail
      refine (implput_eq _ _ _ z0 ky st en n su le mo _ RR H3 hl0 HR).mono ?_
      rintro e w6x ⟨v4, rfl, hO, hb⟩
      have hb6 : Below w5x.heap.size w5x w6x := (by repeat (first | (with_reducible refine bel_set ?_ (by first | (simp; done) | (simp; omega)) _) | (with_reducible refine bel_alloc ?_ _) | (with_reducible exact Below.refl _ _) | (with_reducible assumption) | (with_reducible refine bel_drew ?_) | (with_reducible refine bel_drewN ?_ _) | (with_reducible refine bel_trans ?_ (by with_reducible assumption))))
      clear hb
      have hB6 : Below (w.alloc (.cells #[.int .i64 ky, .int .i64 st, .int .i64 en, .int .i64 n, .int .i64 su, .int .i64 le, .int .i64 mo] 28)).heap.size (w.alloc (.cells #[.int .i64 ky, .int .i64 st, .int .i64 en, .int .i64 n, .int .i64 su, .int .i64 le, .int .i64 mo] 28)) w6x := bel_trans hB5 hb6
      have hz6 := hb6.size
      replace H0 := H0.below hb6
      replace H1 := H1.below hb6
      replace R1 := R1.below hb6
      replace H2 := H2.below hb6
      replace R2 := R2.below hb6
      replace H3 := H3.below hb6
      replace R3 := R3.below hb6
      obtain ⟨b4, cp4, rfl, H4, R4, ge4⟩ := holdTb2 hO hRl
      clear hO
      replace ge4 : ∀ g o, 0 < RR.length → b4 = some ⟨g, o, none⟩ → w5x.heap.size ≤ g := fun g o hp e9 => Nat.le_trans (by first | exact Nat.le_refl _ | (simp; done) | (simp; omega)) (ge4 g o hp e9)
      have lt4 : ∀ g o, 0 < RR.length → b4 = some ⟨g, o, none⟩ → g < w6x.heap.size := fun g o hp ha => by subst ha; exact H4.lt hp
      go_wp2_with fail
      refine (eqTb_any _ _ RR.length _ _ RR _ H4 H2).mono ?_
      rintro e w7x ⟨rfl, hb⟩
      have hb7 : Below w6x.heap.size w6x w7x := (by repeat (first | (with_reducible refine bel_set ?_ (by first | (simp; done) | (simp; omega)) _) | (with_reducible refine bel_alloc ?_ _) | (with_reducible exact Below.refl _ _) | (with_reducible assumption) | (with_reducible refine bel_drew ?_) | (with_reducible refine bel_drewN ?_ _) | (with_reducible refine bel_trans ?_ (by with_reducible assumption))))
      clear hb
      have hB7 : Below (w.alloc (.cells #[.int .i64 ky, .int .i64 st, .int .i64 en, .int .i64 n, .int .i64 su, .int .i64 le, .int .i64 mo] 28)).heap.size (w.alloc (.cells #[.int .i64 ky, .int .i64 st, .int .i64 en, .int .i64 n, .int .i64 su, .int .i64 le, .int .i64 mo] 28)) w7x := bel_trans hB6 hb7
      have hz7 := hb7.size
      replace H0 := H0.below hb7
      replace H1 := H1.below hb7
      replace R1 := R1.below hb7
      replace H2 := H2.below hb7
      replace R2 := R2.below hb7
      replace H3 := H3.below hb7
      replace R3 := R3.below hb7
      replace H4 := H4.below hb7
      replace R4 := R4.below hb7
      go_wp2_with fail
      refine (toTb_any _ len0 _ z0 _ H0 hl0).mono ?_
      rintro e w8x ⟨b5, rfl, H5, R5, ge5, hb⟩
      have hb8 : Below w7x.heap.size w7x w8x := (by repeat (first | (with_reducible refine bel_set ?_ (by first | (simp; done) | (simp; omega)) _) | (with_reducible refine bel_alloc ?_ _) | (with_reducible exact Below.refl _ _) | (with_reducible assumption) | (with_reducible refine bel_drew ?_) | (with_reducible refine bel_drewN ?_ _) | (with_reducible refine bel_trans ?_ (by with_reducible assumption))))
      clear hb
      have hB8 : Below (w.alloc (.cells #[.int .i64 ky, .int .i64 st, .int .i64 en, .int .i64 n, .int .i64 su, .int .i64 le, .int .i64 mo] 28)).heap.size (w.alloc (.cells #[.int .i64 ky, .int .i64 st, .int .i64 en, .int .i64 n, .int .i64 su, .int .i64 le, .int .i64 mo] 28)) w8x := bel_trans hB7 hb8
      have hz8 := hb8.size
      replace H0 := H0.below hb8
      replace H1 := H1.below hb8
      replace R1 := R1.below hb8
      replace H2 := H2.below hb8
      replace R2 := R2.below hb8
      replace H3 := H3.below hb8
      replace R3 := R3.below hb8
      replace H4 := H4.below hb8
      replace R4 := R4.below hb8
      replace ge5 : ∀ g o, 0 < len0 → b5 = some ⟨g, o, none⟩ → w7x.heap.size ≤ g := fun g o hp e9 => Nat.le_trans (by first | exact Nat.le_refl _ | (simp; done) | (simp; omega)) (ge5 g o hp e9)
      have lt5 : ∀ g o, 0 < len0 → b5 = some ⟨g, o, none⟩ → g < w8x.heap.size := fun g o hp ha => by subst ha; exact H5.lt hp
      go_wp2_with fail
      refine (eqTb_any _ _ len0 _ _ z0 _ H3 H5).mono ?_
      rintro e w9x ⟨rfl, hb⟩
      have hb9 : Below w8x.heap.size w8x w9x := (by repeat (first | (with_reducible refine bel_set ?_ (by first | (simp; done) | (simp; omega)) _) | (with_reducible refine bel_alloc ?_ _) | (with_reducible exact Below.refl _ _) | (with_reducible assumption) | (with_reducible refine bel_drew ?_) | (with_reducible refine bel_drewN ?_ _) | (with_reducible refine bel_trans ?_ (by with_reducible assumption))))
      clear hb
      have hB9 : Below (w.alloc (.cells #[.int .i64 ky, .int .i64 st, .int .i64 en, .int .i64 n, .int .i64 su, .int .i64 le, .int .i64 mo] 28)).heap.size (w.alloc (.cells #[.int .i64 ky, .int .i64 st, .int .i64 en, .int .i64 n, .int .i64 su, .int .i64 le, .int .i64 mo] 28)) w9x := bel_trans hB8 hb9
      have hz9 := hb9.size
      replace H0 := H0.below hb9
      replace H1 := H1.below hb9
      replace R1 := R1.below hb9
      replace H2 := H2.below hb9
      replace R2 := R2.below hb9
      replace H3 := H3.below hb9
      replace R3 := R3.below hb9
      replace H4 := H4.below hb9
      replace R4 := R4.below hb9
      replace H5 := H5.below hb9
      replace R5 := R5.below hb9
      go_wp2_with fail
      refine (markTb_any _ len0 len0 _ R3 hl0).mono ?_
      rintro e w10x ⟨rfl, M3, hg⟩
      replace H0 := H0.grown hg (fun g o hp ha => rowTb_ne (fun g' o' hp' e9 => by have q1 := lt0 g o hp ha; have q3 := lt3 g' o' hp' e9; have q4 := ge3 g' o' hp' e9; omega) R3.shape)
      replace H1 := H1.grown hg (fun g o hp ha => rowTb_ne (fun g' o' hp' e9 => by have q1 := lt1 g o hp ha; have q2 := ge1 g o hp ha; have q3 := lt3 g' o' hp' e9; have q4 := ge3 g' o' hp' e9; omega) R3.shape)
      replace R1 := R1.grown hg (fun g o hp ha => rowTb_ne (fun g' o' hp' e9 => by have q1 := lt1 g o hp ha; have q2 := ge1 g o hp ha; have q3 := lt3 g' o' hp' e9; have q4 := ge3 g' o' hp' e9; omega) R3.shape)
      replace H2 := H2.grown hg (fun g o hp ha => rowTb_ne (fun g' o' hp' e9 => by have q1 := lt2 g o hp ha; have q2 := ge2 g o hp ha; have q3 := lt3 g' o' hp' e9; have q4 := ge3 g' o' hp' e9; omega) R3.shape)
      replace R2 := R2.grown hg (fun g o hp ha => rowTb_ne (fun g' o' hp' e9 => by have q1 := lt2 g o hp ha; have q2 := ge2 g o hp ha; have q3 := lt3 g' o' hp' e9; have q4 := ge3 g' o' hp' e9; omega) R3.shape)
      replace H4 := H4.grown hg (fun g o hp ha => rowTb_ne (fun g' o' hp' e9 => by have q1 := lt4 g o hp ha; have q2 := ge4 g o hp ha; have q3 := lt3 g' o' hp' e9; have q4 := ge3 g' o' hp' e9; omega) R3.shape)
      replace R4 := R4.grown hg (fun g o hp ha => rowTb_ne (fun g' o' hp' e9 => by have q1 := lt4 g o hp ha; have q2 := ge4 g o hp ha; have q3 := lt3 g' o' hp' e9; have q4 := ge3 g' o' hp' e9; omega) R3.shape)
      replace H5 := H5.grown hg (fun g o hp ha => rowTb_ne (fun g' o' hp' e9 => by have q1 := lt5 g o hp ha; have q2 := ge5 g o hp ha; have q3 := lt3 g' o' hp' e9; have q4 := ge3 g' o' hp' e9; omega) R3.shape)
      replace R5 := R5.grown hg (fun g o hp ha => rowTb_ne (fun g' o' hp' e9 => by have q1 := lt5 g o hp ha; have q2 := ge5 g o hp ha; have q3 := lt3 g' o' hp' e9; have q4 := ge3 g' o' hp' e9; omega) R3.shape)
      have hB10 : Below (w.alloc (.cells #[.int .i64 ky, .int .i64 st, .int .i64 en, .int .i64 n, .int .i64 su, .int .i64 le, .int .i64 mo] 28)).heap.size (w.alloc (.cells #[.int .i64 ky, .int .i64 st, .int .i64 en, .int .i64 n, .int .i64 su, .int .i64 le, .int .i64 mo] 28)) w10x := growTb hB9 hg (rowTb_ge (fun g' o' hp' e9 => by have q4 := ge3 g' o' hp' e9; omega) R3.shape)
      have hz10 := hg.size
      clear hg H3 R3
      clear M3
      go_wp2_with fail
      refine (eqTb_any _ _ RR.length _ _ RR _ H4 H2).mono ?_
      rintro e w11x ⟨rfl, hb⟩
      have hb11 : Below w10x.heap.size w10x w11x := (by repeat (first | (with_reducible refine bel_set ?_ (by first | (simp; done) | (simp; omega)) _) | (with_reducible refine bel_alloc ?_ _) | (with_reducible exact Below.refl _ _) | (with_reducible assumption) | (with_reducible refine bel_drew ?_) | (with_reducible refine bel_drewN ?_ _) | (with_reducible refine bel_trans ?_ (by with_reducible assumption))))
      clear hb
      have hB11 : Below (w.alloc (.cells #[.int .i64 ky, .int .i64 st, .int .i64 en, .int .i64 n, .int .i64 su, .int .i64 le, .int .i64 mo] 28)).heap.size (w.alloc (.cells #[.int .i64 ky, .int .i64 st, .int .i64 en, .int .i64 n, .int .i64 su, .int .i64 le, .int .i64 mo] 28)) w11x := bel_trans hB10 hb11
      have hz11 := hb11.size
      replace H0 := H0.below hb11
      replace H1 := H1.below hb11
      replace R1 := R1.below hb11
      replace H2 := H2.below hb11
      replace R2 := R2.below hb11
      replace H4 := H4.below hb11
      replace R4 := R4.below hb11
      replace H5 := H5.below hb11
      replace R5 := R5.below hb11
      go_wp2_with fail
      refine (markTb_any2 _ RR.length cp4 _ R4 hRl).mono ?_
      rintro e w12x ⟨rfl, M4, hg⟩
      replace H0 := H0.grown hg (fun g o hp ha => rowTb_ne (fun g' o' hp' e9 => by have q1 := lt0 g o hp ha; have q3 := lt4 g' o' hp' e9; have q4 := ge4 g' o' hp' e9; omega) R4.shape)
      replace H1 := H1.grown hg (fun g o hp ha => rowTb_ne (fun g' o' hp' e9 => by have q1 := lt1 g o hp ha; have q2 := ge1 g o hp ha; have q3 := lt4 g' o' hp' e9; have q4 := ge4 g' o' hp' e9; omega) R4.shape)
      replace R1 := R1.grown hg (fun g o hp ha => rowTb_ne (fun g' o' hp' e9 => by have q1 := lt1 g o hp ha; have q2 := ge1 g o hp ha; have q3 := lt4 g' o' hp' e9; have q4 := ge4 g' o' hp' e9; omega) R4.shape)
      replace H2 := H2.grown hg (fun g o hp ha => rowTb_ne (fun g' o' hp' e9 => by have q1 := lt2 g o hp ha; have q2 := ge2 g o hp ha; have q3 := lt4 g' o' hp' e9; have q4 := ge4 g' o' hp' e9; omega) R4.shape)
      replace R2 := R2.grown hg (fun g o hp ha => rowTb_ne (fun g' o' hp' e9 => by have q1 := lt2 g o hp ha; have q2 := ge2 g o hp ha; have q3 := lt4 g' o' hp' e9; have q4 := ge4 g' o' hp' e9; omega) R4.shape)
      replace H5 := H5.grown hg (fun g o hp ha => rowTb_ne (fun g' o' hp' e9 => by have q1 := lt5 g o hp ha; have q2 := ge5 g o hp ha; have q3 := lt4 g' o' hp' e9; have q4 := ge4 g' o' hp' e9; omega) R4.shape)
      replace R5 := R5.grown hg (fun g o hp ha => rowTb_ne (fun g' o' hp' e9 => by have q1 := lt5 g o hp ha; have q2 := ge5 g o hp ha; have q3 := lt4 g' o' hp' e9; have q4 := ge4 g' o' hp' e9; omega) R4.shape)
      have hB12 : Below (w.alloc (.cells #[.int .i64 ky, .int .i64 st, .int .i64 en, .int .i64 n, .int .i64 su, .int .i64 le, .int .i64 mo] 28)).heap.size (w.alloc (.cells #[.int .i64 ky, .int .i64 st, .int .i64 en, .int .i64 n, .int .i64 su, .int .i64 le, .int .i64 mo] 28)) w12x := growTb hB11 hg (rowTb_ge (fun g' o' hp' e9 => by have q4 := ge4 g' o' hp' e9; omega) R4.shape)
      have hz12 := hg.size
      clear hg H4 R4
      go_wp2_with fail
      refine (heldTb_any2 _ RR.length cp4 _ M4 hRl).mono ?_
      rintro e wx ⟨rfl, hw⟩
      obtain rfl := hw.symm
      clear hw
      go_wp2_with fail
      have hx0 : w.heap.size < w12x.heap.size := by have h9 := hB12.size; simp at h9; omega
      have c0_0 : w12x.cell? ⟨w.heap.size, 0, none⟩ = some (.int .i64 ky) := (hB12.cell (p := ⟨w.heap.size, 0, none⟩) (by simp)).trans (by simp [go_sem])
      have c0_1 : w12x.cell? ⟨w.heap.size, 1, none⟩ = some (.int .i64 st) := (hB12.cell (p := ⟨w.heap.size, 1, none⟩) (by simp)).trans (by simp [go_sem])
      have c0_2 : w12x.cell? ⟨w.heap.size, 2, none⟩ = some (.int .i64 en) := (hB12.cell (p := ⟨w.heap.size, 2, none⟩) (by simp)).trans (by simp [go_sem])
      have c0_3 : w12x.cell? ⟨w.heap.size, 3, none⟩ = some (.int .i64 n) := (hB12.cell (p := ⟨w.heap.size, 3, none⟩) (by simp)).trans (by simp [go_sem])
      have c0_4 : w12x.cell? ⟨w.heap.size, 4, none⟩ = some (.int .i64 su) := (hB12.cell (p := ⟨w.heap.size, 4, none⟩) (by simp)).trans (by simp [go_sem])
      have c0_5 : w12x.cell? ⟨w.heap.size, 5, none⟩ = some (.int .i64 le) := (hB12.cell (p := ⟨w.heap.size, 5, none⟩) (by simp)).trans (by simp [go_sem])
      have c0_6 : w12x.cell? ⟨w.heap.size, 6, none⟩ = some (.int .i64 mo) := (hB12.cell (p := ⟨w.heap.size, 6, none⟩) (by simp)).trans (by simp [go_sem])
      go_region_with (first
        | (go_at_call 10; refine (toTb_any _ len0 _ z0 _ (H0.below (by repeat (first | (with_reducible exact Below.refl _ _) | (with_reducible assumption) | (with_reducible refine bel_set ?_ (by first | (simp; done) | (simp; omega)) _) | (with_reducible refine bel_alloc ?_ _) | (with_reducible refine bel_drew ?_) | (with_reducible refine bel_drewN ?_ _) | (with_reducible refine bel_trans ?_ (by with_reducible assumption))))) hl0).mono ?_; rintro e w13x ⟨b6, rfl, H6, R6, ge6, hq13⟩; obtain ⟨hc, hf, hs⟩ := bcell hq13; have hy0 : w.heap.size < w13x.heap.size := hs _ (by first | (simp; done) | (simp; omega)); have hk0_0 : w13x.cell? ⟨w.heap.size, 0, none⟩ = some (.int .i64 ky) := (hc _ _ hx0).trans c0_0; have hk0_1 : w13x.cell? ⟨w.heap.size, 1, none⟩ = some (.int .i64 st) := (hc _ _ hx0).trans c0_1; have hk0_2 : w13x.cell? ⟨w.heap.size, 2, none⟩ = some (.int .i64 en) := (hc _ _ hx0).trans c0_2; have hk0_3 : w13x.cell? ⟨w.heap.size, 3, none⟩ = some (.int .i64 n) := (hc _ _ hx0).trans c0_3; have hk0_4 : w13x.cell? ⟨w.heap.size, 4, none⟩ = some (.int .i64 su) := (hc _ _ hx0).trans c0_4; have hk0_5 : w13x.cell? ⟨w.heap.size, 5, none⟩ = some (.int .i64 le) := (hc _ _ hx0).trans c0_5; have hk0_6 : w13x.cell? ⟨w.heap.size, 6, none⟩ = some (.int .i64 mo) := (hc _ _ hx0).trans c0_6)
        | (go_at_call 11; refine (toTb_one _ _ _ _ _ _ _ _).mono ?_; rintro e w14x ⟨rfl, hq14⟩)
        | (go_at_call 12; refine (implput_eq _ _ _ z0 ky st en n su le mo _ RR (H6.below (by repeat (first | (with_reducible exact Below.refl _ _) | (with_reducible assumption) | (with_reducible refine bel_set ?_ (by first | (simp; done) | (simp; omega)) _) | (with_reducible refine bel_alloc ?_ _) | (with_reducible refine bel_drew ?_) | (with_reducible refine bel_drewN ?_ _) | (with_reducible refine bel_trans ?_ (by with_reducible assumption))))) hl0 HR).mono ?_; rintro e w15x ⟨v7, rfl, hO7, hq15⟩))
      all_goals
        clear hc hf hs hx0 hy0
        clear c0_0 c0_1 c0_2 c0_3 c0_4 c0_5 c0_6
        have hz13 : w12x.heap.size ≤ w13x.heap.size := (show Below w12x.heap.size w12x w13x from (by repeat (first | (with_reducible exact Below.refl _ _) | (with_reducible assumption) | (with_reducible refine bel_set ?_ (by first | (simp; done) | (simp; omega)) _) | (with_reducible refine bel_alloc ?_ _) | (with_reducible refine bel_drew ?_) | (with_reducible refine bel_drewN ?_ _) | (with_reducible refine bel_trans ?_ (by with_reducible assumption))))).size
        have hz14 : w13x.heap.size ≤ w14x.heap.size := (show Below w13x.heap.size w13x w14x from (by repeat (first | (with_reducible exact Below.refl _ _) | (with_reducible assumption) | (with_reducible refine bel_set ?_ (by first | (simp; done) | (simp; omega)) _) | (with_reducible refine bel_alloc ?_ _) | (with_reducible refine bel_drew ?_) | (with_reducible refine bel_drewN ?_ _) | (with_reducible refine bel_trans ?_ (by with_reducible assumption))))).size
        have hz15 : w14x.heap.size ≤ w15x.heap.size := (show Below w14x.heap.size w14x w15x from (by repeat (first | (with_reducible exact Below.refl _ _) | (with_reducible assumption) | (with_reducible refine bel_set ?_ (by first | (simp; done) | (simp; omega)) _) | (with_reducible refine bel_alloc ?_ _) | (with_reducible refine bel_drew ?_) | (with_reducible refine bel_drewN ?_ _) | (with_reducible refine bel_trans ?_ (by with_reducible assumption))))).size
        have hbx6 : Below w13x.heap.size w13x w15x := (by repeat (first | (with_reducible exact Below.refl _ _) | (with_reducible assumption) | (with_reducible refine bel_set ?_ (by first | (simp; done) | (simp; omega)) _) | (with_reducible refine bel_alloc ?_ _) | (with_reducible refine bel_drew ?_) | (with_reducible refine bel_drewN ?_ _) | (with_reducible refine bel_trans ?_ (by with_reducible assumption))))
        have hb15 : Below w12x.heap.size w12x w15x := (by repeat (first | (with_reducible exact Below.refl _ _) | (with_reducible assumption) | (with_reducible refine bel_set ?_ (by first | (simp; done) | (simp; omega)) _) | (with_reducible refine bel_alloc ?_ _) | (with_reducible refine bel_drew ?_) | (with_reducible refine bel_drewN ?_ _) | (with_reducible refine bel_trans ?_ hq15) | (with_reducible refine bel_trans ?_ hq14) | (with_reducible refine bel_trans ?_ hq13)))
        have hB15 : Below (w.alloc (.cells #[.int .i64 ky, .int .i64 st, .int .i64 en, .int .i64 n, .int .i64 su, .int .i64 le, .int .i64 mo] 28)).heap.size (w.alloc (.cells #[.int .i64 ky, .int .i64 st, .int .i64 en, .int .i64 n, .int .i64 su, .int .i64 le, .int .i64 mo] 28)) w15x := bel_trans hB12 hb15
        replace H0 := H0.below hb15
        replace H1 := H1.below hb15
        replace R1 := R1.below hb15
        replace H2 := H2.below hb15
        replace R2 := R2.below hb15
        replace M4 := M4.below hb15
        replace H5 := H5.below hb15
        replace R5 := R5.below hb15
        replace ge6 : ∀ g o, 0 < len0 → b6 = some ⟨g, o, none⟩ → w12x.heap.size ≤ g := fun g o hp e9 => Nat.le_trans (by first | exact Nat.le_refl _ | (simp; done) | (simp; omega)) (ge6 g o hp e9)
        have lt6 : ∀ g o, 0 < len0 → b6 = some ⟨g, o, none⟩ → g < w13x.heap.size := fun g o hp ha => by subst ha; exact H6.lt hp
        replace H6 := H6.below hbx6
        replace R6 := R6.below hbx6
        clear hbx6
        obtain ⟨b7, cp7, rfl, H7, R7, ge7⟩ := holdTb2 hO7 hRl
        clear hO7
        replace ge7 : ∀ g o, 0 < RR.length → b7 = some ⟨g, o, none⟩ → w14x.heap.size ≤ g := fun g o hp e9 => Nat.le_trans (by first | exact Nat.le_refl _ | (simp; done) | (simp; omega)) (ge7 g o hp e9)
        have lt7 : ∀ g o, 0 < RR.length → b7 = some ⟨g, o, none⟩ → g < w15x.heap.size := fun g o hp ha => by subst ha; exact H7.lt hp
        clear hq13 hq14 hq15
        go_wp2_with fail
        refine (eqTb_any _ _ RR.length _ _ RR _ H7 H2).mono ?_
        rintro e w16x ⟨rfl, hb⟩
        have hb16 : Below w15x.heap.size w15x w16x := (by repeat (first | (with_reducible refine bel_set ?_ (by first | (simp; done) | (simp; omega)) _) | (with_reducible refine bel_alloc ?_ _) | (with_reducible exact Below.refl _ _) | (with_reducible assumption) | (with_reducible refine bel_drew ?_) | (with_reducible refine bel_drewN ?_ _) | (with_reducible refine bel_trans ?_ (by with_reducible assumption))))
        clear hb
        have hB16 : Below (w.alloc (.cells #[.int .i64 ky, .int .i64 st, .int .i64 en, .int .i64 n, .int .i64 su, .int .i64 le, .int .i64 mo] 28)).heap.size (w.alloc (.cells #[.int .i64 ky, .int .i64 st, .int .i64 en, .int .i64 n, .int .i64 su, .int .i64 le, .int .i64 mo] 28)) w16x := bel_trans hB15 hb16
        have hz16 := hb16.size
        replace H0 := H0.below hb16
        replace H1 := H1.below hb16
        replace R1 := R1.below hb16
        replace H2 := H2.below hb16
        replace R2 := R2.below hb16
        replace M4 := M4.below hb16
        replace H5 := H5.below hb16
        replace R5 := R5.below hb16
        replace H6 := H6.below hb16
        replace R6 := R6.below hb16
        replace H7 := H7.below hb16
        replace R7 := R7.below hb16
        go_wp2_with fail
        refine (heldTb_any2 _ RR.length cp4 _ M4 hRl).mono ?_
        rintro e wx ⟨rfl, hw⟩
        obtain rfl := hw.symm
        clear hw
        go_wp2_with fail
        go_ret
        exact ⟨rfl, bel_trans hb0 hB16⟩
  · go_enter Try.func3, Try.ntmps3
    go_wp2_with fail
    refine (szTb_big a0 len0 cap0 _ hm (by omega)).mono ?_
    rintro e wx ⟨rfl, hw⟩
    obtain rfl := hw.symm
    go_wp2_with fail
    go_ret
    exact ⟨rfl, (by repeat (first | (with_reducible refine bel_set ?_ (by first | (simp; done) | (simp; omega)) _) | (with_reducible refine bel_alloc ?_ _) | (with_reducible exact Below.refl _ _) | (with_reducible assumption) | (with_reducible refine bel_drew ?_) | (with_reducible refine bel_drewN ?_ _) | (with_reducible refine bel_trans ?_ (by with_reducible assumption))))⟩

end Go.Proofs.Ytdpifgdignhebaa
