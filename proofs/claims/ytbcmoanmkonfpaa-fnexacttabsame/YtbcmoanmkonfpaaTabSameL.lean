/- Proved here: the law on TabSame returns true at every argument. -/
import Derived.Test.YtbcmoanmkonfpaaTabSame
namespace Go.Proofs.Ytbcmoanmkonfpaa
open Go.ChangeShapes Go.WideShapes Go.ChangeAt Go.RowKit
set_option linter.unusedVariables false

set_option maxRecDepth 20000 in
set_option maxHeartbeats 1000000 in
theorem lawTabSame (a0 : Option Addr) (len0 cap0 : Nat) (z0 : List TbR) (a1 : Option Addr) (len1 cap1 : Nat) (z1 : List TbR) (w : World) (w0 : TbRs w a0 len0 z0) (w1 : TbRs w a1 len1 z1) : Calls Try.prog 8 #[.slice a0 len0 cap0, .slice a1 len1 cap1] w fun e' w' => e' = .returned (.bool true) ∧ Below w.heap.size w w' := by
  have hm := w0.2.1
  have hm1 := w1.2.1
  by_cases hl : (len0 : Int) ≤ 1048576
  · have hl0 : len0 ≤ 1048576 := by omega
    by_cases hl2 : (len1 : Int) ≤ 1048576 - (len0 : Int)
    · have hl1 : len1 ≤ 1048576 := by omega
      have lt0 : ∀ g o, 0 < len0 → a0 = some ⟨g, o, none⟩ → g < w.heap.size := fun g o hp ha => by subst ha; exact w0.lt hp
      have H0 := w0
      have lt1 : ∀ g o, 0 < len1 → a1 = some ⟨g, o, none⟩ → g < w.heap.size := fun g o hp ha => by subst ha; exact w1.lt hp
      have H1 := w1
      go_enter Try.func8, Try.ntmps8
      go_wp2_with fail
      refine (szTb_small a0 len0 cap0 _ hm hl).mono ?_
      rintro e wx ⟨rfl, hw⟩
      obtain rfl := hw.symm
      clear hw
      go_wp2_with fail
      refine (szTb_le a1 len1 cap1 _ _ (by omega) hl2).mono ?_
      rintro e wx ⟨rfl, hw⟩
      obtain rfl := hw.symm
      clear hw
      go_wp2_with fail
      refine (toTb_any _ len0 _ z0 _ H0 hl0).mono ?_
      rintro e w1x ⟨b2, rfl, H2, R2, ge2, hb⟩
      have hb1 : Below w.heap.size w w1x := (by repeat (first | (with_reducible refine bel_set ?_ (by first | (simp; done) | (simp; omega)) _) | (with_reducible refine bel_alloc ?_ _) | (with_reducible exact Below.refl _ _) | (with_reducible assumption) | (with_reducible refine bel_drew ?_) | (with_reducible refine bel_drewN ?_ _) | (with_reducible refine bel_trans ?_ (by with_reducible assumption))))
      clear hb
      have hB1 : Below w.heap.size w w1x := hb1
      have hz1 := hb1.size
      replace H0 := H0.below hb1
      replace H1 := H1.below hb1
      replace ge2 : ∀ g o, 0 < len0 → b2 = some ⟨g, o, none⟩ → w.heap.size ≤ g := fun g o hp e9 => Nat.le_trans (by first | exact Nat.le_refl _ | (simp; done) | (simp; omega)) (ge2 g o hp e9)
      have lt2 : ∀ g o, 0 < len0 → b2 = some ⟨g, o, none⟩ → g < w1x.heap.size := fun g o hp ha => by subst ha; exact H2.lt hp
      go_wp2_with fail
      refine (toTb_any _ len1 _ z1 _ H1 hl1).mono ?_
      rintro e w2x ⟨b3, rfl, H3, R3, ge3, hb⟩
      have hb2 : Below w1x.heap.size w1x w2x := (by repeat (first | (with_reducible refine bel_set ?_ (by first | (simp; done) | (simp; omega)) _) | (with_reducible refine bel_alloc ?_ _) | (with_reducible exact Below.refl _ _) | (with_reducible assumption) | (with_reducible refine bel_drew ?_) | (with_reducible refine bel_drewN ?_ _) | (with_reducible refine bel_trans ?_ (by with_reducible assumption))))
      clear hb
      have hB2 : Below w.heap.size w w2x := bel_trans hB1 hb2
      have hz2 := hb2.size
      replace H0 := H0.below hb2
      replace H1 := H1.below hb2
      replace H2 := H2.below hb2
      replace R2 := R2.below hb2
      replace ge3 : ∀ g o, 0 < len1 → b3 = some ⟨g, o, none⟩ → w1x.heap.size ≤ g := fun g o hp e9 => Nat.le_trans (by first | exact Nat.le_refl _ | (simp; done) | (simp; omega)) (ge3 g o hp e9)
      have lt3 : ∀ g o, 0 < len1 → b3 = some ⟨g, o, none⟩ → g < w2x.heap.size := fun g o hp ha => by subst ha; exact H3.lt hp
      go_wp2_with fail
      refine (specsame_any _ _ _ _ _ _ z0 z1 _ H2 H3).mono ?_
      rintro e w3x ⟨rfl, hb⟩
      have hb3 : Below w2x.heap.size w2x w3x := (by repeat (first | (with_reducible refine bel_set ?_ (by first | (simp; done) | (simp; omega)) _) | (with_reducible refine bel_alloc ?_ _) | (with_reducible exact Below.refl _ _) | (with_reducible assumption) | (with_reducible refine bel_drew ?_) | (with_reducible refine bel_drewN ?_ _) | (with_reducible refine bel_trans ?_ (by with_reducible assumption))))
      clear hb
      have hB3 : Below w.heap.size w w3x := bel_trans hB2 hb3
      have hz3 := hb3.size
      replace H0 := H0.below hb3
      replace H1 := H1.below hb3
      replace H2 := H2.below hb3
      replace R2 := R2.below hb3
      replace H3 := H3.below hb3
      replace R3 := R3.below hb3
      go_wp2_with fail
      refine (toTb_any _ len0 _ z0 _ H0 hl0).mono ?_
      rintro e w4x ⟨b4, rfl, H4, R4, ge4, hb⟩
      have hb4 : Below w3x.heap.size w3x w4x := (by repeat (first | (with_reducible refine bel_set ?_ (by first | (simp; done) | (simp; omega)) _) | (with_reducible refine bel_alloc ?_ _) | (with_reducible exact Below.refl _ _) | (with_reducible assumption) | (with_reducible refine bel_drew ?_) | (with_reducible refine bel_drewN ?_ _) | (with_reducible refine bel_trans ?_ (by with_reducible assumption))))
      clear hb
      have hB4 : Below w.heap.size w w4x := bel_trans hB3 hb4
      have hz4 := hb4.size
      replace H0 := H0.below hb4
      replace H1 := H1.below hb4
      replace H2 := H2.below hb4
      replace R2 := R2.below hb4
      replace H3 := H3.below hb4
      replace R3 := R3.below hb4
      replace ge4 : ∀ g o, 0 < len0 → b4 = some ⟨g, o, none⟩ → w3x.heap.size ≤ g := fun g o hp e9 => Nat.le_trans (by first | exact Nat.le_refl _ | (simp; done) | (simp; omega)) (ge4 g o hp e9)
      have lt4 : ∀ g o, 0 < len0 → b4 = some ⟨g, o, none⟩ → g < w4x.heap.size := fun g o hp ha => by subst ha; exact H4.lt hp
      go_wp2_with fail
      refine (toTb_any _ len1 _ z1 _ H1 hl1).mono ?_
      rintro e w5x ⟨b5, rfl, H5, R5, ge5, hb⟩
      have hb5 : Below w4x.heap.size w4x w5x := (by repeat (first | (with_reducible refine bel_set ?_ (by first | (simp; done) | (simp; omega)) _) | (with_reducible refine bel_alloc ?_ _) | (with_reducible exact Below.refl _ _) | (with_reducible assumption) | (with_reducible refine bel_drew ?_) | (with_reducible refine bel_drewN ?_ _) | (with_reducible refine bel_trans ?_ (by with_reducible assumption))))
      clear hb
      have hB5 : Below w.heap.size w w5x := bel_trans hB4 hb5
      have hz5 := hb5.size
      replace H0 := H0.below hb5
      replace H1 := H1.below hb5
      replace H2 := H2.below hb5
      replace R2 := R2.below hb5
      replace H3 := H3.below hb5
      replace R3 := R3.below hb5
      replace H4 := H4.below hb5
      replace R4 := R4.below hb5
      replace ge5 : ∀ g o, 0 < len1 → b5 = some ⟨g, o, none⟩ → w4x.heap.size ≤ g := fun g o hp e9 => Nat.le_trans (by first | exact Nat.le_refl _ | (simp; done) | (simp; omega)) (ge5 g o hp e9)
      have lt5 : ∀ g o, 0 < len1 → b5 = some ⟨g, o, none⟩ → g < w5x.heap.size := fun g o hp ha => by subst ha; exact H5.lt hp
      go_wp2_with fail
      refine (implsame_any _ _ _ _ _ _ z0 z1 _ H4 H5).mono ?_
      rintro e w6x ⟨rfl, hb⟩
      have hb6 : Below w5x.heap.size w5x w6x := (by repeat (first | (with_reducible refine bel_set ?_ (by first | (simp; done) | (simp; omega)) _) | (with_reducible refine bel_alloc ?_ _) | (with_reducible exact Below.refl _ _) | (with_reducible assumption) | (with_reducible refine bel_drew ?_) | (with_reducible refine bel_drewN ?_ _) | (with_reducible refine bel_trans ?_ (by with_reducible assumption))))
      clear hb
      have hB6 : Below w.heap.size w w6x := bel_trans hB5 hb6
      have hz6 := hb6.size
      replace H0 := H0.below hb6
      replace H1 := H1.below hb6
      replace H2 := H2.below hb6
      replace R2 := R2.below hb6
      replace H3 := H3.below hb6
      replace R3 := R3.below hb6
      replace H4 := H4.below hb6
      replace R4 := R4.below hb6
      replace H5 := H5.below hb6
      replace R5 := R5.below hb6
      go_wp2_with fail
      refine (toTb_any _ len0 _ z0 _ H0 hl0).mono ?_
      rintro e w7x ⟨b6, rfl, H6, R6, ge6, hb⟩
      have hb7 : Below w6x.heap.size w6x w7x := (by repeat (first | (with_reducible refine bel_set ?_ (by first | (simp; done) | (simp; omega)) _) | (with_reducible refine bel_alloc ?_ _) | (with_reducible exact Below.refl _ _) | (with_reducible assumption) | (with_reducible refine bel_drew ?_) | (with_reducible refine bel_drewN ?_ _) | (with_reducible refine bel_trans ?_ (by with_reducible assumption))))
      clear hb
      have hB7 : Below w.heap.size w w7x := bel_trans hB6 hb7
      have hz7 := hb7.size
      replace H0 := H0.below hb7
      replace H1 := H1.below hb7
      replace H2 := H2.below hb7
      replace R2 := R2.below hb7
      replace H3 := H3.below hb7
      replace R3 := R3.below hb7
      replace H4 := H4.below hb7
      replace R4 := R4.below hb7
      replace H5 := H5.below hb7
      replace R5 := R5.below hb7
      replace ge6 : ∀ g o, 0 < len0 → b6 = some ⟨g, o, none⟩ → w6x.heap.size ≤ g := fun g o hp e9 => Nat.le_trans (by first | exact Nat.le_refl _ | (simp; done) | (simp; omega)) (ge6 g o hp e9)
      have lt6 : ∀ g o, 0 < len0 → b6 = some ⟨g, o, none⟩ → g < w7x.heap.size := fun g o hp ha => by subst ha; exact H6.lt hp
      go_wp2_with fail
      refine (eqTb_any _ _ len0 _ _ z0 _ H4 H6).mono ?_
      rintro e w8x ⟨rfl, hb⟩
      have hb8 : Below w7x.heap.size w7x w8x := (by repeat (first | (with_reducible refine bel_set ?_ (by first | (simp; done) | (simp; omega)) _) | (with_reducible refine bel_alloc ?_ _) | (with_reducible exact Below.refl _ _) | (with_reducible assumption) | (with_reducible refine bel_drew ?_) | (with_reducible refine bel_drewN ?_ _) | (with_reducible refine bel_trans ?_ (by with_reducible assumption))))
      clear hb
      have hB8 : Below w.heap.size w w8x := bel_trans hB7 hb8
      have hz8 := hb8.size
      replace H0 := H0.below hb8
      replace H1 := H1.below hb8
      replace H2 := H2.below hb8
      replace R2 := R2.below hb8
      replace H3 := H3.below hb8
      replace R3 := R3.below hb8
      replace H4 := H4.below hb8
      replace R4 := R4.below hb8
      replace H5 := H5.below hb8
      replace R5 := R5.below hb8
      replace H6 := H6.below hb8
      replace R6 := R6.below hb8
      go_wp2_with fail
      refine (toTb_any _ len1 _ z1 _ H1 hl1).mono ?_
      rintro e w9x ⟨b7, rfl, H7, R7, ge7, hb⟩
      have hb9 : Below w8x.heap.size w8x w9x := (by repeat (first | (with_reducible refine bel_set ?_ (by first | (simp; done) | (simp; omega)) _) | (with_reducible refine bel_alloc ?_ _) | (with_reducible exact Below.refl _ _) | (with_reducible assumption) | (with_reducible refine bel_drew ?_) | (with_reducible refine bel_drewN ?_ _) | (with_reducible refine bel_trans ?_ (by with_reducible assumption))))
      clear hb
      have hB9 : Below w.heap.size w w9x := bel_trans hB8 hb9
      have hz9 := hb9.size
      replace H0 := H0.below hb9
      replace H1 := H1.below hb9
      replace H2 := H2.below hb9
      replace R2 := R2.below hb9
      replace H3 := H3.below hb9
      replace R3 := R3.below hb9
      replace H4 := H4.below hb9
      replace R4 := R4.below hb9
      replace H5 := H5.below hb9
      replace R5 := R5.below hb9
      replace H6 := H6.below hb9
      replace R6 := R6.below hb9
      replace ge7 : ∀ g o, 0 < len1 → b7 = some ⟨g, o, none⟩ → w8x.heap.size ≤ g := fun g o hp e9 => Nat.le_trans (by first | exact Nat.le_refl _ | (simp; done) | (simp; omega)) (ge7 g o hp e9)
      have lt7 : ∀ g o, 0 < len1 → b7 = some ⟨g, o, none⟩ → g < w9x.heap.size := fun g o hp ha => by subst ha; exact H7.lt hp
      go_wp2_with fail
      refine (eqTb_any _ _ len1 _ _ z1 _ H5 H7).mono ?_
      rintro e w10x ⟨rfl, hb⟩
      have hb10 : Below w9x.heap.size w9x w10x := (by repeat (first | (with_reducible refine bel_set ?_ (by first | (simp; done) | (simp; omega)) _) | (with_reducible refine bel_alloc ?_ _) | (with_reducible exact Below.refl _ _) | (with_reducible assumption) | (with_reducible refine bel_drew ?_) | (with_reducible refine bel_drewN ?_ _) | (with_reducible refine bel_trans ?_ (by with_reducible assumption))))
      clear hb
      have hB10 : Below w.heap.size w w10x := bel_trans hB9 hb10
      have hz10 := hb10.size
      replace H0 := H0.below hb10
      replace H1 := H1.below hb10
      replace H2 := H2.below hb10
      replace R2 := R2.below hb10
      replace H3 := H3.below hb10
      replace R3 := R3.below hb10
      replace H4 := H4.below hb10
      replace R4 := R4.below hb10
      replace H5 := H5.below hb10
      replace R5 := R5.below hb10
      replace H6 := H6.below hb10
      replace R6 := R6.below hb10
      replace H7 := H7.below hb10
      replace R7 := R7.below hb10
      go_wp2_with fail
      go_ret
      exact ⟨rfl, hB10⟩
    · go_enter Try.func8, Try.ntmps8
      go_wp2_with fail
      refine (szTb_small a0 len0 cap0 _ hm hl).mono ?_
      rintro e wx ⟨rfl, hw⟩
      obtain rfl := hw.symm
      go_wp2_with fail
      refine (szTb_gt a1 len1 cap1 _ _ hm1 (by omega) (by omega) (by omega)).mono ?_
      rintro e wx ⟨rfl, hw⟩
      obtain rfl := hw.symm
      go_wp2_with fail
      go_ret
      exact ⟨rfl, Below.refl _ _⟩
  · go_enter Try.func8, Try.ntmps8
    go_wp2_with fail
    refine (szTb_big a0 len0 cap0 _ hm (by omega)).mono ?_
    rintro e wx ⟨rfl, hw⟩
    obtain rfl := hw.symm
    go_wp2_with fail
    go_ret
    exact ⟨rfl, Below.refl _ _⟩

end Go.Proofs.Ytbcmoanmkonfpaa
