/- Proved here: the law on PanSound returns true at every argument. -/
import Derived.Test.YtdpifgdignhebaaSoundI
namespace Go.Proofs.Ytdpifgdignhebaa
open Go.ChangeShapes Go.WideShapes Go.ChangeAt Go.RowKit
set_option linter.unusedVariables false

theorem lawPanSound (a0 : Option Addr) (len0 cap0 : Nat) (z0 : List PnR) (w : World) (w0 : PnRs w a0 len0 z0) (ok0 : ∀ x ∈ z0, x.ok64) : Calls Try.prog 5 #[.slice a0 len0 cap0] w fun e' w' => e' = .returned (.bool true) ∧ Below w.heap.size w w' := by
  have hm := w0.2.1
  by_cases hl : (len0 : Int) ≤ 1048576
  · have hl0 : len0 ≤ 1048576 := by omega
    have lt0 : ∀ g o, 0 < len0 → a0 = some ⟨g, o, none⟩ → g < w.heap.size := fun g o hp ha => by subst ha; exact w0.lt hp
    have H0 := w0
    go_enter Try.func5, Try.ntmps5
    go_wp2_with fail
    refine (szPn_small a0 len0 cap0 _ hm hl).mono ?_
    rintro e wx ⟨rfl, hw⟩
    obtain rfl := hw.symm
    clear hw
    go_wp2_with fail
    refine (toPn_any _ len0 _ z0 _ H0 hl0).mono ?_
    rintro e w1x ⟨b1, rfl, H1, R1, ge1, hb⟩
    have hb1 : Below w.heap.size w w1x := (by repeat (first | (with_reducible refine bel_set ?_ (by first | (simp; done) | (simp; omega)) _) | (with_reducible refine bel_alloc ?_ _) | (with_reducible exact Below.refl _ _) | (with_reducible assumption) | (with_reducible refine bel_drew ?_) | (with_reducible refine bel_drewN ?_ _) | (with_reducible refine bel_trans ?_ (by with_reducible assumption))))
    clear hb
    have hB1 : Below w.heap.size w w1x := hb1
    have hz1 := hb1.size
    replace H0 := H0.below hb1
    replace ge1 : ∀ g o, 0 < len0 → b1 = some ⟨g, o, none⟩ → w.heap.size ≤ g := fun g o hp e9 => Nat.le_trans (by first | exact Nat.le_refl _ | (simp; done) | (simp; omega)) (ge1 g o hp e9)
    have lt1 : ∀ g o, 0 < len0 → b1 = some ⟨g, o, none⟩ → g < w1x.heap.size := fun g o hp ha => by subst ha; exact H1.lt hp
    go_wp2_with fail
    refine (specsound_any _ _ _ z0 _ H1 hl0).mono ?_
    rintro e w2x ⟨rfl, hb⟩
    have hb2 : Below w1x.heap.size w1x w2x := (by repeat (first | (with_reducible refine bel_set ?_ (by first | (simp; done) | (simp; omega)) _) | (with_reducible refine bel_alloc ?_ _) | (with_reducible exact Below.refl _ _) | (with_reducible assumption) | (with_reducible refine bel_drew ?_) | (with_reducible refine bel_drewN ?_ _) | (with_reducible refine bel_trans ?_ (by with_reducible assumption))))
    clear hb
    have hB2 : Below w.heap.size w w2x := bel_trans hB1 hb2
    have hz2 := hb2.size
    replace H0 := H0.below hb2
    replace H1 := H1.below hb2
    replace R1 := R1.below hb2
    go_wp2_with fail
    refine (toPn_any _ len0 _ z0 _ H0 hl0).mono ?_
    rintro e w3x ⟨b2, rfl, H2, R2, ge2, hb⟩
    have hb3 : Below w2x.heap.size w2x w3x := (by repeat (first | (with_reducible refine bel_set ?_ (by first | (simp; done) | (simp; omega)) _) | (with_reducible refine bel_alloc ?_ _) | (with_reducible exact Below.refl _ _) | (with_reducible assumption) | (with_reducible refine bel_drew ?_) | (with_reducible refine bel_drewN ?_ _) | (with_reducible refine bel_trans ?_ (by with_reducible assumption))))
    clear hb
    have hB3 : Below w.heap.size w w3x := bel_trans hB2 hb3
    have hz3 := hb3.size
    replace H0 := H0.below hb3
    replace H1 := H1.below hb3
    replace R1 := R1.below hb3
    replace ge2 : ∀ g o, 0 < len0 → b2 = some ⟨g, o, none⟩ → w2x.heap.size ≤ g := fun g o hp e9 => Nat.le_trans (by first | exact Nat.le_refl _ | (simp; done) | (simp; omega)) (ge2 g o hp e9)
    have lt2 : ∀ g o, 0 < len0 → b2 = some ⟨g, o, none⟩ → g < w3x.heap.size := fun g o hp ha => by subst ha; exact H2.lt hp
    go_wp2_with fail
    refine (implsound_any _ _ _ z0 _ H2 hl0 ok0).mono ?_
    rintro e w4x ⟨rfl, hb⟩
    have hb4 : Below w3x.heap.size w3x w4x := (by repeat (first | (with_reducible refine bel_set ?_ (by first | (simp; done) | (simp; omega)) _) | (with_reducible refine bel_alloc ?_ _) | (with_reducible exact Below.refl _ _) | (with_reducible assumption) | (with_reducible refine bel_drew ?_) | (with_reducible refine bel_drewN ?_ _) | (with_reducible refine bel_trans ?_ (by with_reducible assumption))))
    clear hb
    have hB4 : Below w.heap.size w w4x := bel_trans hB3 hb4
    have hz4 := hb4.size
    replace H0 := H0.below hb4
    replace H1 := H1.below hb4
    replace R1 := R1.below hb4
    replace H2 := H2.below hb4
    replace R2 := R2.below hb4
    go_wp2_with fail
    refine (toPn_any _ len0 _ z0 _ H0 hl0).mono ?_
    rintro e w5x ⟨b3, rfl, H3, R3, ge3, hb⟩
    have hb5 : Below w4x.heap.size w4x w5x := (by repeat (first | (with_reducible refine bel_set ?_ (by first | (simp; done) | (simp; omega)) _) | (with_reducible refine bel_alloc ?_ _) | (with_reducible exact Below.refl _ _) | (with_reducible assumption) | (with_reducible refine bel_drew ?_) | (with_reducible refine bel_drewN ?_ _) | (with_reducible refine bel_trans ?_ (by with_reducible assumption))))
    clear hb
    have hB5 : Below w.heap.size w w5x := bel_trans hB4 hb5
    have hz5 := hb5.size
    replace H0 := H0.below hb5
    replace H1 := H1.below hb5
    replace R1 := R1.below hb5
    replace H2 := H2.below hb5
    replace R2 := R2.below hb5
    replace ge3 : ∀ g o, 0 < len0 → b3 = some ⟨g, o, none⟩ → w4x.heap.size ≤ g := fun g o hp e9 => Nat.le_trans (by first | exact Nat.le_refl _ | (simp; done) | (simp; omega)) (ge3 g o hp e9)
    have lt3 : ∀ g o, 0 < len0 → b3 = some ⟨g, o, none⟩ → g < w5x.heap.size := fun g o hp ha => by subst ha; exact H3.lt hp
    go_wp2_with fail
    refine (eqPn_any _ _ len0 _ _ z0 _ H2 H3).mono ?_
    rintro e w6x ⟨rfl, hb⟩
    have hb6 : Below w5x.heap.size w5x w6x := (by repeat (first | (with_reducible refine bel_set ?_ (by first | (simp; done) | (simp; omega)) _) | (with_reducible refine bel_alloc ?_ _) | (with_reducible exact Below.refl _ _) | (with_reducible assumption) | (with_reducible refine bel_drew ?_) | (with_reducible refine bel_drewN ?_ _) | (with_reducible refine bel_trans ?_ (by with_reducible assumption))))
    clear hb
    have hB6 : Below w.heap.size w w6x := bel_trans hB5 hb6
    have hz6 := hb6.size
    replace H0 := H0.below hb6
    replace H1 := H1.below hb6
    replace R1 := R1.below hb6
    replace H2 := H2.below hb6
    replace R2 := R2.below hb6
    replace H3 := H3.below hb6
    replace R3 := R3.below hb6
    go_wp2_with fail
    go_ret
    exact ⟨rfl, hB6⟩
  · go_enter Try.func5, Try.ntmps5
    go_wp2_with fail
    refine (szPn_big a0 len0 cap0 _ hm (by omega)).mono ?_
    rintro e wx ⟨rfl, hw⟩
    obtain rfl := hw.symm
    go_wp2_with fail
    go_ret
    exact ⟨rfl, Below.refl _ _⟩

end Go.Proofs.Ytdpifgdignhebaa
