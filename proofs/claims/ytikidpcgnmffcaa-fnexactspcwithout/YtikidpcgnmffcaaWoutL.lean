/- Proved here: the law on SpcWithout returns true at every argument. -/
import Derived.Test.YtikidpcgnmffcaaWoutS
import Derived.Test.YtikidpcgnmffcaaWoutI
import Derived.Test.YtikidpcgnmffcaaRkItm
namespace Go.Proofs.Ytikidpcgnmffcaa
open Go.ChangeShapes Go.WideShapes Go.ChangeAt Go.RowKit
set_option linter.unusedVariables false

theorem toIw_some (a : Option Addr) (len cap : Nat) (xs : List IwR) (w : World) (h : IwRs w a len xs) (hl : len ≤ 1048576) : Calls Try.prog 16 #[.slice a len cap] w fun e w' => ∃ g, e = .returned (.slice (some ⟨g, 0, none⟩) len len) ∧ IwRs w' (some ⟨g, 0, none⟩) len xs ∧ Below w.heap.size w w' :=
  (toIw_at a len cap xs w h hl).mono fun e w' ⟨h1, h2, h3, h4⟩ => ⟨_, h1, IwRs_of h.1 h.2.1 h2, h4⟩
theorem specwo_eq (g o len cap : Nat) (b : Option Addr) (len2 cap2 : Nat) (xs gs : List IwR) (w : World) (RR : List IwR) (h : IwRs w (some ⟨g, o, none⟩) len xs) (h2 : IwRs w b len2 gs) (hl : len ≤ 1048576) (hl2 : len2 ≤ 1048576) (hR : Hid (woS xs gs = RR)) : Calls Try.prog 15 #[.slice (some ⟨g, o, none⟩) len cap, .slice b len2 cap2] w fun e w' => ∃ v, e = .returned v ∧ OwnIw w' w.heap.size v RR ∧ Below w.heap.size w w' := by
  rw [← unhide hR]; exact specwo_any g o len cap b len2 cap2 xs gs w h h2 hl hl2
theorem implwo_eq (a : Option Addr) (len cap : Nat) (b : Option Addr) (len2 cap2 : Nat) (xs gs : List IwR) (w : World) (RR : List IwR) (h : IwRs w a len xs) (h2 : IwRs w b len2 gs) (hl : len ≤ 1048576) (hl2 : len2 ≤ 1048576) (hx : ∀ x ∈ xs, x.ok64) (hg : ∀ x ∈ gs, x.ok64) (hR : Hid (woS xs gs = RR)) : Calls Try.prog 17 #[.slice a len cap, .slice b len2 cap2] w fun e w' => ∃ v, e = .returned v ∧ OwnIw w' w.heap.size v RR ∧ Below w.heap.size w w' := by
  rw [← unhide hR]; exact implwo_any a b len cap len2 cap2 xs gs w h h2 hl hl2 hx hg

set_option maxRecDepth 20000 in
set_option maxHeartbeats 1000000 in
theorem lawSpcWithout (a0 : Option Addr) (len0 cap0 : Nat) (z0 : List IwR) (a1 : Option Addr) (len1 cap1 : Nat) (z1 : List IwR) (w : World) (w0 : IwRs w a0 len0 z0) (w1 : IwRs w a1 len1 z1) (ok0 : ∀ x ∈ z0, x.ok64) (ok1 : ∀ x ∈ z1, x.ok64) : Calls Try.prog 4 #[.slice a0 len0 cap0, .slice a1 len1 cap1] w fun e' w' => e' = .returned (.bool true) ∧ Below w.heap.size w w' := by
  have hm := w0.2.1
  have hm1 := w1.2.1
  by_cases hl : (len0 : Int) ≤ 1048576
  · have hl0 : len0 ≤ 1048576 := by omega
    by_cases hl2 : (len1 : Int) ≤ 1048576 - (len0 : Int)
    · have hl1 : len1 ≤ 1048576 := by omega
      have lt0 : ∀ g o, 0 < len0 → a0 = some ⟨g, o, none⟩ → g < w.heap.size := fun g o hp ha => by subst ha; exact w0.lt hp
      have H0 := w0
      have lt1 : ∀ g o, 0 < len1 → a1 = some ⟨g, o, none⟩ → g < w.heap.size := fun g o hp ha => by subst ha; exact w1.lt hp
      have H1 := w1
      have hRl : (woS z0 z1).length ≤ 1048576 := Nat.le_trans (woS_len z0 z1) (by have := w0.1; omega)
      generalize hR : woS z0 z1 = RR at hRl
      have HR := hide hR
      clear hR
      have hkk : ¬ (1 + 5 * (len0 : Int) + 5 * (len1 : Int) < 0) := by omega
      have hkd : decide (1 + 5 * (len0 : Int) + 5 * (len1 : Int) < 0) = false := decide_eq_false hkk
      go_enter Try.func4, Try.ntmps4
      go_wp2_with fail
      refine (szIw_small a0 len0 cap0 _ hm hl).mono ?_
      rintro e wx ⟨rfl, hw⟩
      obtain rfl := hw.symm
      clear hw
      go_wp2_with fail
      refine (szIw_le a1 len1 cap1 _ _ (by omega) hl2).mono ?_
      rintro e wx ⟨rfl, hw⟩
      obtain rfl := hw.symm
      clear hw
      go_wp2_with fail
      refine (toIw_some _ len0 _ z0 _ H0 hl0).mono ?_
      rintro e w1x ⟨gA, rfl, HA, hb⟩
      have hb1 : Below w.heap.size w w1x := (by repeat (first | (with_reducible refine bel_set ?_ (by first | (simp; done) | (simp; omega)) _) | (with_reducible refine bel_alloc ?_ _) | (with_reducible exact Below.refl _ _) | (with_reducible assumption) | (with_reducible refine bel_drew ?_) | (with_reducible refine bel_drewN ?_ _) | (with_reducible refine bel_trans ?_ (by with_reducible assumption))))
      clear hb
      have hB1 : Below w.heap.size w w1x := hb1
      have hz1 := hb1.size
      replace H0 := H0.below hb1
      replace H1 := H1.below hb1
      go_wp2_with fail
      refine (toIw_any _ len1 _ z1 _ H1 hl1).mono ?_
      rintro e w2x ⟨b3, rfl, H3, R3, ge3, hb⟩
      have hb2 : Below w1x.heap.size w1x w2x := (by repeat (first | (with_reducible refine bel_set ?_ (by first | (simp; done) | (simp; omega)) _) | (with_reducible refine bel_alloc ?_ _) | (with_reducible exact Below.refl _ _) | (with_reducible assumption) | (with_reducible refine bel_drew ?_) | (with_reducible refine bel_drewN ?_ _) | (with_reducible refine bel_trans ?_ (by with_reducible assumption))))
      clear hb
      have hB2 : Below w.heap.size w w2x := bel_trans hB1 hb2
      have hz2 := hb2.size
      replace H0 := H0.below hb2
      replace H1 := H1.below hb2
      replace HA := HA.below hb2
      replace ge3 : ∀ g o, 0 < len1 → b3 = some ⟨g, o, none⟩ → w1x.heap.size ≤ g := fun g o hp e9 => Nat.le_trans (by first | exact Nat.le_refl _ | (simp; done) | (simp; omega)) (ge3 g o hp e9)
      have lt3 : ∀ g o, 0 < len1 → b3 = some ⟨g, o, none⟩ → g < w2x.heap.size := fun g o hp ha => by subst ha; exact H3.lt hp
      go_wp2_with fail
      refine (specwo_eq _ _ _ _ _ _ _ z0 z1 _ RR HA H3 hl0 hl1 HR).mono ?_
      rintro e w3x ⟨v4, rfl, hO, hb⟩
      have hb3 : Below w2x.heap.size w2x w3x := (by repeat (first | (with_reducible refine bel_set ?_ (by first | (simp; done) | (simp; omega)) _) | (with_reducible refine bel_alloc ?_ _) | (with_reducible exact Below.refl _ _) | (with_reducible assumption) | (with_reducible refine bel_drew ?_) | (with_reducible refine bel_drewN ?_ _) | (with_reducible refine bel_trans ?_ (by with_reducible assumption))))
      clear hb
      have hB3 : Below w.heap.size w w3x := bel_trans hB2 hb3
      have hz3 := hb3.size
      replace H0 := H0.below hb3
      replace H1 := H1.below hb3
      replace HA := HA.below hb3
      replace H3 := H3.below hb3
      replace R3 := R3.below hb3
      obtain ⟨b4, cp4, rfl, H4, R4, ge4⟩ := holdIw hO hRl
      clear hO
      replace ge4 : ∀ g o, 0 < RR.length → b4 = some ⟨g, o, none⟩ → w2x.heap.size ≤ g := fun g o hp e9 => Nat.le_trans (by first | exact Nat.le_refl _ | (simp; done) | (simp; omega)) (ge4 g o hp e9)
      have lt4 : ∀ g o, 0 < RR.length → b4 = some ⟨g, o, none⟩ → g < w3x.heap.size := fun g o hp ha => by subst ha; exact H4.lt hp
      clear HA
      go_wp2_with fail
      refine (toIw_any _ len0 _ z0 _ H0 hl0).mono ?_
      rintro e w4x ⟨b5, rfl, H5, R5, ge5, hb⟩
      have hb4 : Below w3x.heap.size w3x w4x := (by repeat (first | (with_reducible refine bel_set ?_ (by first | (simp; done) | (simp; omega)) _) | (with_reducible refine bel_alloc ?_ _) | (with_reducible exact Below.refl _ _) | (with_reducible assumption) | (with_reducible refine bel_drew ?_) | (with_reducible refine bel_drewN ?_ _) | (with_reducible refine bel_trans ?_ (by with_reducible assumption))))
      clear hb
      have hB4 : Below w.heap.size w w4x := bel_trans hB3 hb4
      have hz4 := hb4.size
      replace H0 := H0.below hb4
      replace H1 := H1.below hb4
      replace H3 := H3.below hb4
      replace R3 := R3.below hb4
      replace H4 := H4.below hb4
      replace R4 := R4.below hb4
      replace ge5 : ∀ g o, 0 < len0 → b5 = some ⟨g, o, none⟩ → w3x.heap.size ≤ g := fun g o hp e9 => Nat.le_trans (by first | exact Nat.le_refl _ | (simp; done) | (simp; omega)) (ge5 g o hp e9)
      have lt5 : ∀ g o, 0 < len0 → b5 = some ⟨g, o, none⟩ → g < w4x.heap.size := fun g o hp ha => by subst ha; exact H5.lt hp
      go_wp2_with fail
      refine (toIw_any _ len1 _ z1 _ H1 hl1).mono ?_
      rintro e w5x ⟨b6, rfl, H6, R6, ge6, hb⟩
      have hb5 : Below w4x.heap.size w4x w5x := (by repeat (first | (with_reducible refine bel_set ?_ (by first | (simp; done) | (simp; omega)) _) | (with_reducible refine bel_alloc ?_ _) | (with_reducible exact Below.refl _ _) | (with_reducible assumption) | (with_reducible refine bel_drew ?_) | (with_reducible refine bel_drewN ?_ _) | (with_reducible refine bel_trans ?_ (by with_reducible assumption))))
      clear hb
      have hB5 : Below w.heap.size w w5x := bel_trans hB4 hb5
      have hz5 := hb5.size
      replace H0 := H0.below hb5
      replace H1 := H1.below hb5
      replace H3 := H3.below hb5
      replace R3 := R3.below hb5
      replace H4 := H4.below hb5
      replace R4 := R4.below hb5
      replace H5 := H5.below hb5
      replace R5 := R5.below hb5
      replace ge6 : ∀ g o, 0 < len1 → b6 = some ⟨g, o, none⟩ → w4x.heap.size ≤ g := fun g o hp e9 => Nat.le_trans (by first | exact Nat.le_refl _ | (simp; done) | (simp; omega)) (ge6 g o hp e9)
      have lt6 : ∀ g o, 0 < len1 → b6 = some ⟨g, o, none⟩ → g < w5x.heap.size := fun g o hp ha => by subst ha; exact H6.lt hp
      go_wp2_with fail
      refine (implwo_eq _ _ _ _ _ _ z0 z1 _ RR H5 H6 hl0 hl1 ok0 ok1 HR).mono ?_
      rintro e w6x ⟨v7, rfl, hO, hb⟩
      have hb6 : Below w5x.heap.size w5x w6x := (by repeat (first | (with_reducible refine bel_set ?_ (by first | (simp; done) | (simp; omega)) _) | (with_reducible refine bel_alloc ?_ _) | (with_reducible exact Below.refl _ _) | (with_reducible assumption) | (with_reducible refine bel_drew ?_) | (with_reducible refine bel_drewN ?_ _) | (with_reducible refine bel_trans ?_ (by with_reducible assumption))))
      clear hb
      have hB6 : Below w.heap.size w w6x := bel_trans hB5 hb6
      have hz6 := hb6.size
      replace H0 := H0.below hb6
      replace H1 := H1.below hb6
      replace H3 := H3.below hb6
      replace R3 := R3.below hb6
      replace H4 := H4.below hb6
      replace R4 := R4.below hb6
      replace H5 := H5.below hb6
      replace R5 := R5.below hb6
      replace H6 := H6.below hb6
      replace R6 := R6.below hb6
      obtain ⟨b7, cp7, rfl, H7, R7, ge7⟩ := holdIw hO hRl
      clear hO
      replace ge7 : ∀ g o, 0 < RR.length → b7 = some ⟨g, o, none⟩ → w5x.heap.size ≤ g := fun g o hp e9 => Nat.le_trans (by first | exact Nat.le_refl _ | (simp; done) | (simp; omega)) (ge7 g o hp e9)
      have lt7 : ∀ g o, 0 < RR.length → b7 = some ⟨g, o, none⟩ → g < w6x.heap.size := fun g o hp ha => by subst ha; exact H7.lt hp
      go_wp2_with fail
      refine (eqIw_any _ _ RR.length _ _ RR _ H7 H4).mono ?_
      rintro e w7x ⟨rfl, hb⟩
      have hb7 : Below w6x.heap.size w6x w7x := (by repeat (first | (with_reducible refine bel_set ?_ (by first | (simp; done) | (simp; omega)) _) | (with_reducible refine bel_alloc ?_ _) | (with_reducible exact Below.refl _ _) | (with_reducible assumption) | (with_reducible refine bel_drew ?_) | (with_reducible refine bel_drewN ?_ _) | (with_reducible refine bel_trans ?_ (by with_reducible assumption))))
      clear hb
      have hB7 : Below w.heap.size w w7x := bel_trans hB6 hb7
      have hz7 := hb7.size
      replace H0 := H0.below hb7
      replace H1 := H1.below hb7
      replace H3 := H3.below hb7
      replace R3 := R3.below hb7
      replace H4 := H4.below hb7
      replace R4 := R4.below hb7
      replace H5 := H5.below hb7
      replace R5 := R5.below hb7
      replace H6 := H6.below hb7
      replace R6 := R6.below hb7
      replace H7 := H7.below hb7
      replace R7 := R7.below hb7
      go_wp2_with fail
      refine (toIw_any _ len0 _ z0 _ H0 hl0).mono ?_
      rintro e w8x ⟨b8, rfl, H8, R8, ge8, hb⟩
      have hb8 : Below w7x.heap.size w7x w8x := (by repeat (first | (with_reducible refine bel_set ?_ (by first | (simp; done) | (simp; omega)) _) | (with_reducible refine bel_alloc ?_ _) | (with_reducible exact Below.refl _ _) | (with_reducible assumption) | (with_reducible refine bel_drew ?_) | (with_reducible refine bel_drewN ?_ _) | (with_reducible refine bel_trans ?_ (by with_reducible assumption))))
      clear hb
      have hB8 : Below w.heap.size w w8x := bel_trans hB7 hb8
      have hz8 := hb8.size
      replace H0 := H0.below hb8
      replace H1 := H1.below hb8
      replace H3 := H3.below hb8
      replace R3 := R3.below hb8
      replace H4 := H4.below hb8
      replace R4 := R4.below hb8
      replace H5 := H5.below hb8
      replace R5 := R5.below hb8
      replace H6 := H6.below hb8
      replace R6 := R6.below hb8
      replace H7 := H7.below hb8
      replace R7 := R7.below hb8
      replace ge8 : ∀ g o, 0 < len0 → b8 = some ⟨g, o, none⟩ → w7x.heap.size ≤ g := fun g o hp e9 => Nat.le_trans (by first | exact Nat.le_refl _ | (simp; done) | (simp; omega)) (ge8 g o hp e9)
      have lt8 : ∀ g o, 0 < len0 → b8 = some ⟨g, o, none⟩ → g < w8x.heap.size := fun g o hp ha => by subst ha; exact H8.lt hp
      go_wp2_with fail
      refine (eqIw_any _ _ len0 _ _ z0 _ H5 H8).mono ?_
      rintro e w9x ⟨rfl, hb⟩
      have hb9 : Below w8x.heap.size w8x w9x := (by repeat (first | (with_reducible refine bel_set ?_ (by first | (simp; done) | (simp; omega)) _) | (with_reducible refine bel_alloc ?_ _) | (with_reducible exact Below.refl _ _) | (with_reducible assumption) | (with_reducible refine bel_drew ?_) | (with_reducible refine bel_drewN ?_ _) | (with_reducible refine bel_trans ?_ (by with_reducible assumption))))
      clear hb
      have hB9 : Below w.heap.size w w9x := bel_trans hB8 hb9
      have hz9 := hb9.size
      replace H0 := H0.below hb9
      replace H1 := H1.below hb9
      replace H3 := H3.below hb9
      replace R3 := R3.below hb9
      replace H4 := H4.below hb9
      replace R4 := R4.below hb9
      replace H5 := H5.below hb9
      replace R5 := R5.below hb9
      replace H6 := H6.below hb9
      replace R6 := R6.below hb9
      replace H7 := H7.below hb9
      replace R7 := R7.below hb9
      replace H8 := H8.below hb9
      replace R8 := R8.below hb9
      go_wp2_with fail
      refine (toIw_any _ len1 _ z1 _ H1 hl1).mono ?_
      rintro e w10x ⟨b9, rfl, H9, R9, ge9, hb⟩
      have hb10 : Below w9x.heap.size w9x w10x := (by repeat (first | (with_reducible refine bel_set ?_ (by first | (simp; done) | (simp; omega)) _) | (with_reducible refine bel_alloc ?_ _) | (with_reducible exact Below.refl _ _) | (with_reducible assumption) | (with_reducible refine bel_drew ?_) | (with_reducible refine bel_drewN ?_ _) | (with_reducible refine bel_trans ?_ (by with_reducible assumption))))
      clear hb
      have hB10 : Below w.heap.size w w10x := bel_trans hB9 hb10
      have hz10 := hb10.size
      replace H0 := H0.below hb10
      replace H1 := H1.below hb10
      replace H3 := H3.below hb10
      replace R3 := R3.below hb10
      replace H4 := H4.below hb10
      replace R4 := R4.below hb10
      replace H5 := H5.below hb10
      replace R5 := R5.below hb10
      replace H6 := H6.below hb10
      replace R6 := R6.below hb10
      replace H7 := H7.below hb10
      replace R7 := R7.below hb10
      replace H8 := H8.below hb10
      replace R8 := R8.below hb10
      replace ge9 : ∀ g o, 0 < len1 → b9 = some ⟨g, o, none⟩ → w9x.heap.size ≤ g := fun g o hp e9 => Nat.le_trans (by first | exact Nat.le_refl _ | (simp; done) | (simp; omega)) (ge9 g o hp e9)
      have lt9 : ∀ g o, 0 < len1 → b9 = some ⟨g, o, none⟩ → g < w10x.heap.size := fun g o hp ha => by subst ha; exact H9.lt hp
      go_wp2_with fail
      refine (eqIw_any _ _ len1 _ _ z1 _ H6 H9).mono ?_
      rintro e w11x ⟨rfl, hb⟩
      have hb11 : Below w10x.heap.size w10x w11x := (by repeat (first | (with_reducible refine bel_set ?_ (by first | (simp; done) | (simp; omega)) _) | (with_reducible refine bel_alloc ?_ _) | (with_reducible exact Below.refl _ _) | (with_reducible assumption) | (with_reducible refine bel_drew ?_) | (with_reducible refine bel_drewN ?_ _) | (with_reducible refine bel_trans ?_ (by with_reducible assumption))))
      clear hb
      have hB11 : Below w.heap.size w w11x := bel_trans hB10 hb11
      have hz11 := hb11.size
      replace H0 := H0.below hb11
      replace H1 := H1.below hb11
      replace H3 := H3.below hb11
      replace R3 := R3.below hb11
      replace H4 := H4.below hb11
      replace R4 := R4.below hb11
      replace H5 := H5.below hb11
      replace R5 := R5.below hb11
      replace H6 := H6.below hb11
      replace R6 := R6.below hb11
      replace H7 := H7.below hb11
      replace R7 := R7.below hb11
      replace H8 := H8.below hb11
      replace R8 := R8.below hb11
      replace H9 := H9.below hb11
      replace R9 := R9.below hb11
      go_wp2_with fail
      refine (markIw_any _ len0 len0 _ R5 hl0).mono ?_
      rintro e w12x ⟨rfl, M5, hg⟩
      replace H0 := H0.grown hg (fun g o hp ha => rowIw_ne (fun g' o' hp' e9 => by have q1 := lt0 g o hp ha; have q3 := lt5 g' o' hp' e9; have q4 := ge5 g' o' hp' e9; omega) R5.shape)
      replace H1 := H1.grown hg (fun g o hp ha => rowIw_ne (fun g' o' hp' e9 => by have q1 := lt1 g o hp ha; have q3 := lt5 g' o' hp' e9; have q4 := ge5 g' o' hp' e9; omega) R5.shape)
      replace H3 := H3.grown hg (fun g o hp ha => rowIw_ne (fun g' o' hp' e9 => by have q1 := lt3 g o hp ha; have q2 := ge3 g o hp ha; have q3 := lt5 g' o' hp' e9; have q4 := ge5 g' o' hp' e9; omega) R5.shape)
      replace R3 := R3.grown hg (fun g o hp ha => rowIw_ne (fun g' o' hp' e9 => by have q1 := lt3 g o hp ha; have q2 := ge3 g o hp ha; have q3 := lt5 g' o' hp' e9; have q4 := ge5 g' o' hp' e9; omega) R5.shape)
      replace H4 := H4.grown hg (fun g o hp ha => rowIw_ne (fun g' o' hp' e9 => by have q1 := lt4 g o hp ha; have q2 := ge4 g o hp ha; have q3 := lt5 g' o' hp' e9; have q4 := ge5 g' o' hp' e9; omega) R5.shape)
      replace R4 := R4.grown hg (fun g o hp ha => rowIw_ne (fun g' o' hp' e9 => by have q1 := lt4 g o hp ha; have q2 := ge4 g o hp ha; have q3 := lt5 g' o' hp' e9; have q4 := ge5 g' o' hp' e9; omega) R5.shape)
      replace H6 := H6.grown hg (fun g o hp ha => rowIw_ne (fun g' o' hp' e9 => by have q1 := lt6 g o hp ha; have q2 := ge6 g o hp ha; have q3 := lt5 g' o' hp' e9; have q4 := ge5 g' o' hp' e9; omega) R5.shape)
      replace R6 := R6.grown hg (fun g o hp ha => rowIw_ne (fun g' o' hp' e9 => by have q1 := lt6 g o hp ha; have q2 := ge6 g o hp ha; have q3 := lt5 g' o' hp' e9; have q4 := ge5 g' o' hp' e9; omega) R5.shape)
      replace H7 := H7.grown hg (fun g o hp ha => rowIw_ne (fun g' o' hp' e9 => by have q1 := lt7 g o hp ha; have q2 := ge7 g o hp ha; have q3 := lt5 g' o' hp' e9; have q4 := ge5 g' o' hp' e9; omega) R5.shape)
      replace R7 := R7.grown hg (fun g o hp ha => rowIw_ne (fun g' o' hp' e9 => by have q1 := lt7 g o hp ha; have q2 := ge7 g o hp ha; have q3 := lt5 g' o' hp' e9; have q4 := ge5 g' o' hp' e9; omega) R5.shape)
      replace H8 := H8.grown hg (fun g o hp ha => rowIw_ne (fun g' o' hp' e9 => by have q1 := lt8 g o hp ha; have q2 := ge8 g o hp ha; have q3 := lt5 g' o' hp' e9; have q4 := ge5 g' o' hp' e9; omega) R5.shape)
      replace R8 := R8.grown hg (fun g o hp ha => rowIw_ne (fun g' o' hp' e9 => by have q1 := lt8 g o hp ha; have q2 := ge8 g o hp ha; have q3 := lt5 g' o' hp' e9; have q4 := ge5 g' o' hp' e9; omega) R5.shape)
      replace H9 := H9.grown hg (fun g o hp ha => rowIw_ne (fun g' o' hp' e9 => by have q1 := lt9 g o hp ha; have q2 := ge9 g o hp ha; have q3 := lt5 g' o' hp' e9; have q4 := ge5 g' o' hp' e9; omega) R5.shape)
      replace R9 := R9.grown hg (fun g o hp ha => rowIw_ne (fun g' o' hp' e9 => by have q1 := lt9 g o hp ha; have q2 := ge9 g o hp ha; have q3 := lt5 g' o' hp' e9; have q4 := ge5 g' o' hp' e9; omega) R5.shape)
      have hB12 : Below w.heap.size w w12x := growIw hB11 hg (rowIw_ge (fun g' o' hp' e9 => by have q4 := ge5 g' o' hp' e9; omega) R5.shape)
      have hz12 := hg.size
      clear hg H5 R5
      clear M5
      go_wp2_with fail
      refine (markKIw_any (1 + 5 * (len0 : Int)) (by omega) (by omega) _ len1 len1 _ R6 hl1).mono ?_
      rintro e w13x ⟨rfl, M6, hg⟩
      replace H0 := H0.grown hg (fun g o hp ha => rowIw_ne (fun g' o' hp' e9 => by have q1 := lt0 g o hp ha; have q3 := lt6 g' o' hp' e9; have q4 := ge6 g' o' hp' e9; omega) R6.shape)
      replace H1 := H1.grown hg (fun g o hp ha => rowIw_ne (fun g' o' hp' e9 => by have q1 := lt1 g o hp ha; have q3 := lt6 g' o' hp' e9; have q4 := ge6 g' o' hp' e9; omega) R6.shape)
      replace H3 := H3.grown hg (fun g o hp ha => rowIw_ne (fun g' o' hp' e9 => by have q1 := lt3 g o hp ha; have q2 := ge3 g o hp ha; have q3 := lt6 g' o' hp' e9; have q4 := ge6 g' o' hp' e9; omega) R6.shape)
      replace R3 := R3.grown hg (fun g o hp ha => rowIw_ne (fun g' o' hp' e9 => by have q1 := lt3 g o hp ha; have q2 := ge3 g o hp ha; have q3 := lt6 g' o' hp' e9; have q4 := ge6 g' o' hp' e9; omega) R6.shape)
      replace H4 := H4.grown hg (fun g o hp ha => rowIw_ne (fun g' o' hp' e9 => by have q1 := lt4 g o hp ha; have q2 := ge4 g o hp ha; have q3 := lt6 g' o' hp' e9; have q4 := ge6 g' o' hp' e9; omega) R6.shape)
      replace R4 := R4.grown hg (fun g o hp ha => rowIw_ne (fun g' o' hp' e9 => by have q1 := lt4 g o hp ha; have q2 := ge4 g o hp ha; have q3 := lt6 g' o' hp' e9; have q4 := ge6 g' o' hp' e9; omega) R6.shape)
      replace H7 := H7.grown hg (fun g o hp ha => rowIw_ne (fun g' o' hp' e9 => by have q1 := lt7 g o hp ha; have q2 := ge7 g o hp ha; have q3 := lt6 g' o' hp' e9; have q4 := ge6 g' o' hp' e9; omega) R6.shape)
      replace R7 := R7.grown hg (fun g o hp ha => rowIw_ne (fun g' o' hp' e9 => by have q1 := lt7 g o hp ha; have q2 := ge7 g o hp ha; have q3 := lt6 g' o' hp' e9; have q4 := ge6 g' o' hp' e9; omega) R6.shape)
      replace H8 := H8.grown hg (fun g o hp ha => rowIw_ne (fun g' o' hp' e9 => by have q1 := lt8 g o hp ha; have q2 := ge8 g o hp ha; have q3 := lt6 g' o' hp' e9; have q4 := ge6 g' o' hp' e9; omega) R6.shape)
      replace R8 := R8.grown hg (fun g o hp ha => rowIw_ne (fun g' o' hp' e9 => by have q1 := lt8 g o hp ha; have q2 := ge8 g o hp ha; have q3 := lt6 g' o' hp' e9; have q4 := ge6 g' o' hp' e9; omega) R6.shape)
      replace H9 := H9.grown hg (fun g o hp ha => rowIw_ne (fun g' o' hp' e9 => by have q1 := lt9 g o hp ha; have q2 := ge9 g o hp ha; have q3 := lt6 g' o' hp' e9; have q4 := ge6 g' o' hp' e9; omega) R6.shape)
      replace R9 := R9.grown hg (fun g o hp ha => rowIw_ne (fun g' o' hp' e9 => by have q1 := lt9 g o hp ha; have q2 := ge9 g o hp ha; have q3 := lt6 g' o' hp' e9; have q4 := ge6 g' o' hp' e9; omega) R6.shape)
      have hB13 : Below w.heap.size w w13x := growIw hB12 hg (rowIw_ge (fun g' o' hp' e9 => by have q4 := ge6 g' o' hp' e9; omega) R6.shape)
      have hz13 := hg.size
      clear hg H6 R6
      clear M6
      go_wp2_with fail
      refine (eqIw_any _ _ RR.length _ _ RR _ H7 H4).mono ?_
      rintro e w14x ⟨rfl, hb⟩
      have hb14 : Below w13x.heap.size w13x w14x := (by repeat (first | (with_reducible refine bel_set ?_ (by first | (simp; done) | (simp; omega)) _) | (with_reducible refine bel_alloc ?_ _) | (with_reducible exact Below.refl _ _) | (with_reducible assumption) | (with_reducible refine bel_drew ?_) | (with_reducible refine bel_drewN ?_ _) | (with_reducible refine bel_trans ?_ (by with_reducible assumption))))
      clear hb
      have hB14 : Below w.heap.size w w14x := bel_trans hB13 hb14
      have hz14 := hb14.size
      replace H0 := H0.below hb14
      replace H1 := H1.below hb14
      replace H3 := H3.below hb14
      replace R3 := R3.below hb14
      replace H4 := H4.below hb14
      replace R4 := R4.below hb14
      replace H7 := H7.below hb14
      replace R7 := R7.below hb14
      replace H8 := H8.below hb14
      replace R8 := R8.below hb14
      replace H9 := H9.below hb14
      replace R9 := R9.below hb14
      go_wp2_with fail
      refine (markIw_any _ RR.length cp7 _ R7 hRl).mono ?_
      rintro e w15x ⟨rfl, M7, hg⟩
      replace H0 := H0.grown hg (fun g o hp ha => rowIw_ne (fun g' o' hp' e9 => by have q1 := lt0 g o hp ha; have q3 := lt7 g' o' hp' e9; have q4 := ge7 g' o' hp' e9; omega) R7.shape)
      replace H1 := H1.grown hg (fun g o hp ha => rowIw_ne (fun g' o' hp' e9 => by have q1 := lt1 g o hp ha; have q3 := lt7 g' o' hp' e9; have q4 := ge7 g' o' hp' e9; omega) R7.shape)
      replace H3 := H3.grown hg (fun g o hp ha => rowIw_ne (fun g' o' hp' e9 => by have q1 := lt3 g o hp ha; have q2 := ge3 g o hp ha; have q3 := lt7 g' o' hp' e9; have q4 := ge7 g' o' hp' e9; omega) R7.shape)
      replace R3 := R3.grown hg (fun g o hp ha => rowIw_ne (fun g' o' hp' e9 => by have q1 := lt3 g o hp ha; have q2 := ge3 g o hp ha; have q3 := lt7 g' o' hp' e9; have q4 := ge7 g' o' hp' e9; omega) R7.shape)
      replace H4 := H4.grown hg (fun g o hp ha => rowIw_ne (fun g' o' hp' e9 => by have q1 := lt4 g o hp ha; have q2 := ge4 g o hp ha; have q3 := lt7 g' o' hp' e9; have q4 := ge7 g' o' hp' e9; omega) R7.shape)
      replace R4 := R4.grown hg (fun g o hp ha => rowIw_ne (fun g' o' hp' e9 => by have q1 := lt4 g o hp ha; have q2 := ge4 g o hp ha; have q3 := lt7 g' o' hp' e9; have q4 := ge7 g' o' hp' e9; omega) R7.shape)
      replace H8 := H8.grown hg (fun g o hp ha => rowIw_ne (fun g' o' hp' e9 => by have q1 := lt8 g o hp ha; have q2 := ge8 g o hp ha; have q3 := lt7 g' o' hp' e9; have q4 := ge7 g' o' hp' e9; omega) R7.shape)
      replace R8 := R8.grown hg (fun g o hp ha => rowIw_ne (fun g' o' hp' e9 => by have q1 := lt8 g o hp ha; have q2 := ge8 g o hp ha; have q3 := lt7 g' o' hp' e9; have q4 := ge7 g' o' hp' e9; omega) R7.shape)
      replace H9 := H9.grown hg (fun g o hp ha => rowIw_ne (fun g' o' hp' e9 => by have q1 := lt9 g o hp ha; have q2 := ge9 g o hp ha; have q3 := lt7 g' o' hp' e9; have q4 := ge7 g' o' hp' e9; omega) R7.shape)
      replace R9 := R9.grown hg (fun g o hp ha => rowIw_ne (fun g' o' hp' e9 => by have q1 := lt9 g o hp ha; have q2 := ge9 g o hp ha; have q3 := lt7 g' o' hp' e9; have q4 := ge7 g' o' hp' e9; omega) R7.shape)
      have hB15 : Below w.heap.size w w15x := growIw hB14 hg (rowIw_ge (fun g' o' hp' e9 => by have q4 := ge7 g' o' hp' e9; omega) R7.shape)
      have hz15 := hg.size
      clear hg H7 R7
      go_wp2_with fail
      refine (heldIw_any _ RR.length cp7 _ M7 hRl).mono ?_
      rintro e wx ⟨rfl, hw⟩
      obtain rfl := hw.symm
      clear hw
      go_wp2_with fail
      refine (toIw_any _ len0 _ z0 _ H0 hl0).mono ?_
      rintro e w16x ⟨b10, rfl, H10, R10, ge10, hb⟩
      have hb16 : Below w15x.heap.size w15x w16x := (by repeat (first | (with_reducible refine bel_set ?_ (by first | (simp; done) | (simp; omega)) _) | (with_reducible refine bel_alloc ?_ _) | (with_reducible exact Below.refl _ _) | (with_reducible assumption) | (with_reducible refine bel_drew ?_) | (with_reducible refine bel_drewN ?_ _) | (with_reducible refine bel_trans ?_ (by with_reducible assumption))))
      clear hb
      have hB16 : Below w.heap.size w w16x := bel_trans hB15 hb16
      have hz16 := hb16.size
      replace H0 := H0.below hb16
      replace H1 := H1.below hb16
      replace H3 := H3.below hb16
      replace R3 := R3.below hb16
      replace H4 := H4.below hb16
      replace R4 := R4.below hb16
      replace M7 := M7.below hb16
      replace H8 := H8.below hb16
      replace R8 := R8.below hb16
      replace H9 := H9.below hb16
      replace R9 := R9.below hb16
      replace ge10 : ∀ g o, 0 < len0 → b10 = some ⟨g, o, none⟩ → w15x.heap.size ≤ g := fun g o hp e9 => Nat.le_trans (by first | exact Nat.le_refl _ | (simp; done) | (simp; omega)) (ge10 g o hp e9)
      have lt10 : ∀ g o, 0 < len0 → b10 = some ⟨g, o, none⟩ → g < w16x.heap.size := fun g o hp ha => by subst ha; exact H10.lt hp
      go_wp2_with fail
      refine (toIw_any _ len1 _ z1 _ H1 hl1).mono ?_
      rintro e w17x ⟨b11, rfl, H11, R11, ge11, hb⟩
      have hb17 : Below w16x.heap.size w16x w17x := (by repeat (first | (with_reducible refine bel_set ?_ (by first | (simp; done) | (simp; omega)) _) | (with_reducible refine bel_alloc ?_ _) | (with_reducible exact Below.refl _ _) | (with_reducible assumption) | (with_reducible refine bel_drew ?_) | (with_reducible refine bel_drewN ?_ _) | (with_reducible refine bel_trans ?_ (by with_reducible assumption))))
      clear hb
      have hB17 : Below w.heap.size w w17x := bel_trans hB16 hb17
      have hz17 := hb17.size
      replace H0 := H0.below hb17
      replace H1 := H1.below hb17
      replace H3 := H3.below hb17
      replace R3 := R3.below hb17
      replace H4 := H4.below hb17
      replace R4 := R4.below hb17
      replace M7 := M7.below hb17
      replace H8 := H8.below hb17
      replace R8 := R8.below hb17
      replace H9 := H9.below hb17
      replace R9 := R9.below hb17
      replace H10 := H10.below hb17
      replace R10 := R10.below hb17
      replace ge11 : ∀ g o, 0 < len1 → b11 = some ⟨g, o, none⟩ → w16x.heap.size ≤ g := fun g o hp e9 => Nat.le_trans (by first | exact Nat.le_refl _ | (simp; done) | (simp; omega)) (ge11 g o hp e9)
      have lt11 : ∀ g o, 0 < len1 → b11 = some ⟨g, o, none⟩ → g < w17x.heap.size := fun g o hp ha => by subst ha; exact H11.lt hp
      go_wp2_with fail
      refine (implwo_eq _ _ _ _ _ _ z0 z1 _ RR H10 H11 hl0 hl1 ok0 ok1 HR).mono ?_
      rintro e w18x ⟨v12, rfl, hO, hb⟩
      have hb18 : Below w17x.heap.size w17x w18x := (by repeat (first | (with_reducible refine bel_set ?_ (by first | (simp; done) | (simp; omega)) _) | (with_reducible refine bel_alloc ?_ _) | (with_reducible exact Below.refl _ _) | (with_reducible assumption) | (with_reducible refine bel_drew ?_) | (with_reducible refine bel_drewN ?_ _) | (with_reducible refine bel_trans ?_ (by with_reducible assumption))))
      clear hb
      have hB18 : Below w.heap.size w w18x := bel_trans hB17 hb18
      have hz18 := hb18.size
      replace H0 := H0.below hb18
      replace H1 := H1.below hb18
      replace H3 := H3.below hb18
      replace R3 := R3.below hb18
      replace H4 := H4.below hb18
      replace R4 := R4.below hb18
      replace M7 := M7.below hb18
      replace H8 := H8.below hb18
      replace R8 := R8.below hb18
      replace H9 := H9.below hb18
      replace R9 := R9.below hb18
      replace H10 := H10.below hb18
      replace R10 := R10.below hb18
      replace H11 := H11.below hb18
      replace R11 := R11.below hb18
      obtain ⟨b12, cp12, rfl, H12, R12, ge12⟩ := holdIw hO hRl
      clear hO
      replace ge12 : ∀ g o, 0 < RR.length → b12 = some ⟨g, o, none⟩ → w17x.heap.size ≤ g := fun g o hp e9 => Nat.le_trans (by first | exact Nat.le_refl _ | (simp; done) | (simp; omega)) (ge12 g o hp e9)
      have lt12 : ∀ g o, 0 < RR.length → b12 = some ⟨g, o, none⟩ → g < w18x.heap.size := fun g o hp ha => by subst ha; exact H12.lt hp
      go_wp2_with fail
      refine (eqIw_any _ _ RR.length _ _ RR _ H12 H4).mono ?_
      rintro e w19x ⟨rfl, hb⟩
      have hb19 : Below w18x.heap.size w18x w19x := (by repeat (first | (with_reducible refine bel_set ?_ (by first | (simp; done) | (simp; omega)) _) | (with_reducible refine bel_alloc ?_ _) | (with_reducible exact Below.refl _ _) | (with_reducible assumption) | (with_reducible refine bel_drew ?_) | (with_reducible refine bel_drewN ?_ _) | (with_reducible refine bel_trans ?_ (by with_reducible assumption))))
      clear hb
      have hB19 : Below w.heap.size w w19x := bel_trans hB18 hb19
      have hz19 := hb19.size
      replace H0 := H0.below hb19
      replace H1 := H1.below hb19
      replace H3 := H3.below hb19
      replace R3 := R3.below hb19
      replace H4 := H4.below hb19
      replace R4 := R4.below hb19
      replace M7 := M7.below hb19
      replace H8 := H8.below hb19
      replace R8 := R8.below hb19
      replace H9 := H9.below hb19
      replace R9 := R9.below hb19
      replace H10 := H10.below hb19
      replace R10 := R10.below hb19
      replace H11 := H11.below hb19
      replace R11 := R11.below hb19
      replace H12 := H12.below hb19
      replace R12 := R12.below hb19
      go_wp2_with fail
      refine (heldIw_any _ RR.length cp7 _ M7 hRl).mono ?_
      rintro e wx ⟨rfl, hw⟩
      obtain rfl := hw.symm
      clear hw
      go_wp2_with fail
      go_ret
      exact ⟨rfl, hB19⟩
    · go_enter Try.func4, Try.ntmps4
      go_wp2_with fail
      refine (szIw_small a0 len0 cap0 _ hm hl).mono ?_
      rintro e wx ⟨rfl, hw⟩
      obtain rfl := hw.symm
      go_wp2_with fail
      refine (szIw_gt a1 len1 cap1 _ _ hm1 (by omega) (by omega) (by omega)).mono ?_
      rintro e wx ⟨rfl, hw⟩
      obtain rfl := hw.symm
      go_wp2_with fail
      go_ret
      exact ⟨rfl, Below.refl _ _⟩
  · go_enter Try.func4, Try.ntmps4
    go_wp2_with fail
    refine (szIw_big a0 len0 cap0 _ hm (by omega)).mono ?_
    rintro e wx ⟨rfl, hw⟩
    obtain rfl := hw.symm
    go_wp2_with fail
    go_ret
    exact ⟨rfl, Below.refl _ _⟩

end Go.Proofs.Ytikidpcgnmffcaa
