/- Proved here: the law on what panes tell returns true at every argument. -/
import Derived.Test.YtikidpcgnmffcaaTabOfI
import Derived.Test.YtikidpcgnmffcaaRwPan
namespace Go.Proofs.Ytikidpcgnmffcaa
open Go.ChangeShapes Go.WideShapes Go.ChangeAt Go.RowKit
set_option linter.unusedVariables false

theorem spectabof_eq (pc : Bool) (a : Option Addr) (len cap : Nat) (ps : List PnR) (w : World) (RR : List TbR) (h : PnRs w a len ps) (hl : len ≤ 1048576) (hR : Hid (tabOfL pc ps = RR)) : Calls Try.prog 6 #[.slice a len cap, .bool pc] w fun e w' => ∃ v, e = .returned v ∧ OwnTb w' w.heap.size v RR ∧ Below w.heap.size w w' := by
  rw [← unhide hR]; exact spectabof_any pc a len cap ps w h hl
theorem impltabof_eq (pc : Bool) (a : Option Addr) (len cap : Nat) (ps : List PnR) (w : World) (RR : List TbR) (h : PnRs w a len ps) (hl : len ≤ 1048576) (hok : ∀ p ∈ ps, p.ok64) (hR : Hid (tabOfL pc ps = RR)) : Calls Try.prog 8 #[.slice a len cap, .bool pc] w fun e w' => ∃ v, e = .returned v ∧ OwnTb w' w.heap.size v RR ∧ Below w.heap.size w w' := by
  rw [← unhide hR]; exact impltabof_any pc a len cap ps w h hl hok

set_option maxRecDepth 20000 in
set_option maxHeartbeats 1000000 in
theorem lawTabOf (a0 : Option Addr) (len0 cap0 : Nat) (z0 : List PnR) (pc : Bool) (w : World) (w0 : PnRs w a0 len0 z0) (ok0 : ∀ x ∈ z0, x.ok64) : Calls Try.prog 3 #[.slice a0 len0 cap0, .bool pc] w fun e' w' => e' = .returned (.bool true) ∧ Below w.heap.size w w' := by
  have hm := w0.2.1
  have HOK := hide ok0
  clear ok0
  by_cases hl : (len0 : Int) ≤ 1048576
  · have hl0 : len0 ≤ 1048576 := by omega
    have lt0 : ∀ g o, 0 < len0 → a0 = some ⟨g, o, none⟩ → g < w.heap.size := fun g o hp ha => by subst ha; exact w0.lt hp
    have H0 := w0
    have hRl : (tabOfL pc z0).length ≤ 1048576 := Nat.le_trans (tabOfL_len pc z0) (by have := w0.1; omega)
    generalize hR : tabOfL pc z0 = RR at hRl
    have HR := hide hR
    clear hR
    go_enter Try.func3, Try.ntmps3
    go_wp2_with fail
    refine (szPn_small a0 len0 cap0 _ hm hl).mono ?_
    rintro e wx ⟨rfl, hw⟩
    obtain rfl := hw.symm
    clear hw
    go_wp2_with fail
    refine (toPn_any _ len0 _ z0 _ H0 hl0).mono ?_
    rintro e w1x ⟨b1, rfl, H1, R1, ge1, hb⟩
    have hb1 : Below w.heap.size w w1x := (by repeat (first | (with_reducible refine bel_set ?_ (by first | (simp; done) | (simp; omega)) _) | (with_reducible refine bel_alloc ?_ _) | (with_reducible exact Below.refl _ _) | (with_reducible assumption) | (with_reducible refine bel_drew ?_) | (with_reducible refine bel_drewN ?_ _) | (with_reducible refine bel_trans ?_ (by with_reducible assumption))))
    clear hb
    have hB1 : Below w.heap.size w w1x := hb1
    have hz1 := hb1.size
    replace H0 := H0.below hb1
    replace ge1 : ∀ g o, 0 < len0 → b1 = some ⟨g, o, none⟩ → w.heap.size ≤ g := fun g o hp e9 => Nat.le_trans (by first | exact Nat.le_refl _ | (simp; done) | (simp; omega)) (ge1 g o hp e9)
    have lt1 : ∀ g o, 0 < len0 → b1 = some ⟨g, o, none⟩ → g < w1x.heap.size := fun g o hp ha => by subst ha; exact H1.lt hp
    go_wp2_with fail
    refine (spectabof_eq pc _ _ _ z0 _ RR H1 hl0 HR).mono ?_
    rintro e w2x ⟨v2, rfl, hO, hb⟩
    have hb2 : Below w1x.heap.size w1x w2x := (by repeat (first | (with_reducible refine bel_set ?_ (by first | (simp; done) | (simp; omega)) _) | (with_reducible refine bel_alloc ?_ _) | (with_reducible exact Below.refl _ _) | (with_reducible assumption) | (with_reducible refine bel_drew ?_) | (with_reducible refine bel_drewN ?_ _) | (with_reducible refine bel_trans ?_ (by with_reducible assumption))))
    clear hb
    have hB2 : Below w.heap.size w w2x := bel_trans hB1 hb2
    have hz2 := hb2.size
    replace H0 := H0.below hb2
    replace H1 := H1.below hb2
    replace R1 := R1.below hb2
    obtain ⟨b2, cp2, rfl, H2, R2, ge2⟩ := holdTb hO hRl
    clear hO
    replace ge2 : ∀ g o, 0 < RR.length → b2 = some ⟨g, o, none⟩ → w1x.heap.size ≤ g := fun g o hp e9 => Nat.le_trans (by first | exact Nat.le_refl _ | (simp; done) | (simp; omega)) (ge2 g o hp e9)
    have lt2 : ∀ g o, 0 < RR.length → b2 = some ⟨g, o, none⟩ → g < w2x.heap.size := fun g o hp ha => by subst ha; exact H2.lt hp
    go_wp2_with fail
    refine (toPn_any _ len0 _ z0 _ H0 hl0).mono ?_
    rintro e w3x ⟨b3, rfl, H3, R3, ge3, hb⟩
    have hb3 : Below w2x.heap.size w2x w3x := (by repeat (first | (with_reducible refine bel_set ?_ (by first | (simp; done) | (simp; omega)) _) | (with_reducible refine bel_alloc ?_ _) | (with_reducible exact Below.refl _ _) | (with_reducible assumption) | (with_reducible refine bel_drew ?_) | (with_reducible refine bel_drewN ?_ _) | (with_reducible refine bel_trans ?_ (by with_reducible assumption))))
    clear hb
    have hB3 : Below w.heap.size w w3x := bel_trans hB2 hb3
    have hz3 := hb3.size
    replace H0 := H0.below hb3
    replace H1 := H1.below hb3
    replace R1 := R1.below hb3
    replace H2 := H2.below hb3
    replace R2 := R2.below hb3
    replace ge3 : ∀ g o, 0 < len0 → b3 = some ⟨g, o, none⟩ → w2x.heap.size ≤ g := fun g o hp e9 => Nat.le_trans (by first | exact Nat.le_refl _ | (simp; done) | (simp; omega)) (ge3 g o hp e9)
    have lt3 : ∀ g o, 0 < len0 → b3 = some ⟨g, o, none⟩ → g < w3x.heap.size := fun g o hp ha => by subst ha; exact H3.lt hp
    go_wp2_with fail
    refine (impltabof_eq pc _ _ _ z0 _ RR H3 hl0 (unhide HOK) HR).mono ?_
    rintro e w4x ⟨v4, rfl, hO, hb⟩
    have hb4 : Below w3x.heap.size w3x w4x := (by repeat (first | (with_reducible refine bel_set ?_ (by first | (simp; done) | (simp; omega)) _) | (with_reducible refine bel_alloc ?_ _) | (with_reducible exact Below.refl _ _) | (with_reducible assumption) | (with_reducible refine bel_drew ?_) | (with_reducible refine bel_drewN ?_ _) | (with_reducible refine bel_trans ?_ (by with_reducible assumption))))
    clear hb
    have hB4 : Below w.heap.size w w4x := bel_trans hB3 hb4
    have hz4 := hb4.size
    replace H0 := H0.below hb4
    replace H1 := H1.below hb4
    replace R1 := R1.below hb4
    replace H2 := H2.below hb4
    replace R2 := R2.below hb4
    replace H3 := H3.below hb4
    replace R3 := R3.below hb4
    obtain ⟨b4, cp4, rfl, H4, R4, ge4⟩ := holdTb hO hRl
    clear hO
    replace ge4 : ∀ g o, 0 < RR.length → b4 = some ⟨g, o, none⟩ → w3x.heap.size ≤ g := fun g o hp e9 => Nat.le_trans (by first | exact Nat.le_refl _ | (simp; done) | (simp; omega)) (ge4 g o hp e9)
    have lt4 : ∀ g o, 0 < RR.length → b4 = some ⟨g, o, none⟩ → g < w4x.heap.size := fun g o hp ha => by subst ha; exact H4.lt hp
    go_wp2_with fail
    refine (eqTb_any _ _ RR.length _ _ RR _ H4 H2).mono ?_
    rintro e w5x ⟨rfl, hb⟩
    have hb5 : Below w4x.heap.size w4x w5x := (by repeat (first | (with_reducible refine bel_set ?_ (by first | (simp; done) | (simp; omega)) _) | (with_reducible refine bel_alloc ?_ _) | (with_reducible exact Below.refl _ _) | (with_reducible assumption) | (with_reducible refine bel_drew ?_) | (with_reducible refine bel_drewN ?_ _) | (with_reducible refine bel_trans ?_ (by with_reducible assumption))))
    clear hb
    have hB5 : Below w.heap.size w w5x := bel_trans hB4 hb5
    have hz5 := hb5.size
    replace H0 := H0.below hb5
    replace H1 := H1.below hb5
    replace R1 := R1.below hb5
    replace H2 := H2.below hb5
    replace R2 := R2.below hb5
    replace H3 := H3.below hb5
    replace R3 := R3.below hb5
    replace H4 := H4.below hb5
    replace R4 := R4.below hb5
    go_wp2_with fail
    refine (toPn_any _ len0 _ z0 _ H0 hl0).mono ?_
    rintro e w6x ⟨b5, rfl, H5, R5, ge5, hb⟩
    have hb6 : Below w5x.heap.size w5x w6x := (by repeat (first | (with_reducible refine bel_set ?_ (by first | (simp; done) | (simp; omega)) _) | (with_reducible refine bel_alloc ?_ _) | (with_reducible exact Below.refl _ _) | (with_reducible assumption) | (with_reducible refine bel_drew ?_) | (with_reducible refine bel_drewN ?_ _) | (with_reducible refine bel_trans ?_ (by with_reducible assumption))))
    clear hb
    have hB6 : Below w.heap.size w w6x := bel_trans hB5 hb6
    have hz6 := hb6.size
    replace H0 := H0.below hb6
    replace H1 := H1.below hb6
    replace R1 := R1.below hb6
    replace H2 := H2.below hb6
    replace R2 := R2.below hb6
    replace H3 := H3.below hb6
    replace R3 := R3.below hb6
    replace H4 := H4.below hb6
    replace R4 := R4.below hb6
    replace ge5 : ∀ g o, 0 < len0 → b5 = some ⟨g, o, none⟩ → w5x.heap.size ≤ g := fun g o hp e9 => Nat.le_trans (by first | exact Nat.le_refl _ | (simp; done) | (simp; omega)) (ge5 g o hp e9)
    have lt5 : ∀ g o, 0 < len0 → b5 = some ⟨g, o, none⟩ → g < w6x.heap.size := fun g o hp ha => by subst ha; exact H5.lt hp
    go_wp2_with fail
    refine (eqPn_any _ _ len0 _ _ z0 _ H3 H5).mono ?_
    rintro e w7x ⟨rfl, hb⟩
    have hb7 : Below w6x.heap.size w6x w7x := (by repeat (first | (with_reducible refine bel_set ?_ (by first | (simp; done) | (simp; omega)) _) | (with_reducible refine bel_alloc ?_ _) | (with_reducible exact Below.refl _ _) | (with_reducible assumption) | (with_reducible refine bel_drew ?_) | (with_reducible refine bel_drewN ?_ _) | (with_reducible refine bel_trans ?_ (by with_reducible assumption))))
    clear hb
    have hB7 : Below w.heap.size w w7x := bel_trans hB6 hb7
    have hz7 := hb7.size
    replace H0 := H0.below hb7
    replace H1 := H1.below hb7
    replace R1 := R1.below hb7
    replace H2 := H2.below hb7
    replace R2 := R2.below hb7
    replace H3 := H3.below hb7
    replace R3 := R3.below hb7
    replace H4 := H4.below hb7
    replace R4 := R4.below hb7
    replace H5 := H5.below hb7
    replace R5 := R5.below hb7
    go_wp2_with fail
    refine (markPn_any _ len0 len0 _ R3 hl0).mono ?_
    rintro e w8x ⟨rfl, M3, hg⟩
    replace H0 := H0.grown hg (fun g o hp ha => rowPn_ne (fun g' o' hp' e9 => by have q1 := lt0 g o hp ha; have q3 := lt3 g' o' hp' e9; have q4 := ge3 g' o' hp' e9; omega) R3.shape)
    replace H1 := H1.grown hg (fun g o hp ha => rowPn_ne (fun g' o' hp' e9 => by have q1 := lt1 g o hp ha; have q2 := ge1 g o hp ha; have q3 := lt3 g' o' hp' e9; have q4 := ge3 g' o' hp' e9; omega) R3.shape)
    replace R1 := R1.grown hg (fun g o hp ha => rowPn_ne (fun g' o' hp' e9 => by have q1 := lt1 g o hp ha; have q2 := ge1 g o hp ha; have q3 := lt3 g' o' hp' e9; have q4 := ge3 g' o' hp' e9; omega) R3.shape)
    replace H2 := H2.grown hg (fun g o hp ha => rowPn_ne (fun g' o' hp' e9 => by have q1 := lt2 g o hp ha; have q2 := ge2 g o hp ha; have q3 := lt3 g' o' hp' e9; have q4 := ge3 g' o' hp' e9; omega) R3.shape)
    replace R2 := R2.grown hg (fun g o hp ha => rowPn_ne (fun g' o' hp' e9 => by have q1 := lt2 g o hp ha; have q2 := ge2 g o hp ha; have q3 := lt3 g' o' hp' e9; have q4 := ge3 g' o' hp' e9; omega) R3.shape)
    replace H4 := H4.grown hg (fun g o hp ha => rowPn_ne (fun g' o' hp' e9 => by have q1 := lt4 g o hp ha; have q2 := ge4 g o hp ha; have q3 := lt3 g' o' hp' e9; have q4 := ge3 g' o' hp' e9; omega) R3.shape)
    replace R4 := R4.grown hg (fun g o hp ha => rowPn_ne (fun g' o' hp' e9 => by have q1 := lt4 g o hp ha; have q2 := ge4 g o hp ha; have q3 := lt3 g' o' hp' e9; have q4 := ge3 g' o' hp' e9; omega) R3.shape)
    replace H5 := H5.grown hg (fun g o hp ha => rowPn_ne (fun g' o' hp' e9 => by have q1 := lt5 g o hp ha; have q2 := ge5 g o hp ha; have q3 := lt3 g' o' hp' e9; have q4 := ge3 g' o' hp' e9; omega) R3.shape)
    replace R5 := R5.grown hg (fun g o hp ha => rowPn_ne (fun g' o' hp' e9 => by have q1 := lt5 g o hp ha; have q2 := ge5 g o hp ha; have q3 := lt3 g' o' hp' e9; have q4 := ge3 g' o' hp' e9; omega) R3.shape)
    have hB8 : Below w.heap.size w w8x := growPn hB7 hg (rowPn_ge (fun g' o' hp' e9 => by have q4 := ge3 g' o' hp' e9; omega) R3.shape)
    have hz8 := hg.size
    clear hg H3 R3
    clear M3
    go_wp2_with fail
    refine (eqTb_any _ _ RR.length _ _ RR _ H4 H2).mono ?_
    rintro e w9x ⟨rfl, hb⟩
    have hb9 : Below w8x.heap.size w8x w9x := (by repeat (first | (with_reducible refine bel_set ?_ (by first | (simp; done) | (simp; omega)) _) | (with_reducible refine bel_alloc ?_ _) | (with_reducible exact Below.refl _ _) | (with_reducible assumption) | (with_reducible refine bel_drew ?_) | (with_reducible refine bel_drewN ?_ _) | (with_reducible refine bel_trans ?_ (by with_reducible assumption))))
    clear hb
    have hB9 : Below w.heap.size w w9x := bel_trans hB8 hb9
    have hz9 := hb9.size
    replace H0 := H0.below hb9
    replace H1 := H1.below hb9
    replace R1 := R1.below hb9
    replace H2 := H2.below hb9
    replace R2 := R2.below hb9
    replace H4 := H4.below hb9
    replace R4 := R4.below hb9
    replace H5 := H5.below hb9
    replace R5 := R5.below hb9
    go_wp2_with fail
    refine (markTb_any _ RR.length cp4 _ R4 hRl).mono ?_
    rintro e w10x ⟨rfl, M4, hg⟩
    replace H0 := H0.grown hg (fun g o hp ha => rowTb_ne (fun g' o' hp' e9 => by have q1 := lt0 g o hp ha; have q3 := lt4 g' o' hp' e9; have q4 := ge4 g' o' hp' e9; omega) R4.shape)
    replace H1 := H1.grown hg (fun g o hp ha => rowTb_ne (fun g' o' hp' e9 => by have q1 := lt1 g o hp ha; have q2 := ge1 g o hp ha; have q3 := lt4 g' o' hp' e9; have q4 := ge4 g' o' hp' e9; omega) R4.shape)
    replace R1 := R1.grown hg (fun g o hp ha => rowTb_ne (fun g' o' hp' e9 => by have q1 := lt1 g o hp ha; have q2 := ge1 g o hp ha; have q3 := lt4 g' o' hp' e9; have q4 := ge4 g' o' hp' e9; omega) R4.shape)
    replace H2 := H2.grown hg (fun g o hp ha => rowTb_ne (fun g' o' hp' e9 => by have q1 := lt2 g o hp ha; have q2 := ge2 g o hp ha; have q3 := lt4 g' o' hp' e9; have q4 := ge4 g' o' hp' e9; omega) R4.shape)
    replace R2 := R2.grown hg (fun g o hp ha => rowTb_ne (fun g' o' hp' e9 => by have q1 := lt2 g o hp ha; have q2 := ge2 g o hp ha; have q3 := lt4 g' o' hp' e9; have q4 := ge4 g' o' hp' e9; omega) R4.shape)
    replace H5 := H5.grown hg (fun g o hp ha => rowTb_ne (fun g' o' hp' e9 => by have q1 := lt5 g o hp ha; have q2 := ge5 g o hp ha; have q3 := lt4 g' o' hp' e9; have q4 := ge4 g' o' hp' e9; omega) R4.shape)
    replace R5 := R5.grown hg (fun g o hp ha => rowTb_ne (fun g' o' hp' e9 => by have q1 := lt5 g o hp ha; have q2 := ge5 g o hp ha; have q3 := lt4 g' o' hp' e9; have q4 := ge4 g' o' hp' e9; omega) R4.shape)
    have hB10 : Below w.heap.size w w10x := growTb hB9 hg (rowTb_ge (fun g' o' hp' e9 => by have q4 := ge4 g' o' hp' e9; omega) R4.shape)
    have hz10 := hg.size
    clear hg H4 R4
    go_wp2_with fail
    refine (heldTb_any _ RR.length cp4 _ M4 hRl).mono ?_
    rintro e wx ⟨rfl, hw⟩
    obtain rfl := hw.symm
    clear hw
    go_wp2_with fail
    refine (toPn_any _ len0 _ z0 _ H0 hl0).mono ?_
    rintro e w11x ⟨b6, rfl, H6, R6, ge6, hb⟩
    have hb11 : Below w10x.heap.size w10x w11x := (by repeat (first | (with_reducible refine bel_set ?_ (by first | (simp; done) | (simp; omega)) _) | (with_reducible refine bel_alloc ?_ _) | (with_reducible exact Below.refl _ _) | (with_reducible assumption) | (with_reducible refine bel_drew ?_) | (with_reducible refine bel_drewN ?_ _) | (with_reducible refine bel_trans ?_ (by with_reducible assumption))))
    clear hb
    have hB11 : Below w.heap.size w w11x := bel_trans hB10 hb11
    have hz11 := hb11.size
    replace H0 := H0.below hb11
    replace H1 := H1.below hb11
    replace R1 := R1.below hb11
    replace H2 := H2.below hb11
    replace R2 := R2.below hb11
    replace M4 := M4.below hb11
    replace H5 := H5.below hb11
    replace R5 := R5.below hb11
    replace ge6 : ∀ g o, 0 < len0 → b6 = some ⟨g, o, none⟩ → w10x.heap.size ≤ g := fun g o hp e9 => Nat.le_trans (by first | exact Nat.le_refl _ | (simp; done) | (simp; omega)) (ge6 g o hp e9)
    have lt6 : ∀ g o, 0 < len0 → b6 = some ⟨g, o, none⟩ → g < w11x.heap.size := fun g o hp ha => by subst ha; exact H6.lt hp
    go_wp2_with fail
    refine (impltabof_eq pc _ _ _ z0 _ RR H6 hl0 (unhide HOK) HR).mono ?_
    rintro e w12x ⟨v7, rfl, hO, hb⟩
    have hb12 : Below w11x.heap.size w11x w12x := (by repeat (first | (with_reducible refine bel_set ?_ (by first | (simp; done) | (simp; omega)) _) | (with_reducible refine bel_alloc ?_ _) | (with_reducible exact Below.refl _ _) | (with_reducible assumption) | (with_reducible refine bel_drew ?_) | (with_reducible refine bel_drewN ?_ _) | (with_reducible refine bel_trans ?_ (by with_reducible assumption))))
    clear hb
    have hB12 : Below w.heap.size w w12x := bel_trans hB11 hb12
    have hz12 := hb12.size
    replace H0 := H0.below hb12
    replace H1 := H1.below hb12
    replace R1 := R1.below hb12
    replace H2 := H2.below hb12
    replace R2 := R2.below hb12
    replace M4 := M4.below hb12
    replace H5 := H5.below hb12
    replace R5 := R5.below hb12
    replace H6 := H6.below hb12
    replace R6 := R6.below hb12
    obtain ⟨b7, cp7, rfl, H7, R7, ge7⟩ := holdTb hO hRl
    clear hO
    replace ge7 : ∀ g o, 0 < RR.length → b7 = some ⟨g, o, none⟩ → w11x.heap.size ≤ g := fun g o hp e9 => Nat.le_trans (by first | exact Nat.le_refl _ | (simp; done) | (simp; omega)) (ge7 g o hp e9)
    have lt7 : ∀ g o, 0 < RR.length → b7 = some ⟨g, o, none⟩ → g < w12x.heap.size := fun g o hp ha => by subst ha; exact H7.lt hp
    go_wp2_with fail
    refine (eqTb_any _ _ RR.length _ _ RR _ H7 H2).mono ?_
    rintro e w13x ⟨rfl, hb⟩
    have hb13 : Below w12x.heap.size w12x w13x := (by repeat (first | (with_reducible refine bel_set ?_ (by first | (simp; done) | (simp; omega)) _) | (with_reducible refine bel_alloc ?_ _) | (with_reducible exact Below.refl _ _) | (with_reducible assumption) | (with_reducible refine bel_drew ?_) | (with_reducible refine bel_drewN ?_ _) | (with_reducible refine bel_trans ?_ (by with_reducible assumption))))
    clear hb
    have hB13 : Below w.heap.size w w13x := bel_trans hB12 hb13
    have hz13 := hb13.size
    replace H0 := H0.below hb13
    replace H1 := H1.below hb13
    replace R1 := R1.below hb13
    replace H2 := H2.below hb13
    replace R2 := R2.below hb13
    replace M4 := M4.below hb13
    replace H5 := H5.below hb13
    replace R5 := R5.below hb13
    replace H6 := H6.below hb13
    replace R6 := R6.below hb13
    replace H7 := H7.below hb13
    replace R7 := R7.below hb13
    go_wp2_with fail
    refine (heldTb_any _ RR.length cp4 _ M4 hRl).mono ?_
    rintro e wx ⟨rfl, hw⟩
    obtain rfl := hw.symm
    clear hw
    go_wp2_with fail
    go_ret
    exact ⟨rfl, hB13⟩
  · go_enter Try.func3, Try.ntmps3
    go_wp2_with fail
    refine (szPn_big a0 len0 cap0 _ hm (by omega)).mono ?_
    rintro e wx ⟨rfl, hw⟩
    obtain rfl := hw.symm
    go_wp2_with fail
    go_ret
    exact ⟨rfl, Below.refl _ _⟩

end Go.Proofs.Ytikidpcgnmffcaa
