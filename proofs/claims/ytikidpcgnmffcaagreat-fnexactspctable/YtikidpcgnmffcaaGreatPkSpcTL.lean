/- Laid together: what the claim needs of the texts that were built one by one. -/
import Derived.Test.YtikidpcgnmffcaaGreatPkSpcTI
import Derived.Test.YtikidpcgnmffcaaGreatPkBase
namespace Go.Proofs.YtikidpcgnmffcaaGreat
open Go.ChangeShapes Go.WideShapes Go.ChangeAt Go.RowKit
set_option linter.unusedVariables false

theorem spectable_eq (s t k z p l e : Int) (b : Bool) (v r : Int) (a : Option Addr) (len cap : Nat) (xs : List IwR) (w : World) (RR : List TbR) (h : IwRs w a len xs) (hR : Hid (tabP k (pairsT s t k z p l e v r xs) = RR)) : Calls Tryz.prog 5 #[.agg #[.int .i64 s, .int .i64 t, .int .i64 k, .int .i64 z, .int .i64 p, .int .i64 l, .int .i64 e, .bool b, .int .i64 v, .int .i64 r], .slice a len cap] w fun e' w' => ∃ v', e' = .returned v' ∧ OwnTb w' w.heap.size v' RR ∧ Below w.heap.size w w' := by
  rw [← unhide hR]; exact spectable_any s t k z p l e b v r a len cap xs w h

theorem impltable_eq (s t k z p l e : Int) (b : Bool) (v r : Int) (a : Option Addr) (len cap : Nat) (xs : List IwR) (w : World) (RR : List TbR) (h : IwRs w a len xs) (hR : Hid (tabP k (pairsT s t k z p l e v r xs) = RR)) : Calls Tryz.prog 8 #[.agg #[.int .i64 s, .int .i64 t, .int .i64 k, .int .i64 z, .int .i64 p, .int .i64 l, .int .i64 e, .bool b, .int .i64 v, .int .i64 r], .slice a len cap] w fun e' w' => ∃ v', e' = .returned v' ∧ OwnTb w' w.heap.size v' RR ∧ Below w.heap.size w w' := by
  rw [← unhide hR]; exact impltable_any s t k z p l e b v r a len cap xs w h

set_option maxRecDepth 20000 in
set_option maxHeartbeats 2000000 in
theorem lawSpcTable (s t k z p l e : Int) (b : Bool) (v r : Int) (a1 : Option Addr) (len1 cap1 : Nat) (z1 : List IwR) (w : World) (w1 : IwRs w a1 len1 z1) : Calls Tryz.prog 3 #[.agg #[.int .i64 s, .int .i64 t, .int .i64 k, .int .i64 z, .int .i64 p, .int .i64 l, .int .i64 e, .bool b, .int .i64 v, .int .i64 r], .slice a1 len1 cap1] w fun e' w' => e' = .returned (.bool true) ∧ Below w.heap.size w w' := by
  have hm := w1.2.1
  by_cases hl : (len1 : Int) ≤ 1048576
  · have hl1 : len1 ≤ 1048576 := by omega
    have lt0 : ∀ g o, 0 < len1 → a1 = some ⟨g, o, none⟩ → g < w.heap.size := fun g o hp ha => by subst ha; exact w1.lt hp
    have H0 := w1
    have hRl : (tabP k (pairsT s t k z p l e v r z1)).length ≤ 1048576 := Nat.le_trans (tabP_len _ _) (Nat.le_trans (pairsT_le _ _ _ _ _ _ _ _ _ _) (by omega))
    generalize hR : tabP k (pairsT s t k z p l e v r z1) = RR at hRl
    have HR := hide hR
    clear hR
    go_enter Tryz.func3, Tryz.ntmps3
    go_wp2_with fail
    have hb0 : Below w.heap.size w (w.alloc (.cells #[.int .i64 s, .int .i64 t, .int .i64 k, .int .i64 z, .int .i64 p, .int .i64 l, .int .i64 e, .bool b, .int .i64 v, .int .i64 r] 23)) := (belB)
    have hz0 := hb0.size
    have hB0 : Below (w.alloc (.cells #[.int .i64 s, .int .i64 t, .int .i64 k, .int .i64 z, .int .i64 p, .int .i64 l, .int .i64 e, .bool b, .int .i64 v, .int .i64 r] 23)).heap.size (w.alloc (.cells #[.int .i64 s, .int .i64 t, .int .i64 k, .int .i64 z, .int .i64 p, .int .i64 l, .int .i64 e, .bool b, .int .i64 v, .int .i64 r] 23)) (w.alloc (.cells #[.int .i64 s, .int .i64 t, .int .i64 k, .int .i64 z, .int .i64 p, .int .i64 l, .int .i64 e, .bool b, .int .i64 v, .int .i64 r] 23)) := Below.refl _ _
    replace H0 := H0.below hb0
    refine (szIw_small a1 len1 cap1 _ hm hl).mono ?_
    rintro e' wx ⟨rfl, hw⟩
    obtain rfl := hw.symm
    clear hw
    go_wp2_with fail
    refine (toJob_any _ _ _ _ _ _ _ _ _ _ _).mono ?_
    rintro e w1x ⟨rfl, hb⟩
    have hb1 : Below (w.alloc (.cells #[.int .i64 s, .int .i64 t, .int .i64 k, .int .i64 z, .int .i64 p, .int .i64 l, .int .i64 e, .bool b, .int .i64 v, .int .i64 r] 23)).heap.size (w.alloc (.cells #[.int .i64 s, .int .i64 t, .int .i64 k, .int .i64 z, .int .i64 p, .int .i64 l, .int .i64 e, .bool b, .int .i64 v, .int .i64 r] 23)) w1x := (belB)
    clear hb
    have hB1 : Below (w.alloc (.cells #[.int .i64 s, .int .i64 t, .int .i64 k, .int .i64 z, .int .i64 p, .int .i64 l, .int .i64 e, .bool b, .int .i64 v, .int .i64 r] 23)).heap.size (w.alloc (.cells #[.int .i64 s, .int .i64 t, .int .i64 k, .int .i64 z, .int .i64 p, .int .i64 l, .int .i64 e, .bool b, .int .i64 v, .int .i64 r] 23)) w1x := hb1
    have hz1 := hb1.size
    replace H0 := H0.below hb1
    go_wp2_with fail
    refine (toIw_any _ len1 _ z1 _ H0 hl1).mono ?_
    rintro e w2x ⟨b1, rfl, H1, R1, ge1, hb⟩
    have hb2 : Below w1x.heap.size w1x w2x := (belB)
    clear hb
    have hB2 : Below (w.alloc (.cells #[.int .i64 s, .int .i64 t, .int .i64 k, .int .i64 z, .int .i64 p, .int .i64 l, .int .i64 e, .bool b, .int .i64 v, .int .i64 r] 23)).heap.size (w.alloc (.cells #[.int .i64 s, .int .i64 t, .int .i64 k, .int .i64 z, .int .i64 p, .int .i64 l, .int .i64 e, .bool b, .int .i64 v, .int .i64 r] 23)) w2x := bel_trans hB1 hb2
    have hz2 := hb2.size
    replace H0 := H0.below hb2
    replace ge1 : ∀ g o, 0 < len1 → b1 = some ⟨g, o, none⟩ → w1x.heap.size ≤ g := fun g o hp e9 => Nat.le_trans (by first | exact Nat.le_refl _ | (simp; done) | (simp; omega)) (ge1 g o hp e9)
    have lt1 : ∀ g o, 0 < len1 → b1 = some ⟨g, o, none⟩ → g < w2x.heap.size := fun g o hp ha => by subst ha; exact H1.lt hp
    go_wp2_with fail
    refine (spectable_eq s t k z p l e b v r _ _ _ z1 _ RR H1 HR).mono ?_
    rintro e w3x ⟨v2, rfl, hO, hb⟩
    have hb3 : Below w2x.heap.size w2x w3x := (belB)
    clear hb
    have hB3 : Below (w.alloc (.cells #[.int .i64 s, .int .i64 t, .int .i64 k, .int .i64 z, .int .i64 p, .int .i64 l, .int .i64 e, .bool b, .int .i64 v, .int .i64 r] 23)).heap.size (w.alloc (.cells #[.int .i64 s, .int .i64 t, .int .i64 k, .int .i64 z, .int .i64 p, .int .i64 l, .int .i64 e, .bool b, .int .i64 v, .int .i64 r] 23)) w3x := bel_trans hB2 hb3
    have hz3 := hb3.size
    replace H0 := H0.below hb3
    replace H1 := H1.below hb3
    replace R1 := R1.below hb3
    obtain ⟨b2, cp2, rfl, H2, R2, ge2⟩ := holdTb hO hRl
    clear hO
    replace ge2 : ∀ g o, 0 < RR.length → b2 = some ⟨g, o, none⟩ → w2x.heap.size ≤ g := fun g o hp e9 => Nat.le_trans (by first | exact Nat.le_refl _ | (simp; done) | (simp; omega)) (ge2 g o hp e9)
    have lt2 : ∀ g o, 0 < RR.length → b2 = some ⟨g, o, none⟩ → g < w3x.heap.size := fun g o hp ha => by subst ha; exact H2.lt hp
    go_wp2_with fail
    refine (toIw_any _ len1 _ z1 _ H0 hl1).mono ?_
    rintro e w4x ⟨b3, rfl, H3, R3, ge3, hb⟩
    have hb4 : Below w3x.heap.size w3x w4x := (belB)
    clear hb
    have hB4 : Below (w.alloc (.cells #[.int .i64 s, .int .i64 t, .int .i64 k, .int .i64 z, .int .i64 p, .int .i64 l, .int .i64 e, .bool b, .int .i64 v, .int .i64 r] 23)).heap.size (w.alloc (.cells #[.int .i64 s, .int .i64 t, .int .i64 k, .int .i64 z, .int .i64 p, .int .i64 l, .int .i64 e, .bool b, .int .i64 v, .int .i64 r] 23)) w4x := bel_trans hB3 hb4
    have hz4 := hb4.size
    replace H0 := H0.below hb4
    replace H1 := H1.below hb4
    replace R1 := R1.below hb4
    replace H2 := H2.below hb4
    replace R2 := R2.below hb4
    replace ge3 : ∀ g o, 0 < len1 → b3 = some ⟨g, o, none⟩ → w3x.heap.size ≤ g := fun g o hp e9 => Nat.le_trans (by first | exact Nat.le_refl _ | (simp; done) | (simp; omega)) (ge3 g o hp e9)
    have lt3 : ∀ g o, 0 < len1 → b3 = some ⟨g, o, none⟩ → g < w4x.heap.size := fun g o hp ha => by subst ha; exact H3.lt hp
    have c0_0 : w4x.cell? ⟨w.heap.size, 0, none⟩ = some (.int .i64 s) := (hB4.cell (p := ⟨w.heap.size, 0, none⟩) (by simp)).trans (by simp [go_sem])
    have c0_1 : w4x.cell? ⟨w.heap.size, 1, none⟩ = some (.int .i64 t) := (hB4.cell (p := ⟨w.heap.size, 1, none⟩) (by simp)).trans (by simp [go_sem])
    have c0_2 : w4x.cell? ⟨w.heap.size, 2, none⟩ = some (.int .i64 k) := (hB4.cell (p := ⟨w.heap.size, 2, none⟩) (by simp)).trans (by simp [go_sem])
    have c0_3 : w4x.cell? ⟨w.heap.size, 3, none⟩ = some (.int .i64 z) := (hB4.cell (p := ⟨w.heap.size, 3, none⟩) (by simp)).trans (by simp [go_sem])
    have c0_4 : w4x.cell? ⟨w.heap.size, 4, none⟩ = some (.int .i64 p) := (hB4.cell (p := ⟨w.heap.size, 4, none⟩) (by simp)).trans (by simp [go_sem])
    have c0_5 : w4x.cell? ⟨w.heap.size, 5, none⟩ = some (.int .i64 l) := (hB4.cell (p := ⟨w.heap.size, 5, none⟩) (by simp)).trans (by simp [go_sem])
    have c0_6 : w4x.cell? ⟨w.heap.size, 6, none⟩ = some (.int .i64 e) := (hB4.cell (p := ⟨w.heap.size, 6, none⟩) (by simp)).trans (by simp [go_sem])
    have c0_7 : w4x.cell? ⟨w.heap.size, 7, none⟩ = some (.bool b) := (hB4.cell (p := ⟨w.heap.size, 7, none⟩) (by simp)).trans (by simp [go_sem])
    have c0_8 : w4x.cell? ⟨w.heap.size, 8, none⟩ = some (.int .i64 v) := (hB4.cell (p := ⟨w.heap.size, 8, none⟩) (by simp)).trans (by simp [go_sem])
    have c0_9 : w4x.cell? ⟨w.heap.size, 9, none⟩ = some (.int .i64 r) := (hB4.cell (p := ⟨w.heap.size, 9, none⟩) (by simp)).trans (by simp [go_sem])
    go_wp2_with fail
    clear c0_0 c0_1 c0_2 c0_3 c0_4 c0_5 c0_6 c0_7 c0_8 c0_9
    refine (toJob_any _ _ _ _ _ _ _ _ _ _ _).mono ?_
    rintro e w5x ⟨rfl, hb⟩
    have hb5 : Below w4x.heap.size w4x w5x := (belB)
    clear hb
    have hB5 : Below (w.alloc (.cells #[.int .i64 s, .int .i64 t, .int .i64 k, .int .i64 z, .int .i64 p, .int .i64 l, .int .i64 e, .bool b, .int .i64 v, .int .i64 r] 23)).heap.size (w.alloc (.cells #[.int .i64 s, .int .i64 t, .int .i64 k, .int .i64 z, .int .i64 p, .int .i64 l, .int .i64 e, .bool b, .int .i64 v, .int .i64 r] 23)) w5x := bel_trans hB4 hb5
    have hz5 := hb5.size
    replace H0 := H0.below hb5
    replace H1 := H1.below hb5
    replace R1 := R1.below hb5
    replace H2 := H2.below hb5
    replace R2 := R2.below hb5
    replace H3 := H3.below hb5
    replace R3 := R3.below hb5
    go_wp2_with fail
    refine (impltable_eq s t k z p l e b v r _ _ _ z1 _ RR H3 HR).mono ?_
    rintro e w6x ⟨v4, rfl, hO, hb⟩
    have hb6 : Below w5x.heap.size w5x w6x := (belB)
    clear hb
    have hB6 : Below (w.alloc (.cells #[.int .i64 s, .int .i64 t, .int .i64 k, .int .i64 z, .int .i64 p, .int .i64 l, .int .i64 e, .bool b, .int .i64 v, .int .i64 r] 23)).heap.size (w.alloc (.cells #[.int .i64 s, .int .i64 t, .int .i64 k, .int .i64 z, .int .i64 p, .int .i64 l, .int .i64 e, .bool b, .int .i64 v, .int .i64 r] 23)) w6x := bel_trans hB5 hb6
    have hz6 := hb6.size
    replace H0 := H0.below hb6
    replace H1 := H1.below hb6
    replace R1 := R1.below hb6
    replace H2 := H2.below hb6
    replace R2 := R2.below hb6
    replace H3 := H3.below hb6
    replace R3 := R3.below hb6
    obtain ⟨b4, cp4, rfl, H4, R4, ge4⟩ := holdTb hO hRl
    clear hO
    replace ge4 : ∀ g o, 0 < RR.length → b4 = some ⟨g, o, none⟩ → w5x.heap.size ≤ g := fun g o hp e9 => Nat.le_trans (by first | exact Nat.le_refl _ | (simp; done) | (simp; omega)) (ge4 g o hp e9)
    have lt4 : ∀ g o, 0 < RR.length → b4 = some ⟨g, o, none⟩ → g < w6x.heap.size := fun g o hp ha => by subst ha; exact H4.lt hp
    go_wp2_with fail
    refine (eqTb_any _ _ RR.length _ _ RR _ H4 H2).mono ?_
    rintro e w7x ⟨rfl, hb⟩
    have hb7 : Below w6x.heap.size w6x w7x := (belB)
    clear hb
    have hB7 : Below (w.alloc (.cells #[.int .i64 s, .int .i64 t, .int .i64 k, .int .i64 z, .int .i64 p, .int .i64 l, .int .i64 e, .bool b, .int .i64 v, .int .i64 r] 23)).heap.size (w.alloc (.cells #[.int .i64 s, .int .i64 t, .int .i64 k, .int .i64 z, .int .i64 p, .int .i64 l, .int .i64 e, .bool b, .int .i64 v, .int .i64 r] 23)) w7x := bel_trans hB6 hb7
    have hz7 := hb7.size
    replace H0 := H0.below hb7
    replace H1 := H1.below hb7
    replace R1 := R1.below hb7
    replace H2 := H2.below hb7
    replace R2 := R2.below hb7
    replace H3 := H3.below hb7
    replace R3 := R3.below hb7
    replace H4 := H4.below hb7
    replace R4 := R4.below hb7
    go_wp2_with fail
    refine (toIw_any _ len1 _ z1 _ H0 hl1).mono ?_
    rintro e w8x ⟨b5, rfl, H5, R5, ge5, hb⟩
    have hb8 : Below w7x.heap.size w7x w8x := (belB)
    clear hb
    have hB8 : Below (w.alloc (.cells #[.int .i64 s, .int .i64 t, .int .i64 k, .int .i64 z, .int .i64 p, .int .i64 l, .int .i64 e, .bool b, .int .i64 v, .int .i64 r] 23)).heap.size (w.alloc (.cells #[.int .i64 s, .int .i64 t, .int .i64 k, .int .i64 z, .int .i64 p, .int .i64 l, .int .i64 e, .bool b, .int .i64 v, .int .i64 r] 23)) w8x := bel_trans hB7 hb8
    have hz8 := hb8.size
    replace H0 := H0.below hb8
    replace H1 := H1.below hb8
    replace R1 := R1.below hb8
    replace H2 := H2.below hb8
    replace R2 := R2.below hb8
    replace H3 := H3.below hb8
    replace R3 := R3.below hb8
    replace H4 := H4.below hb8
    replace R4 := R4.below hb8
    replace ge5 : ∀ g o, 0 < len1 → b5 = some ⟨g, o, none⟩ → w7x.heap.size ≤ g := fun g o hp e9 => Nat.le_trans (by first | exact Nat.le_refl _ | (simp; done) | (simp; omega)) (ge5 g o hp e9)
    have lt5 : ∀ g o, 0 < len1 → b5 = some ⟨g, o, none⟩ → g < w8x.heap.size := fun g o hp ha => by subst ha; exact H5.lt hp
    go_wp2_with fail
    refine (eqIw_any _ _ len1 _ _ z1 _ H3 H5).mono ?_
    rintro e w9x ⟨rfl, hb⟩
    have hb9 : Below w8x.heap.size w8x w9x := (belB)
    clear hb
    have hB9 : Below (w.alloc (.cells #[.int .i64 s, .int .i64 t, .int .i64 k, .int .i64 z, .int .i64 p, .int .i64 l, .int .i64 e, .bool b, .int .i64 v, .int .i64 r] 23)).heap.size (w.alloc (.cells #[.int .i64 s, .int .i64 t, .int .i64 k, .int .i64 z, .int .i64 p, .int .i64 l, .int .i64 e, .bool b, .int .i64 v, .int .i64 r] 23)) w9x := bel_trans hB8 hb9
    have hz9 := hb9.size
    replace H0 := H0.below hb9
    replace H1 := H1.below hb9
    replace R1 := R1.below hb9
    replace H2 := H2.below hb9
    replace R2 := R2.below hb9
    replace H3 := H3.below hb9
    replace R3 := R3.below hb9
    replace H4 := H4.below hb9
    replace R4 := R4.below hb9
    replace H5 := H5.below hb9
    replace R5 := R5.below hb9
    go_wp2_with fail
    refine (markIw_any _ len1 len1 _ R3 hl1).mono ?_
    rintro e w10x ⟨rfl, M3, hg⟩
    replace H0 := H0.grown hg (fun g o hp ha => rowIw_ne (fun g' o' hp' e9 => by have q1 := lt0 g o hp ha; have q3 := lt3 g' o' hp' e9; have q4 := ge3 g' o' hp' e9; omega) R3.shape)
    replace H1 := H1.grown hg (fun g o hp ha => rowIw_ne (fun g' o' hp' e9 => by have q1 := lt1 g o hp ha; have q2 := ge1 g o hp ha; have q3 := lt3 g' o' hp' e9; have q4 := ge3 g' o' hp' e9; omega) R3.shape)
    replace R1 := R1.grown hg (fun g o hp ha => rowIw_ne (fun g' o' hp' e9 => by have q1 := lt1 g o hp ha; have q2 := ge1 g o hp ha; have q3 := lt3 g' o' hp' e9; have q4 := ge3 g' o' hp' e9; omega) R3.shape)
    replace H2 := H2.grown hg (fun g o hp ha => rowIw_ne (fun g' o' hp' e9 => by have q1 := lt2 g o hp ha; have q2 := ge2 g o hp ha; have q3 := lt3 g' o' hp' e9; have q4 := ge3 g' o' hp' e9; omega) R3.shape)
    replace R2 := R2.grown hg (fun g o hp ha => rowIw_ne (fun g' o' hp' e9 => by have q1 := lt2 g o hp ha; have q2 := ge2 g o hp ha; have q3 := lt3 g' o' hp' e9; have q4 := ge3 g' o' hp' e9; omega) R3.shape)
    replace H4 := H4.grown hg (fun g o hp ha => rowIw_ne (fun g' o' hp' e9 => by have q1 := lt4 g o hp ha; have q2 := ge4 g o hp ha; have q3 := lt3 g' o' hp' e9; have q4 := ge3 g' o' hp' e9; omega) R3.shape)
    replace R4 := R4.grown hg (fun g o hp ha => rowIw_ne (fun g' o' hp' e9 => by have q1 := lt4 g o hp ha; have q2 := ge4 g o hp ha; have q3 := lt3 g' o' hp' e9; have q4 := ge3 g' o' hp' e9; omega) R3.shape)
    replace H5 := H5.grown hg (fun g o hp ha => rowIw_ne (fun g' o' hp' e9 => by have q1 := lt5 g o hp ha; have q2 := ge5 g o hp ha; have q3 := lt3 g' o' hp' e9; have q4 := ge3 g' o' hp' e9; omega) R3.shape)
    replace R5 := R5.grown hg (fun g o hp ha => rowIw_ne (fun g' o' hp' e9 => by have q1 := lt5 g o hp ha; have q2 := ge5 g o hp ha; have q3 := lt3 g' o' hp' e9; have q4 := ge3 g' o' hp' e9; omega) R3.shape)
    have hB10 : Below (w.alloc (.cells #[.int .i64 s, .int .i64 t, .int .i64 k, .int .i64 z, .int .i64 p, .int .i64 l, .int .i64 e, .bool b, .int .i64 v, .int .i64 r] 23)).heap.size (w.alloc (.cells #[.int .i64 s, .int .i64 t, .int .i64 k, .int .i64 z, .int .i64 p, .int .i64 l, .int .i64 e, .bool b, .int .i64 v, .int .i64 r] 23)) w10x := growIw hB9 hg (rowIw_ge (fun g' o' hp' e9 => by have q4 := ge3 g' o' hp' e9; omega) R3.shape)
    have hz10 := hg.size
    clear hg H3 R3
    clear M3
    go_wp2_with fail
    refine (eqTb_any _ _ RR.length _ _ RR _ H4 H2).mono ?_
    rintro e w11x ⟨rfl, hb⟩
    have hb11 : Below w10x.heap.size w10x w11x := (belB)
    clear hb
    have hB11 : Below (w.alloc (.cells #[.int .i64 s, .int .i64 t, .int .i64 k, .int .i64 z, .int .i64 p, .int .i64 l, .int .i64 e, .bool b, .int .i64 v, .int .i64 r] 23)).heap.size (w.alloc (.cells #[.int .i64 s, .int .i64 t, .int .i64 k, .int .i64 z, .int .i64 p, .int .i64 l, .int .i64 e, .bool b, .int .i64 v, .int .i64 r] 23)) w11x := bel_trans hB10 hb11
    have hz11 := hb11.size
    replace H0 := H0.below hb11
    replace H1 := H1.below hb11
    replace R1 := R1.below hb11
    replace H2 := H2.below hb11
    replace R2 := R2.below hb11
    replace H4 := H4.below hb11
    replace R4 := R4.below hb11
    replace H5 := H5.below hb11
    replace R5 := R5.below hb11
    go_wp2_with fail
    refine (markTb_any _ RR.length cp4 _ R4 hRl).mono ?_
    rintro e w12x ⟨rfl, M4, hg⟩
    replace H0 := H0.grown hg (fun g o hp ha => rowTb_ne (fun g' o' hp' e9 => by have q1 := lt0 g o hp ha; have q3 := lt4 g' o' hp' e9; have q4 := ge4 g' o' hp' e9; omega) R4.shape)
    replace H1 := H1.grown hg (fun g o hp ha => rowTb_ne (fun g' o' hp' e9 => by have q1 := lt1 g o hp ha; have q2 := ge1 g o hp ha; have q3 := lt4 g' o' hp' e9; have q4 := ge4 g' o' hp' e9; omega) R4.shape)
    replace R1 := R1.grown hg (fun g o hp ha => rowTb_ne (fun g' o' hp' e9 => by have q1 := lt1 g o hp ha; have q2 := ge1 g o hp ha; have q3 := lt4 g' o' hp' e9; have q4 := ge4 g' o' hp' e9; omega) R4.shape)
    replace H2 := H2.grown hg (fun g o hp ha => rowTb_ne (fun g' o' hp' e9 => by have q1 := lt2 g o hp ha; have q2 := ge2 g o hp ha; have q3 := lt4 g' o' hp' e9; have q4 := ge4 g' o' hp' e9; omega) R4.shape)
    replace R2 := R2.grown hg (fun g o hp ha => rowTb_ne (fun g' o' hp' e9 => by have q1 := lt2 g o hp ha; have q2 := ge2 g o hp ha; have q3 := lt4 g' o' hp' e9; have q4 := ge4 g' o' hp' e9; omega) R4.shape)
    replace H5 := H5.grown hg (fun g o hp ha => rowTb_ne (fun g' o' hp' e9 => by have q1 := lt5 g o hp ha; have q2 := ge5 g o hp ha; have q3 := lt4 g' o' hp' e9; have q4 := ge4 g' o' hp' e9; omega) R4.shape)
    replace R5 := R5.grown hg (fun g o hp ha => rowTb_ne (fun g' o' hp' e9 => by have q1 := lt5 g o hp ha; have q2 := ge5 g o hp ha; have q3 := lt4 g' o' hp' e9; have q4 := ge4 g' o' hp' e9; omega) R4.shape)
    have hB12 : Below (w.alloc (.cells #[.int .i64 s, .int .i64 t, .int .i64 k, .int .i64 z, .int .i64 p, .int .i64 l, .int .i64 e, .bool b, .int .i64 v, .int .i64 r] 23)).heap.size (w.alloc (.cells #[.int .i64 s, .int .i64 t, .int .i64 k, .int .i64 z, .int .i64 p, .int .i64 l, .int .i64 e, .bool b, .int .i64 v, .int .i64 r] 23)) w12x := growTb hB11 hg (rowTb_ge (fun g' o' hp' e9 => by have q4 := ge4 g' o' hp' e9; omega) R4.shape)
    have hz12 := hg.size
    clear hg H4 R4
    go_wp2_with fail
    refine (heldTb_any _ RR.length cp4 _ M4 hRl).mono ?_
    rintro e wx ⟨rfl, hw⟩
    obtain rfl := hw.symm
    clear hw
    have c0_0 : w12x.cell? ⟨w.heap.size, 0, none⟩ = some (.int .i64 s) := (hB12.cell (p := ⟨w.heap.size, 0, none⟩) (by simp)).trans (by simp [go_sem])
    have c0_1 : w12x.cell? ⟨w.heap.size, 1, none⟩ = some (.int .i64 t) := (hB12.cell (p := ⟨w.heap.size, 1, none⟩) (by simp)).trans (by simp [go_sem])
    have c0_2 : w12x.cell? ⟨w.heap.size, 2, none⟩ = some (.int .i64 k) := (hB12.cell (p := ⟨w.heap.size, 2, none⟩) (by simp)).trans (by simp [go_sem])
    have c0_3 : w12x.cell? ⟨w.heap.size, 3, none⟩ = some (.int .i64 z) := (hB12.cell (p := ⟨w.heap.size, 3, none⟩) (by simp)).trans (by simp [go_sem])
    have c0_4 : w12x.cell? ⟨w.heap.size, 4, none⟩ = some (.int .i64 p) := (hB12.cell (p := ⟨w.heap.size, 4, none⟩) (by simp)).trans (by simp [go_sem])
    have c0_5 : w12x.cell? ⟨w.heap.size, 5, none⟩ = some (.int .i64 l) := (hB12.cell (p := ⟨w.heap.size, 5, none⟩) (by simp)).trans (by simp [go_sem])
    have c0_6 : w12x.cell? ⟨w.heap.size, 6, none⟩ = some (.int .i64 e) := (hB12.cell (p := ⟨w.heap.size, 6, none⟩) (by simp)).trans (by simp [go_sem])
    have c0_7 : w12x.cell? ⟨w.heap.size, 7, none⟩ = some (.bool b) := (hB12.cell (p := ⟨w.heap.size, 7, none⟩) (by simp)).trans (by simp [go_sem])
    have c0_8 : w12x.cell? ⟨w.heap.size, 8, none⟩ = some (.int .i64 v) := (hB12.cell (p := ⟨w.heap.size, 8, none⟩) (by simp)).trans (by simp [go_sem])
    have c0_9 : w12x.cell? ⟨w.heap.size, 9, none⟩ = some (.int .i64 r) := (hB12.cell (p := ⟨w.heap.size, 9, none⟩) (by simp)).trans (by simp [go_sem])
    go_wp2_with fail
    clear c0_0 c0_1 c0_2 c0_3 c0_4 c0_5 c0_6 c0_7 c0_8 c0_9
    refine (toJob_any _ _ _ _ _ _ _ _ _ _ _).mono ?_
    rintro e w13x ⟨rfl, hb⟩
    have hb13 : Below w12x.heap.size w12x w13x := (belB)
    clear hb
    have hB13 : Below (w.alloc (.cells #[.int .i64 s, .int .i64 t, .int .i64 k, .int .i64 z, .int .i64 p, .int .i64 l, .int .i64 e, .bool b, .int .i64 v, .int .i64 r] 23)).heap.size (w.alloc (.cells #[.int .i64 s, .int .i64 t, .int .i64 k, .int .i64 z, .int .i64 p, .int .i64 l, .int .i64 e, .bool b, .int .i64 v, .int .i64 r] 23)) w13x := bel_trans hB12 hb13
    have hz13 := hb13.size
    replace H0 := H0.below hb13
    replace H1 := H1.below hb13
    replace R1 := R1.below hb13
    replace H2 := H2.below hb13
    replace R2 := R2.below hb13
    replace M4 := M4.below hb13
    replace H5 := H5.below hb13
    replace R5 := R5.below hb13
    go_wp2_with fail
    refine (toIw_any _ len1 _ z1 _ H0 hl1).mono ?_
    rintro e w14x ⟨b6, rfl, H6, R6, ge6, hb⟩
    have hb14 : Below w13x.heap.size w13x w14x := (belB)
    clear hb
    have hB14 : Below (w.alloc (.cells #[.int .i64 s, .int .i64 t, .int .i64 k, .int .i64 z, .int .i64 p, .int .i64 l, .int .i64 e, .bool b, .int .i64 v, .int .i64 r] 23)).heap.size (w.alloc (.cells #[.int .i64 s, .int .i64 t, .int .i64 k, .int .i64 z, .int .i64 p, .int .i64 l, .int .i64 e, .bool b, .int .i64 v, .int .i64 r] 23)) w14x := bel_trans hB13 hb14
    have hz14 := hb14.size
    replace H0 := H0.below hb14
    replace H1 := H1.below hb14
    replace R1 := R1.below hb14
    replace H2 := H2.below hb14
    replace R2 := R2.below hb14
    replace M4 := M4.below hb14
    replace H5 := H5.below hb14
    replace R5 := R5.below hb14
    replace ge6 : ∀ g o, 0 < len1 → b6 = some ⟨g, o, none⟩ → w13x.heap.size ≤ g := fun g o hp e9 => Nat.le_trans (by first | exact Nat.le_refl _ | (simp; done) | (simp; omega)) (ge6 g o hp e9)
    have lt6 : ∀ g o, 0 < len1 → b6 = some ⟨g, o, none⟩ → g < w14x.heap.size := fun g o hp ha => by subst ha; exact H6.lt hp
    go_wp2_with fail
    refine (impltable_eq s t k z p l e b v r _ _ _ z1 _ RR H6 HR).mono ?_
    rintro e w15x ⟨v7, rfl, hO, hb⟩
    have hb15 : Below w14x.heap.size w14x w15x := (belB)
    clear hb
    have hB15 : Below (w.alloc (.cells #[.int .i64 s, .int .i64 t, .int .i64 k, .int .i64 z, .int .i64 p, .int .i64 l, .int .i64 e, .bool b, .int .i64 v, .int .i64 r] 23)).heap.size (w.alloc (.cells #[.int .i64 s, .int .i64 t, .int .i64 k, .int .i64 z, .int .i64 p, .int .i64 l, .int .i64 e, .bool b, .int .i64 v, .int .i64 r] 23)) w15x := bel_trans hB14 hb15
    have hz15 := hb15.size
    replace H0 := H0.below hb15
    replace H1 := H1.below hb15
    replace R1 := R1.below hb15
    replace H2 := H2.below hb15
    replace R2 := R2.below hb15
    replace M4 := M4.below hb15
    replace H5 := H5.below hb15
    replace R5 := R5.below hb15
    replace H6 := H6.below hb15
    replace R6 := R6.below hb15
    obtain ⟨b7, cp7, rfl, H7, R7, ge7⟩ := holdTb hO hRl
    clear hO
    replace ge7 : ∀ g o, 0 < RR.length → b7 = some ⟨g, o, none⟩ → w14x.heap.size ≤ g := fun g o hp e9 => Nat.le_trans (by first | exact Nat.le_refl _ | (simp; done) | (simp; omega)) (ge7 g o hp e9)
    have lt7 : ∀ g o, 0 < RR.length → b7 = some ⟨g, o, none⟩ → g < w15x.heap.size := fun g o hp ha => by subst ha; exact H7.lt hp
    go_wp2_with fail
    refine (eqTb_any _ _ RR.length _ _ RR _ H7 H2).mono ?_
    rintro e w16x ⟨rfl, hb⟩
    have hb16 : Below w15x.heap.size w15x w16x := (belB)
    clear hb
    have hB16 : Below (w.alloc (.cells #[.int .i64 s, .int .i64 t, .int .i64 k, .int .i64 z, .int .i64 p, .int .i64 l, .int .i64 e, .bool b, .int .i64 v, .int .i64 r] 23)).heap.size (w.alloc (.cells #[.int .i64 s, .int .i64 t, .int .i64 k, .int .i64 z, .int .i64 p, .int .i64 l, .int .i64 e, .bool b, .int .i64 v, .int .i64 r] 23)) w16x := bel_trans hB15 hb16
    have hz16 := hb16.size
    replace H0 := H0.below hb16
    replace H1 := H1.below hb16
    replace R1 := R1.below hb16
    replace H2 := H2.below hb16
    replace R2 := R2.below hb16
    replace M4 := M4.below hb16
    replace H5 := H5.below hb16
    replace R5 := R5.below hb16
    replace H6 := H6.below hb16
    replace R6 := R6.below hb16
    replace H7 := H7.below hb16
    replace R7 := R7.below hb16
    go_wp2_with fail
    refine (heldTb_any _ RR.length cp4 _ M4 hRl).mono ?_
    rintro e wx ⟨rfl, hw⟩
    obtain rfl := hw.symm
    clear hw
    go_wp2_with fail
    go_ret
    exact ⟨rfl, bel_trans hb0 hB16⟩
  · go_enter Tryz.func3, Tryz.ntmps3
    go_wp2_with fail
    refine (szIw_big a1 len1 cap1 _ hm (by omega)).mono ?_
    rintro e wx ⟨rfl, hw⟩
    obtain rfl := hw.symm
    go_wp2_with fail
    go_ret
    exact ⟨rfl, (belB)⟩
end Go.Proofs.YtikidpcgnmffcaaGreat
