/- Proved here: the law on JobPrint returns true at every argument. -/
import Derived.Test.YtgccnmegbdlefaaDoorJpS
import Derived.Test.YtgccnmegbdlefaaDoorJpI
namespace Go.Proofs.YtgccnmegbdlefaaDoor
open Go.ChangeShapes Go.WideShapes Go.ChangeAt Go.RowKit
set_option linter.unusedVariables false
set_option linter.unusedSimpArgs false

theorem jobLines_le (s t k z p l e : Int) (b : Bool) (v r : Int) : (jobLines s t k z p l e b v r).length ≤ 1048576 := by
  unfold jobLines
  split
  · rw [jLines_len rfl]; omega
  · simp
theorem specjobprint_eq (s t k z p l e : Int) (b : Bool) (v r : Int) (w : World) (RR : List StR) (hR : Hid (jobLines s t k z p l e b v r = RR)) : Calls Tryd.prog 12 #[.agg #[.int .i64 s, .int .i64 t, .int .i64 k, .int .i64 z, .int .i64 p, .int .i64 l, .int .i64 e, .bool b, .int .i64 v, .int .i64 r]] w fun e' w' => ∃ v', e' = .returned v' ∧ OwnSt w' w.heap.size v' RR ∧ Below w.heap.size w w' := by
  rw [← unhide hR]; exact specjobprint_any s t k z p l e b v r w
theorem impljobprint_eq (s t k z p l e : Int) (b : Bool) (v r : Int) (w : World) (RR : List StR) (hG : WordsG w) (htab : Lib.TabIs Tryd.prog w "internal/strconv.uint64pow10" .u64 Lib.pow10Tab) (hR : Hid (jobLines s t k z p l e b v r = RR)) : Calls Tryd.prog 7 #[.agg #[.int .i64 s, .int .i64 t, .int .i64 k, .int .i64 z, .int .i64 p, .int .i64 l, .int .i64 e, .bool b, .int .i64 v, .int .i64 r]] w fun e' w' => ∃ v', e' = .returned v' ∧ OwnSt w' w.heap.size v' RR ∧ Below w.heap.size w w' := by
  rw [← unhide hR]; exact impljobprint_any s t k z p l e b v r w hG htab

set_option maxRecDepth 20000 in
set_option maxHeartbeats 2000000 in
theorem lawJobPrint (s t k z p l e : Int) (b : Bool) (v r : Int) (w : World) (hG : WordsG w) (htab : Lib.TabIs Tryd.prog w "internal/strconv.uint64pow10" .u64 Lib.pow10Tab) : Calls Tryd.prog 4 #[.agg #[.int .i64 s, .int .i64 t, .int .i64 k, .int .i64 z, .int .i64 p, .int .i64 l, .int .i64 e, .bool b, .int .i64 v, .int .i64 r]] w fun e' w' => e' = .returned (.bool true) ∧ Below w.heap.size w w' := by
  have hRl : (jobLines s t k z p l e b v r).length ≤ 1048576 := jobLines_le s t k z p l e b v r
  generalize hR : jobLines s t k z p l e b v r = RR at hRl
  have HR := hide hR
  clear hR
  go_enter Tryd.func4, Tryd.ntmps4
  have hb0 : Below w.heap.size w (w.alloc (.cells #[.int .i64 s, .int .i64 t, .int .i64 k, .int .i64 z, .int .i64 p, .int .i64 l, .int .i64 e, .bool b, .int .i64 v, .int .i64 r] 34)) := bel_one _ _
  have hB0 : Below (w.alloc (.cells #[.int .i64 s, .int .i64 t, .int .i64 k, .int .i64 z, .int .i64 p, .int .i64 l, .int .i64 e, .bool b, .int .i64 v, .int .i64 r] 34)).heap.size (w.alloc (.cells #[.int .i64 s, .int .i64 t, .int .i64 k, .int .i64 z, .int .i64 p, .int .i64 l, .int .i64 e, .bool b, .int .i64 v, .int .i64 r] 34)) (w.alloc (.cells #[.int .i64 s, .int .i64 t, .int .i64 k, .int .i64 z, .int .i64 p, .int .i64 l, .int .i64 e, .bool b, .int .i64 v, .int .i64 r] 34)) := Below.refl _ _
  go_wp2_with fail
  refine (toJob_any _ _ _ _ _ _ _ _ _ _ _).mono ?_
  rintro e w1x ⟨rfl, hb⟩
  have hb1 : Below (w.alloc (.cells #[.int .i64 s, .int .i64 t, .int .i64 k, .int .i64 z, .int .i64 p, .int .i64 l, .int .i64 e, .bool b, .int .i64 v, .int .i64 r] 34)).heap.size (w.alloc (.cells #[.int .i64 s, .int .i64 t, .int .i64 k, .int .i64 z, .int .i64 p, .int .i64 l, .int .i64 e, .bool b, .int .i64 v, .int .i64 r] 34)) w1x := (by repeat (first | (with_reducible refine bel_set ?_ (by first | (simp; done) | (simp; omega)) _) | (with_reducible refine bel_alloc ?_ _) | (with_reducible exact Below.refl _ _) | (with_reducible assumption) | (with_reducible refine bel_drew ?_) | (with_reducible refine bel_drewN ?_ _) | (with_reducible refine bel_trans ?_ (by with_reducible assumption))))
  clear hb
  have hB1 : Below (w.alloc (.cells #[.int .i64 s, .int .i64 t, .int .i64 k, .int .i64 z, .int .i64 p, .int .i64 l, .int .i64 e, .bool b, .int .i64 v, .int .i64 r] 34)).heap.size (w.alloc (.cells #[.int .i64 s, .int .i64 t, .int .i64 k, .int .i64 z, .int .i64 p, .int .i64 l, .int .i64 e, .bool b, .int .i64 v, .int .i64 r] 34)) w1x := hb1
  have hz1 := hb1.size
  go_wp2_with fail
  refine (specjobprint_eq s t k z p l e b v r _ RR HR).mono ?_
  rintro e w2x ⟨v0, rfl, hO, hb⟩
  have hb2 : Below w1x.heap.size w1x w2x := (by repeat (first | (with_reducible refine bel_set ?_ (by first | (simp; done) | (simp; omega)) _) | (with_reducible refine bel_alloc ?_ _) | (with_reducible exact Below.refl _ _) | (with_reducible assumption) | (with_reducible refine bel_drew ?_) | (with_reducible refine bel_drewN ?_ _) | (with_reducible refine bel_trans ?_ (by with_reducible assumption))))
  clear hb
  have hB2 : Below (w.alloc (.cells #[.int .i64 s, .int .i64 t, .int .i64 k, .int .i64 z, .int .i64 p, .int .i64 l, .int .i64 e, .bool b, .int .i64 v, .int .i64 r] 34)).heap.size (w.alloc (.cells #[.int .i64 s, .int .i64 t, .int .i64 k, .int .i64 z, .int .i64 p, .int .i64 l, .int .i64 e, .bool b, .int .i64 v, .int .i64 r] 34)) w2x := bel_trans hB1 hb2
  have hz2 := hb2.size
  obtain ⟨b0, cp0, rfl, H0, R0, ge0⟩ := holdSt hO hRl
  clear hO
  replace ge0 : ∀ g o, 0 < RR.length → b0 = some ⟨g, o, none⟩ → w1x.heap.size ≤ g := fun g o hp e9 => Nat.le_trans (by first | exact Nat.le_refl _ | (simp; done) | (simp; omega)) (ge0 g o hp e9)
  have lt0 : ∀ g o, 0 < RR.length → b0 = some ⟨g, o, none⟩ → g < w2x.heap.size := fun g o hp ha => by subst ha; exact H0.lt hp
  have c0_0 : w2x.cell? ⟨w.heap.size, 0, none⟩ = some (.int .i64 s) := (hB2.cell (p := ⟨w.heap.size, 0, none⟩) (by simp)).trans (by simp [go_sem])
  have c0_1 : w2x.cell? ⟨w.heap.size, 1, none⟩ = some (.int .i64 t) := (hB2.cell (p := ⟨w.heap.size, 1, none⟩) (by simp)).trans (by simp [go_sem])
  have c0_2 : w2x.cell? ⟨w.heap.size, 2, none⟩ = some (.int .i64 k) := (hB2.cell (p := ⟨w.heap.size, 2, none⟩) (by simp)).trans (by simp [go_sem])
  have c0_3 : w2x.cell? ⟨w.heap.size, 3, none⟩ = some (.int .i64 z) := (hB2.cell (p := ⟨w.heap.size, 3, none⟩) (by simp)).trans (by simp [go_sem])
  have c0_4 : w2x.cell? ⟨w.heap.size, 4, none⟩ = some (.int .i64 p) := (hB2.cell (p := ⟨w.heap.size, 4, none⟩) (by simp)).trans (by simp [go_sem])
  have c0_5 : w2x.cell? ⟨w.heap.size, 5, none⟩ = some (.int .i64 l) := (hB2.cell (p := ⟨w.heap.size, 5, none⟩) (by simp)).trans (by simp [go_sem])
  have c0_6 : w2x.cell? ⟨w.heap.size, 6, none⟩ = some (.int .i64 e) := (hB2.cell (p := ⟨w.heap.size, 6, none⟩) (by simp)).trans (by simp [go_sem])
  have c0_7 : w2x.cell? ⟨w.heap.size, 7, none⟩ = some (.bool b) := (hB2.cell (p := ⟨w.heap.size, 7, none⟩) (by simp)).trans (by simp [go_sem])
  have c0_8 : w2x.cell? ⟨w.heap.size, 8, none⟩ = some (.int .i64 v) := (hB2.cell (p := ⟨w.heap.size, 8, none⟩) (by simp)).trans (by simp [go_sem])
  have c0_9 : w2x.cell? ⟨w.heap.size, 9, none⟩ = some (.int .i64 r) := (hB2.cell (p := ⟨w.heap.size, 9, none⟩) (by simp)).trans (by simp [go_sem])
  go_wp2_with fail
  clear c0_0 c0_1 c0_2 c0_3 c0_4 c0_5 c0_6 c0_7 c0_8 c0_9
  refine (toJob_any _ _ _ _ _ _ _ _ _ _ _).mono ?_
  rintro e w3x ⟨rfl, hb⟩
  have hb3 : Below w2x.heap.size w2x w3x := (by repeat (first | (with_reducible refine bel_set ?_ (by first | (simp; done) | (simp; omega)) _) | (with_reducible refine bel_alloc ?_ _) | (with_reducible exact Below.refl _ _) | (with_reducible assumption) | (with_reducible refine bel_drew ?_) | (with_reducible refine bel_drewN ?_ _) | (with_reducible refine bel_trans ?_ (by with_reducible assumption))))
  clear hb
  have hB3 : Below (w.alloc (.cells #[.int .i64 s, .int .i64 t, .int .i64 k, .int .i64 z, .int .i64 p, .int .i64 l, .int .i64 e, .bool b, .int .i64 v, .int .i64 r] 34)).heap.size (w.alloc (.cells #[.int .i64 s, .int .i64 t, .int .i64 k, .int .i64 z, .int .i64 p, .int .i64 l, .int .i64 e, .bool b, .int .i64 v, .int .i64 r] 34)) w3x := bel_trans hB2 hb3
  have hz3 := hb3.size
  replace H0 := H0.below hb3
  replace R0 := R0.below hb3
  go_wp2_with fail
  refine (impljobprint_eq s t k z p l e b v r _ RR (hG.below (bel_trans hb0 hB3)) (tab_bel htab (bel_trans hb0 hB3)) HR).mono ?_
  rintro e w4x ⟨v1, rfl, hO, hb⟩
  have hb4 : Below w3x.heap.size w3x w4x := (by repeat (first | (with_reducible refine bel_set ?_ (by first | (simp; done) | (simp; omega)) _) | (with_reducible refine bel_alloc ?_ _) | (with_reducible exact Below.refl _ _) | (with_reducible assumption) | (with_reducible refine bel_drew ?_) | (with_reducible refine bel_drewN ?_ _) | (with_reducible refine bel_trans ?_ (by with_reducible assumption))))
  clear hb
  have hB4 : Below (w.alloc (.cells #[.int .i64 s, .int .i64 t, .int .i64 k, .int .i64 z, .int .i64 p, .int .i64 l, .int .i64 e, .bool b, .int .i64 v, .int .i64 r] 34)).heap.size (w.alloc (.cells #[.int .i64 s, .int .i64 t, .int .i64 k, .int .i64 z, .int .i64 p, .int .i64 l, .int .i64 e, .bool b, .int .i64 v, .int .i64 r] 34)) w4x := bel_trans hB3 hb4
  have hz4 := hb4.size
  replace H0 := H0.below hb4
  replace R0 := R0.below hb4
  obtain ⟨b1, cp1, rfl, H1, R1, ge1⟩ := holdSt hO hRl
  clear hO
  replace ge1 : ∀ g o, 0 < RR.length → b1 = some ⟨g, o, none⟩ → w3x.heap.size ≤ g := fun g o hp e9 => Nat.le_trans (by first | exact Nat.le_refl _ | (simp; done) | (simp; omega)) (ge1 g o hp e9)
  have lt1 : ∀ g o, 0 < RR.length → b1 = some ⟨g, o, none⟩ → g < w4x.heap.size := fun g o hp ha => by subst ha; exact H1.lt hp
  go_wp2_with fail
  refine (eqSt_any _ _ RR.length _ _ RR _ H1 H0).mono ?_
  rintro e w5x ⟨rfl, hb⟩
  have hb5 : Below w4x.heap.size w4x w5x := (by repeat (first | (with_reducible refine bel_set ?_ (by first | (simp; done) | (simp; omega)) _) | (with_reducible refine bel_alloc ?_ _) | (with_reducible exact Below.refl _ _) | (with_reducible assumption) | (with_reducible refine bel_drew ?_) | (with_reducible refine bel_drewN ?_ _) | (with_reducible refine bel_trans ?_ (by with_reducible assumption))))
  clear hb
  have hB5 : Below (w.alloc (.cells #[.int .i64 s, .int .i64 t, .int .i64 k, .int .i64 z, .int .i64 p, .int .i64 l, .int .i64 e, .bool b, .int .i64 v, .int .i64 r] 34)).heap.size (w.alloc (.cells #[.int .i64 s, .int .i64 t, .int .i64 k, .int .i64 z, .int .i64 p, .int .i64 l, .int .i64 e, .bool b, .int .i64 v, .int .i64 r] 34)) w5x := bel_trans hB4 hb5
  have hz5 := hb5.size
  replace H0 := H0.below hb5
  replace R0 := R0.below hb5
  replace H1 := H1.below hb5
  replace R1 := R1.below hb5
  go_wp2_with fail
  refine (markSt_any _ RR.length cp1 _ R1 hRl).mono ?_
  rintro e w6x ⟨rfl, M1, hg⟩
  replace H0 := H0.grown hg (fun g o hp ha => rowSt_ne (fun g' o' hp' e9 => by have q1 := lt0 g o hp ha; have q2 := ge0 g o hp ha; have q3 := lt1 g' o' hp' e9; have q4 := ge1 g' o' hp' e9; omega) R1.shape)
  replace R0 := R0.grown hg (fun g o hp ha => rowSt_ne (fun g' o' hp' e9 => by have q1 := lt0 g o hp ha; have q2 := ge0 g o hp ha; have q3 := lt1 g' o' hp' e9; have q4 := ge1 g' o' hp' e9; omega) R1.shape)
  have hB6 : Below (w.alloc (.cells #[.int .i64 s, .int .i64 t, .int .i64 k, .int .i64 z, .int .i64 p, .int .i64 l, .int .i64 e, .bool b, .int .i64 v, .int .i64 r] 34)).heap.size (w.alloc (.cells #[.int .i64 s, .int .i64 t, .int .i64 k, .int .i64 z, .int .i64 p, .int .i64 l, .int .i64 e, .bool b, .int .i64 v, .int .i64 r] 34)) w6x := growSt hB5 hg (rowSt_ge (fun g' o' hp' e9 => by have q4 := ge1 g' o' hp' e9; omega) R1.shape)
  have hz6 := hg.size
  clear hg H1 R1
  go_wp2_with fail
  refine (heldSt_any _ RR.length cp1 _ M1 hRl).mono ?_
  rintro e w7x ⟨rfl, hb⟩
  have hb7 : Below w6x.heap.size w6x w7x := (by repeat (first | (with_reducible refine bel_set ?_ (by first | (simp; done) | (simp; omega)) _) | (with_reducible refine bel_alloc ?_ _) | (with_reducible exact Below.refl _ _) | (with_reducible assumption) | (with_reducible refine bel_drew ?_) | (with_reducible refine bel_drewN ?_ _) | (with_reducible refine bel_trans ?_ (by with_reducible assumption))))
  clear hb
  have hB7 : Below (w.alloc (.cells #[.int .i64 s, .int .i64 t, .int .i64 k, .int .i64 z, .int .i64 p, .int .i64 l, .int .i64 e, .bool b, .int .i64 v, .int .i64 r] 34)).heap.size (w.alloc (.cells #[.int .i64 s, .int .i64 t, .int .i64 k, .int .i64 z, .int .i64 p, .int .i64 l, .int .i64 e, .bool b, .int .i64 v, .int .i64 r] 34)) w7x := bel_trans hB6 hb7
  have hz7 := hb7.size
  replace H0 := H0.below hb7
  replace R0 := R0.below hb7
  replace M1 := M1.below hb7
  have c0_0 : w7x.cell? ⟨w.heap.size, 0, none⟩ = some (.int .i64 s) := (hB7.cell (p := ⟨w.heap.size, 0, none⟩) (by simp)).trans (by simp [go_sem])
  have c0_1 : w7x.cell? ⟨w.heap.size, 1, none⟩ = some (.int .i64 t) := (hB7.cell (p := ⟨w.heap.size, 1, none⟩) (by simp)).trans (by simp [go_sem])
  have c0_2 : w7x.cell? ⟨w.heap.size, 2, none⟩ = some (.int .i64 k) := (hB7.cell (p := ⟨w.heap.size, 2, none⟩) (by simp)).trans (by simp [go_sem])
  have c0_3 : w7x.cell? ⟨w.heap.size, 3, none⟩ = some (.int .i64 z) := (hB7.cell (p := ⟨w.heap.size, 3, none⟩) (by simp)).trans (by simp [go_sem])
  have c0_4 : w7x.cell? ⟨w.heap.size, 4, none⟩ = some (.int .i64 p) := (hB7.cell (p := ⟨w.heap.size, 4, none⟩) (by simp)).trans (by simp [go_sem])
  have c0_5 : w7x.cell? ⟨w.heap.size, 5, none⟩ = some (.int .i64 l) := (hB7.cell (p := ⟨w.heap.size, 5, none⟩) (by simp)).trans (by simp [go_sem])
  have c0_6 : w7x.cell? ⟨w.heap.size, 6, none⟩ = some (.int .i64 e) := (hB7.cell (p := ⟨w.heap.size, 6, none⟩) (by simp)).trans (by simp [go_sem])
  have c0_7 : w7x.cell? ⟨w.heap.size, 7, none⟩ = some (.bool b) := (hB7.cell (p := ⟨w.heap.size, 7, none⟩) (by simp)).trans (by simp [go_sem])
  have c0_8 : w7x.cell? ⟨w.heap.size, 8, none⟩ = some (.int .i64 v) := (hB7.cell (p := ⟨w.heap.size, 8, none⟩) (by simp)).trans (by simp [go_sem])
  have c0_9 : w7x.cell? ⟨w.heap.size, 9, none⟩ = some (.int .i64 r) := (hB7.cell (p := ⟨w.heap.size, 9, none⟩) (by simp)).trans (by simp [go_sem])
  go_wp2_with fail
  clear c0_0 c0_1 c0_2 c0_3 c0_4 c0_5 c0_6 c0_7 c0_8 c0_9
  refine (toJob_any _ _ _ _ _ _ _ _ _ _ _).mono ?_
  rintro e w8x ⟨rfl, hb⟩
  have hb8 : Below w7x.heap.size w7x w8x := (by repeat (first | (with_reducible refine bel_set ?_ (by first | (simp; done) | (simp; omega)) _) | (with_reducible refine bel_alloc ?_ _) | (with_reducible exact Below.refl _ _) | (with_reducible assumption) | (with_reducible refine bel_drew ?_) | (with_reducible refine bel_drewN ?_ _) | (with_reducible refine bel_trans ?_ (by with_reducible assumption))))
  clear hb
  have hB8 : Below (w.alloc (.cells #[.int .i64 s, .int .i64 t, .int .i64 k, .int .i64 z, .int .i64 p, .int .i64 l, .int .i64 e, .bool b, .int .i64 v, .int .i64 r] 34)).heap.size (w.alloc (.cells #[.int .i64 s, .int .i64 t, .int .i64 k, .int .i64 z, .int .i64 p, .int .i64 l, .int .i64 e, .bool b, .int .i64 v, .int .i64 r] 34)) w8x := bel_trans hB7 hb8
  have hz8 := hb8.size
  replace H0 := H0.below hb8
  replace R0 := R0.below hb8
  replace M1 := M1.below hb8
  go_wp2_with fail
  refine (impljobprint_eq s t k z p l e b v r _ RR (hG.below (bel_trans hb0 hB8)) (tab_bel htab (bel_trans hb0 hB8)) HR).mono ?_
  rintro e w9x ⟨v2, rfl, hO, hb⟩
  have hb9 : Below w8x.heap.size w8x w9x := (by repeat (first | (with_reducible refine bel_set ?_ (by first | (simp; done) | (simp; omega)) _) | (with_reducible refine bel_alloc ?_ _) | (with_reducible exact Below.refl _ _) | (with_reducible assumption) | (with_reducible refine bel_drew ?_) | (with_reducible refine bel_drewN ?_ _) | (with_reducible refine bel_trans ?_ (by with_reducible assumption))))
  clear hb
  have hB9 : Below (w.alloc (.cells #[.int .i64 s, .int .i64 t, .int .i64 k, .int .i64 z, .int .i64 p, .int .i64 l, .int .i64 e, .bool b, .int .i64 v, .int .i64 r] 34)).heap.size (w.alloc (.cells #[.int .i64 s, .int .i64 t, .int .i64 k, .int .i64 z, .int .i64 p, .int .i64 l, .int .i64 e, .bool b, .int .i64 v, .int .i64 r] 34)) w9x := bel_trans hB8 hb9
  have hz9 := hb9.size
  replace H0 := H0.below hb9
  replace R0 := R0.below hb9
  replace M1 := M1.below hb9
  obtain ⟨b2, cp2, rfl, H2, R2, ge2⟩ := holdSt hO hRl
  clear hO
  replace ge2 : ∀ g o, 0 < RR.length → b2 = some ⟨g, o, none⟩ → w8x.heap.size ≤ g := fun g o hp e9 => Nat.le_trans (by first | exact Nat.le_refl _ | (simp; done) | (simp; omega)) (ge2 g o hp e9)
  have lt2 : ∀ g o, 0 < RR.length → b2 = some ⟨g, o, none⟩ → g < w9x.heap.size := fun g o hp ha => by subst ha; exact H2.lt hp
  go_wp2_with fail
  refine (eqSt_any _ _ RR.length _ _ RR _ H2 H0).mono ?_
  rintro e w10x ⟨rfl, hb⟩
  have hb10 : Below w9x.heap.size w9x w10x := (by repeat (first | (with_reducible refine bel_set ?_ (by first | (simp; done) | (simp; omega)) _) | (with_reducible refine bel_alloc ?_ _) | (with_reducible exact Below.refl _ _) | (with_reducible assumption) | (with_reducible refine bel_drew ?_) | (with_reducible refine bel_drewN ?_ _) | (with_reducible refine bel_trans ?_ (by with_reducible assumption))))
  clear hb
  have hB10 : Below (w.alloc (.cells #[.int .i64 s, .int .i64 t, .int .i64 k, .int .i64 z, .int .i64 p, .int .i64 l, .int .i64 e, .bool b, .int .i64 v, .int .i64 r] 34)).heap.size (w.alloc (.cells #[.int .i64 s, .int .i64 t, .int .i64 k, .int .i64 z, .int .i64 p, .int .i64 l, .int .i64 e, .bool b, .int .i64 v, .int .i64 r] 34)) w10x := bel_trans hB9 hb10
  have hz10 := hb10.size
  replace H0 := H0.below hb10
  replace R0 := R0.below hb10
  replace M1 := M1.below hb10
  replace H2 := H2.below hb10
  replace R2 := R2.below hb10
  go_wp2_with fail
  refine (heldSt_any _ RR.length cp1 _ M1 hRl).mono ?_
  rintro e w11x ⟨rfl, hb⟩
  have hb11 : Below w10x.heap.size w10x w11x := (by repeat (first | (with_reducible refine bel_set ?_ (by first | (simp; done) | (simp; omega)) _) | (with_reducible refine bel_alloc ?_ _) | (with_reducible exact Below.refl _ _) | (with_reducible assumption) | (with_reducible refine bel_drew ?_) | (with_reducible refine bel_drewN ?_ _) | (with_reducible refine bel_trans ?_ (by with_reducible assumption))))
  clear hb
  have hB11 : Below (w.alloc (.cells #[.int .i64 s, .int .i64 t, .int .i64 k, .int .i64 z, .int .i64 p, .int .i64 l, .int .i64 e, .bool b, .int .i64 v, .int .i64 r] 34)).heap.size (w.alloc (.cells #[.int .i64 s, .int .i64 t, .int .i64 k, .int .i64 z, .int .i64 p, .int .i64 l, .int .i64 e, .bool b, .int .i64 v, .int .i64 r] 34)) w11x := bel_trans hB10 hb11
  have hz11 := hb11.size
  replace H0 := H0.below hb11
  replace R0 := R0.below hb11
  replace M1 := M1.below hb11
  replace H2 := H2.below hb11
  replace R2 := R2.below hb11
  go_wp2_with fail
  go_ret
  exact ⟨rfl, bel_trans hb0 hB11⟩
end Go.Proofs.YtgccnmegbdlefaaDoor
