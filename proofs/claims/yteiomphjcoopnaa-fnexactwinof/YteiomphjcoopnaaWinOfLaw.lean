/- Proved here: the law on WinOf returns true at every job and time. -/
import Derived.Test.YteiomphjcoopnaaSlide6
namespace Go.Proofs.Yteiomphjcoopnaa
open Go.ChangeShapes Go.WideShapes Go.ChangeAt Go.RowKit Go.Maps
set_option linter.unusedVariables false

set_option maxHeartbeats 2000000 in
theorem lawWinOf (s t k z p l e : Int) (b : Bool) (v r : Int) (T : Int) (w : World) : Calls Try.prog 8 #[.agg #[.int .i64 s, .int .i64 t, .int .i64 k, .int .i64 z, .int .i64 p, .int .i64 l, .int .i64 e, .bool b, .int .i64 v, .int .i64 r], .int .i64 T] w fun e' w' => e' = .returned (.bool true) ∧ Below w.heap.size w w' := by
  have hRl : (winsAll s t k z p l e v r T).length ≤ 1048576 := Nat.le_trans (winsAll_len _ _ _ _ _ _ _ _ _ _) (by omega)
  generalize hR : winsAll s t k z p l e v r T = R at hRl
  have HR := hide hR
  clear hR
  go_enter Try.func8, Try.ntmps8
  go_wp2_with fail
  refine (toJob_any _ _ _ _ _ _ _ _ _ _ _).mono ?_
  rintro e' w1 ⟨rfl, hb1⟩
  go_wp2_with fail
  refine (specwinof_any _ _ _ _ _ _ _ _ _ _ _ _).mono ?_
  rintro e' w2 ⟨v0, rfl, hO0, hb2⟩
  rw [unhide HR] at hO0
  obtain ⟨a0, cap0, rfl, hT0, hW0, hge0⟩ := holdWn hO0 hRl
  have hB2 := bel_trans hb1 hb2
  clear hO0
  have c0 : w2.cell? ⟨w.heap.size, 0, none⟩ = some (.int .i64 s) := (hB2.cell (p := ⟨w.heap.size, 0, none⟩) (by simp)).trans (by simp [go_sem])
  have c1 : w2.cell? ⟨w.heap.size, 1, none⟩ = some (.int .i64 t) := (hB2.cell (p := ⟨w.heap.size, 1, none⟩) (by simp)).trans (by simp [go_sem])
  have c2 : w2.cell? ⟨w.heap.size, 2, none⟩ = some (.int .i64 k) := (hB2.cell (p := ⟨w.heap.size, 2, none⟩) (by simp)).trans (by simp [go_sem])
  have c3 : w2.cell? ⟨w.heap.size, 3, none⟩ = some (.int .i64 z) := (hB2.cell (p := ⟨w.heap.size, 3, none⟩) (by simp)).trans (by simp [go_sem])
  have c4 : w2.cell? ⟨w.heap.size, 4, none⟩ = some (.int .i64 p) := (hB2.cell (p := ⟨w.heap.size, 4, none⟩) (by simp)).trans (by simp [go_sem])
  have c5 : w2.cell? ⟨w.heap.size, 5, none⟩ = some (.int .i64 l) := (hB2.cell (p := ⟨w.heap.size, 5, none⟩) (by simp)).trans (by simp [go_sem])
  have c6 : w2.cell? ⟨w.heap.size, 6, none⟩ = some (.int .i64 e) := (hB2.cell (p := ⟨w.heap.size, 6, none⟩) (by simp)).trans (by simp [go_sem])
  have c7 : w2.cell? ⟨w.heap.size, 7, none⟩ = some (.bool b) := (hB2.cell (p := ⟨w.heap.size, 7, none⟩) (by simp)).trans (by simp [go_sem])
  have c8 : w2.cell? ⟨w.heap.size, 8, none⟩ = some (.int .i64 v) := (hB2.cell (p := ⟨w.heap.size, 8, none⟩) (by simp)).trans (by simp [go_sem])
  have c9 : w2.cell? ⟨w.heap.size, 9, none⟩ = some (.int .i64 r) := (hB2.cell (p := ⟨w.heap.size, 9, none⟩) (by simp)).trans (by simp [go_sem])
  go_wp2_with fail
  clear c0 c1 c2 c3 c4 c5 c6 c7 c8 c9
  refine (toJob_any _ _ _ _ _ _ _ _ _ _ _).mono ?_
  rintro e' w3 ⟨rfl, hb3⟩
  go_wp2_with fail
  refine (implwinof_any _ _ _ _ _ _ _ _ _ _ _ _).mono ?_
  rintro e' w4 ⟨v1, rfl, hO1, hb4⟩
  rw [unhide HR] at hO1
  obtain ⟨a1, cap1, rfl, hT1, hW1, hge1⟩ := holdWn hO1 hRl
  clear hO1
  have hb24 := bel_trans hb3 hb4
  have hB4 := bel_trans hB2 hb24
  go_wp2_with fail
  refine (eqWn_any _ _ R.length cap1 cap0 R _ hT1 (hT0.below hb24)).mono ?_
  rintro e' w5 ⟨rfl, hb5⟩
  have hb25 := bel_trans hb24 hb5
  have hB5 := bel_trans hB4 hb5
  have hz2 := hB2.size
  have hz3 := hb3.size
  go_wp2_with fail
  refine (markWn_any a1 R.length cap1 _ (hW1.below hb5) hRl).mono ?_
  rintro e' w6 ⟨rfl, hM6, hg6⟩
  have hT0' : WnRs w6 a0 R.length R := (hT0.below hb25).grown hg6 (fun g o hp ha => rowWn_ne (fun g' o' hp' e => by subst ha; have := hT0.lt hp; have := hge1 g' o' hp' e; omega) hW1.shape)
  have hB6 : Below (w.alloc (.cells #[.int .i64 s, .int .i64 t, .int .i64 k, .int .i64 z, .int .i64 p, .int .i64 l, .int .i64 e, .bool b, .int .i64 v, .int .i64 r] 35)).heap.size (w.alloc (.cells #[.int .i64 s, .int .i64 t, .int .i64 k, .int .i64 z, .int .i64 p, .int .i64 l, .int .i64 e, .bool b, .int .i64 v, .int .i64 r] 35)) w6 := growWn hB5 hg6 (rowWn_ge (fun g' o' hp e => by have := hge1 g' o' hp e; omega) hW1.shape)
  clear hg6
  go_wp2_with fail
  refine (heldWn_any a1 R.length cap1 _ hM6 hRl).mono ?_
  rintro e' wx ⟨rfl, hwx⟩
  obtain rfl := hwx.symm
  have c0 : w6.cell? ⟨w.heap.size, 0, none⟩ = some (.int .i64 s) := (hB6.cell (p := ⟨w.heap.size, 0, none⟩) (by simp)).trans (by simp [go_sem])
  have c1 : w6.cell? ⟨w.heap.size, 1, none⟩ = some (.int .i64 t) := (hB6.cell (p := ⟨w.heap.size, 1, none⟩) (by simp)).trans (by simp [go_sem])
  have c2 : w6.cell? ⟨w.heap.size, 2, none⟩ = some (.int .i64 k) := (hB6.cell (p := ⟨w.heap.size, 2, none⟩) (by simp)).trans (by simp [go_sem])
  have c3 : w6.cell? ⟨w.heap.size, 3, none⟩ = some (.int .i64 z) := (hB6.cell (p := ⟨w.heap.size, 3, none⟩) (by simp)).trans (by simp [go_sem])
  have c4 : w6.cell? ⟨w.heap.size, 4, none⟩ = some (.int .i64 p) := (hB6.cell (p := ⟨w.heap.size, 4, none⟩) (by simp)).trans (by simp [go_sem])
  have c5 : w6.cell? ⟨w.heap.size, 5, none⟩ = some (.int .i64 l) := (hB6.cell (p := ⟨w.heap.size, 5, none⟩) (by simp)).trans (by simp [go_sem])
  have c6 : w6.cell? ⟨w.heap.size, 6, none⟩ = some (.int .i64 e) := (hB6.cell (p := ⟨w.heap.size, 6, none⟩) (by simp)).trans (by simp [go_sem])
  have c7 : w6.cell? ⟨w.heap.size, 7, none⟩ = some (.bool b) := (hB6.cell (p := ⟨w.heap.size, 7, none⟩) (by simp)).trans (by simp [go_sem])
  have c8 : w6.cell? ⟨w.heap.size, 8, none⟩ = some (.int .i64 v) := (hB6.cell (p := ⟨w.heap.size, 8, none⟩) (by simp)).trans (by simp [go_sem])
  have c9 : w6.cell? ⟨w.heap.size, 9, none⟩ = some (.int .i64 r) := (hB6.cell (p := ⟨w.heap.size, 9, none⟩) (by simp)).trans (by simp [go_sem])
  go_wp2_with fail
  clear c0 c1 c2 c3 c4 c5 c6 c7 c8 c9
  refine (toJob_any _ _ _ _ _ _ _ _ _ _ _).mono ?_
  rintro e' w7 ⟨rfl, hb7⟩
  go_wp2_with fail
  refine (implwinof_any _ _ _ _ _ _ _ _ _ _ _ _).mono ?_
  rintro e' w8 ⟨v2, rfl, hO2, hb8⟩
  rw [unhide HR] at hO2
  obtain ⟨a2, cap2, rfl, hT2, hW2, hge2⟩ := holdWn hO2 hRl
  clear hO2
  have hb68 := bel_trans hb7 hb8
  go_wp2_with fail
  refine (eqWn_any _ _ R.length cap2 cap0 R _ hT2 (hT0'.below hb68)).mono ?_
  rintro e' w9 ⟨rfl, hb9⟩
  have hb69 := bel_trans hb68 hb9
  go_wp2_with fail
  refine (heldWn_any a1 R.length cap1 _ (hM6.below hb69) hRl).mono ?_
  rintro e' wy ⟨rfl, hwy⟩
  obtain rfl := hwy.symm
  go_wp2_with fail
  go_ret
  exact ⟨rfl, bel_trans (bel_one _ _) (bel_trans hB6 hb69)⟩
end Go.Proofs.Yteiomphjcoopnaa
