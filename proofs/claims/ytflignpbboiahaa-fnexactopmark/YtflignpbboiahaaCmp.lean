/- Proved here: how the program holds two windows of keys against each other. -/
import Derived.Test.YtflignpbboiahaaRows
import Derived.Test.YtflignpbboiahaaGenA
import Derived.Deep.RegionHeld3
namespace Go.Proofs.Ytflignpbboiahaa
open Go.ChangeShapes Go.WideShapes Go.ChangeAt Go.RowKit
set_option linter.unusedVariables false

theorem hd_3_3 {b0 b1 o0x0 o0x1 o0x2 o1x0 o1x1 o1x2 : Nat} {v0x0 v0x1 v0x2 v1x0 v1x1 v1x2 : Value} {W W' : World} (h : ((W.cell? ⟨b0, o0x0, none⟩ = some (v0x0) ∧ W.cell? ⟨b0, o0x1, none⟩ = some (v0x1) ∧ W.cell? ⟨b0, o0x2, none⟩ = some (v0x2) ∧ W.cell? ⟨b1, o1x0, none⟩ = some (v1x0) ∧ W.cell? ⟨b1, o1x1, none⟩ = some (v1x1) ∧ W.cell? ⟨b1, o1x2, none⟩ = some (v1x2)) ∧ b0 < W.heap.size ∧ b1 < W.heap.size)) (hb : Below W.heap.size W W') : ((W'.cell? ⟨b0, o0x0, none⟩ = some (v0x0) ∧ W'.cell? ⟨b0, o0x1, none⟩ = some (v0x1) ∧ W'.cell? ⟨b0, o0x2, none⟩ = some (v0x2) ∧ W'.cell? ⟨b1, o1x0, none⟩ = some (v1x0) ∧ W'.cell? ⟨b1, o1x1, none⟩ = some (v1x1) ∧ W'.cell? ⟨b1, o1x2, none⟩ = some (v1x2)) ∧ b0 < W'.heap.size ∧ b1 < W'.heap.size) := by
  obtain ⟨⟨h0, h1, h2, h3, h4, h5⟩, s0, s1⟩ := h
  refine ⟨⟨?_, ?_, ?_, ?_, ?_, ?_⟩, Nat.lt_of_lt_of_le s0 hb.size, Nat.lt_of_lt_of_le s1 hb.size⟩
  · rw [hb.cell s0]; exact h0
  · rw [hb.cell s0]; exact h1
  · rw [hb.cell s0]; exact h2
  · rw [hb.cell s1]; exact h3
  · rw [hb.cell s1]; exact h4
  · rw [hb.cell s1]; exact h5

theorem hd_3_3_set {b0 b1 o0x0 o0x1 o0x2 o1x0 o1x1 o1x2 : Nat} {v0x0 v0x1 v0x2 v1x0 v1x1 v1x2 : Value} {W : World} {p : Addr} (h : ((W.cell? ⟨b0, o0x0, none⟩ = some (v0x0) ∧ W.cell? ⟨b0, o0x1, none⟩ = some (v0x1) ∧ W.cell? ⟨b0, o0x2, none⟩ = some (v0x2) ∧ W.cell? ⟨b1, o1x0, none⟩ = some (v1x0) ∧ W.cell? ⟨b1, o1x1, none⟩ = some (v1x1) ∧ W.cell? ⟨b1, o1x2, none⟩ = some (v1x2)) ∧ b0 < W.heap.size ∧ b1 < W.heap.size)) (p0 : p.block ≠ b0) (p1 : p.block ≠ b1) (u : Value) : (((W.setCell p u).cell? ⟨b0, o0x0, none⟩ = some (v0x0) ∧ (W.setCell p u).cell? ⟨b0, o0x1, none⟩ = some (v0x1) ∧ (W.setCell p u).cell? ⟨b0, o0x2, none⟩ = some (v0x2) ∧ (W.setCell p u).cell? ⟨b1, o1x0, none⟩ = some (v1x0) ∧ (W.setCell p u).cell? ⟨b1, o1x1, none⟩ = some (v1x1) ∧ (W.setCell p u).cell? ⟨b1, o1x2, none⟩ = some (v1x2)) ∧ b0 < (W.setCell p u).heap.size ∧ b1 < (W.setCell p u).heap.size) := by
  obtain ⟨⟨h0, h1, h2, h3, h4, h5⟩, s0, s1⟩ := h
  have hb : W.heap.size ≤ (W.setCell p u).heap.size := by simp [World.setCell]
  refine ⟨⟨?_, ?_, ?_, ?_, ?_, ?_⟩, Nat.lt_of_lt_of_le s0 hb, Nat.lt_of_lt_of_le s1 hb⟩
  · rw [cell_set_ne p0]; exact h0
  · rw [cell_set_ne p0]; exact h1
  · rw [cell_set_ne p0]; exact h2
  · rw [cell_set_ne p1]; exact h3
  · rw [cell_set_ne p1]; exact h4
  · rw [cell_set_ne p1]; exact h5

theorem hd_3_3_re {b0 b1 o0x0 o0x1 o0x2 o1x0 o1x1 o1x2 : Nat} {v0x0 v0x1 v0x2 v1x0 v1x1 v1x2 : Value} {W : World} {o o' : Obj} (h : (((W.alloc o).cell? ⟨b0, o0x0, none⟩ = some (v0x0) ∧ (W.alloc o).cell? ⟨b0, o0x1, none⟩ = some (v0x1) ∧ (W.alloc o).cell? ⟨b0, o0x2, none⟩ = some (v0x2) ∧ (W.alloc o).cell? ⟨b1, o1x0, none⟩ = some (v1x0) ∧ (W.alloc o).cell? ⟨b1, o1x1, none⟩ = some (v1x1) ∧ (W.alloc o).cell? ⟨b1, o1x2, none⟩ = some (v1x2)) ∧ b0 < (W.alloc o).heap.size ∧ b1 < (W.alloc o).heap.size)) (p0 : b0 < W.heap.size) (p1 : b1 < W.heap.size) : (((W.alloc o').cell? ⟨b0, o0x0, none⟩ = some (v0x0) ∧ (W.alloc o').cell? ⟨b0, o0x1, none⟩ = some (v0x1) ∧ (W.alloc o').cell? ⟨b0, o0x2, none⟩ = some (v0x2) ∧ (W.alloc o').cell? ⟨b1, o1x0, none⟩ = some (v1x0) ∧ (W.alloc o').cell? ⟨b1, o1x1, none⟩ = some (v1x1) ∧ (W.alloc o').cell? ⟨b1, o1x2, none⟩ = some (v1x2)) ∧ b0 < (W.alloc o').heap.size ∧ b1 < (W.alloc o').heap.size) := by
  obtain ⟨⟨h0, h1, h2, h3, h4, h5⟩, s0, s1⟩ := h
  have hb : Below W.heap.size (W.alloc o) (W.alloc o') := bel_re W o o'
  refine ⟨⟨?_, ?_, ?_, ?_, ?_, ?_⟩, Nat.lt_of_lt_of_le s0 hb.size, Nat.lt_of_lt_of_le s1 hb.size⟩
  · rw [hb.cell p0]; exact h0
  · rw [hb.cell p0]; exact h1
  · rw [hb.cell p0]; exact h2
  · rw [hb.cell p1]; exact h3
  · rw [hb.cell p1]; exact h4
  · rw [hb.cell p1]; exact h5

/-- Which of two is ahead: below 0, 0 or above 0. -/
def cmpI (a b : Int) : Int := if a < b then -1 else if b < a then 1 else 0

def orI (x y z : Int) : Int := if x = 0 then (if y = 0 then z else y) else x

theorem cmpI_l {a b : Int} (h : a < b) : cmpI a b = -1 := if_pos h

theorem cmpI_g {a b : Int} (h : b < a) : cmpI a b = 1 := by unfold cmpI; rw [if_neg (by omega), if_pos h]

theorem cmpI_e {a b : Int} (h1 : ¬ a < b) (h2 : ¬ b < a) : cmpI a b = 0 := by unfold cmpI; rw [if_neg h1, if_neg h2]

theorem orI_1 {x y z : Int} (h : ¬ x = 0) : orI x y z = x := if_neg h

theorem orI_2 {x y z : Int} (h : x = 0) (h2 : ¬ y = 0) : orI x y z = y := by unfold orI; rw [if_pos h, if_neg h2]

theorem orI_3 {x y z : Int} (h : x = 0) (h2 : y = 0) : orI x y z = z := by unfold orI; rw [if_pos h, if_pos h2]

theorem nan_any (a : Int) (w : World) : Calls Try.prog 69 #[.int .i64 a] w fun e w' => e = .returned (.bool false) ∧ w' = w := by
  go_enter Try.func69, Try.ntmps69
  go_wp2
  go_ret
  exact ⟨rfl, rfl⟩

theorem cmp_any (a b : Int) (w : World) : Calls Try.prog 65 #[.int .i64 a, .int .i64 b] w fun e w' => e = .returned (.int .i64 (cmpI a b)) ∧ w' = w := by
  by_cases h1 : a < b
  · have hq := hide (cmpI_l h1)
    go_enter Try.func65, Try.ntmps65
    go_wp2_with (go_at_call 69; refine (nan_any _ _).mono ?_; rintro e wx ⟨rfl, hw⟩; obtain rfl := hw.symm; clear hw)
    go_ret
    exact ⟨ret_i (unhide hq).symm, rfl⟩
  by_cases h2 : b < a
  · have hq := hide (cmpI_g h2)
    go_enter Try.func65, Try.ntmps65
    go_wp2_with (go_at_call 69; refine (nan_any _ _).mono ?_; rintro e wx ⟨rfl, hw⟩; obtain rfl := hw.symm; clear hw)
    go_ret
    exact ⟨ret_i (unhide hq).symm, rfl⟩
  have hq := hide (cmpI_e h1 h2)
  go_enter Try.func65, Try.ntmps65
  go_wp2_with (go_at_call 69; refine (nan_any _ _).mono ?_; rintro e wx ⟨rfl, hw⟩; obtain rfl := hw.symm; clear hw)
  go_ret
  exact ⟨ret_i (unhide hq).symm, rfl⟩

set_option maxHeartbeats 1000000 in
theorem or_any (x y z : Int) (g cap : Nat) (w : World) (h0 : w.cell? ⟨g, 0, none⟩ = some (.int .i64 x)) (h1 : w.cell? ⟨g, 1, none⟩ = some (.int .i64 y)) (h2 : w.cell? ⟨g, 2, none⟩ = some (.int .i64 z)) : Calls Try.prog 64 #[.slice (some ⟨g, 0, none⟩) 3 cap] w fun e w' => e = .returned (.int .i64 (orI x y z)) ∧ w' = w := by
  go_enter Try.func64, Try.ntmps64
  go_wp2
  go_loop [8] (fun i => ∃ j : Nat, j ≤ 3 ∧ i = .int .i64 j ∧ Hid ((1 ≤ j → x = 0) ∧ (2 ≤ j → y = 0) ∧ (3 ≤ j → z = 0))) (fun i => 3 - (intOf i).toNat)
  case atStart => exact ⟨0, by omega, rfl, hide ⟨by omega, by omega, by omega⟩⟩
  case round =>
    obtain ⟨j, hj, rfl, HZ⟩ := hrel
    rcases (show j = 0 ∨ j = 1 ∨ j = 2 ∨ j = 3 by omega) with rfl | rfl | rfl | rfl
    · by_cases hx : x = 0
      · have HZ2 : Hid ((1 ≤ 1 → x = 0) ∧ (2 ≤ 1 → y = 0) ∧ (3 ≤ 1 → z = 0)) := hide ⟨fun _ => hx, by omega, by omega⟩
        go_wp2
        go_round
        case rel => exact ⟨1, by omega, rfl, HZ2⟩
        case measure => simp [intOf]
      · have HQ := hide (orI_1 (y := y) (z := z) hx)
        have hx' : (x == 0) = false := by simpa using hx
        go_wp2
        go_ret
        exact ⟨ret_i (unhide HQ).symm, rfl⟩
    · by_cases hy : y = 0
      · have HZ2 : Hid ((1 ≤ 2 → x = 0) ∧ (2 ≤ 2 → y = 0) ∧ (3 ≤ 2 → z = 0)) := hide ⟨fun _ => (unhide HZ).1 (by omega), fun _ => hy, by omega⟩
        go_wp2
        go_round
        case rel => exact ⟨2, by omega, rfl, HZ2⟩
        case measure => simp [intOf]
      · have HQ := hide (orI_2 (z := z) ((unhide HZ).1 (by omega)) hy)
        have hy' : (y == 0) = false := by simpa using hy
        go_wp2
        go_ret
        exact ⟨ret_i (unhide HQ).symm, rfl⟩
    · by_cases hz : z = 0
      · have HZ2 : Hid ((1 ≤ 3 → x = 0) ∧ (2 ≤ 3 → y = 0) ∧ (3 ≤ 3 → z = 0)) := hide ⟨fun _ => (unhide HZ).1 (by omega), fun _ => (unhide HZ).2.1 (by omega), fun _ => hz⟩
        go_wp2
        go_round
        case rel => exact ⟨3, by omega, rfl, HZ2⟩
        case measure => simp [intOf]
      · have HQ := hide (orI_3 (z := z) ((unhide HZ).1 (by omega)) ((unhide HZ).2.1 (by omega)))
        have hz' : (z == 0) = false := by simpa using hz
        go_wp2
        go_ret
        exact ⟨ret_i (unhide HQ).symm, rfl⟩
    · have HQ := hide ((orI_3 (z := z) ((unhide HZ).1 (by omega)) ((unhide HZ).2.1 (by omega))).trans ((unhide HZ).2.2 (by omega)))
      go_wp2
      go_ret
      exact ⟨ret_i (unhide HQ).symm, rfl⟩

/-- How two windows of keys stand. -/
def plCmp (ky st en ky' st' en' : Int) : Int := orI (cmpI ky ky') (cmpI st st') (cmpI en en')

set_option maxRecDepth 20000 in
set_option maxHeartbeats 2000000 in
theorem compare_any (ky st en ky' st' en' : Int) (w : World) : Calls Try.prog 55 #[.agg #[.int .i64 ky, .int .i64 st, .int .i64 en], .agg #[.int .i64 ky', .int .i64 st', .int .i64 en']] w fun e w' => e = .returned (.int .i64 (plCmp ky st en ky' st' en')) ∧ Below w.heap.size w w' := by
  go_enter Try.func55, Try.ntmps55
  go_wp2
  go_region_held3 (fun W => ((W.cell? ⟨w.heap.size, 0, none⟩ = some (.int .i64 ky) ∧ W.cell? ⟨w.heap.size, 1, none⟩ = some (.int .i64 st) ∧ W.cell? ⟨w.heap.size, 2, none⟩ = some (.int .i64 en) ∧ W.cell? ⟨w.heap.size + 1, 0, none⟩ = some (.int .i64 ky') ∧ W.cell? ⟨w.heap.size + 1, 1, none⟩ = some (.int .i64 st') ∧ W.cell? ⟨w.heap.size + 1, 2, none⟩ = some (.int .i64 en')) ∧ w.heap.size < W.heap.size ∧ w.heap.size + 1 < W.heap.size)) ((first | ((repeat (first | (with_reducible assumption) | (with_reducible refine hd_3_3 ?_ (by with_reducible assumption)) | (with_reducible refine hd_3_3 ?_ (bel_drew (Below.refl _ _))) | (with_reducible exact hd_3_3_re (by with_reducible assumption) (by first | omega | (simp; done) | (simp; omega)) (by first | omega | (simp; done) | (simp; omega))) | (with_reducible refine hd_3_3 ?_ (bel_one _ _)) | (with_reducible refine hd_3_3_set ?_ (by first | omega | (simp; done) | (simp; omega)) (by first | omega | (simp; done) | (simp; omega)) _))); done) | (refine ⟨⟨?_, ?_, ?_, ?_, ?_, ?_⟩, ?_, ?_⟩ <;> first | (go_keep; done) | (simp; done) | (simp; omega) | omega)))
    (first
    | (go_at_call 65; refine (cmp_any _ _ _).mono ?_; rintro e wx ⟨rfl, hw⟩; obtain rfl := hw.symm; clear hw)
    | (go_at_call 64; refine (or_any (cmpI ky ky') (cmpI st st') (cmpI en en') _ _ _ (by simp [go_sem]) (by simp [go_sem]) (by simp [go_sem])).mono ?_; rintro e wx ⟨rfl, hw⟩; obtain rfl := hw.symm; clear hw))
  all_goals
    go_wp2
    go_ret
    exact ⟨rfl, (by repeat (first | (with_reducible exact Below.refl _ _) | (with_reducible assumption) | (with_reducible refine bel_set ?_ (by first | (simp; done) | (simp; omega)) _) | (with_reducible refine bel_alloc ?_ _) | (with_reducible refine bel_drew ?_) | (with_reducible refine bel_drewN ?_ _) | (with_reducible refine bel_trans ?_ (by with_reducible assumption))))⟩

end Go.Proofs.Ytflignpbboiahaa
