/- Proved here: behind a comparison of two windows of keys the world has only grown: draws and new blocks. -/
import Derived.Test.YtflignpbboiahaaCmp
import Derived.Sort.Grow
namespace Go.Proofs.Ytflignpbboiahaa
open Go.ChangeShapes Go.WideShapes Go.ChangeAt Go.RowKit
set_option linter.unusedVariables false

theorem dr_alloc {n : Nat} {W : World} (h : n ≤ W.drawn) (o : Obj) : n ≤ (W.alloc o).drawn := h
theorem dr_set {n : Nat} {W : World} (h : n ≤ W.drawn) (p : Addr) (v : Value) : n ≤ (W.setCell p v).drawn := h
theorem dr_drew {n : Nat} {W : World} (h : n ≤ W.drawn) : n ≤ W.drew.drawn := Nat.le_succ_of_le h
theorem dr_drewN {n : Nat} {W : World} (h : n ≤ W.drawn) (m : Nat) : n ≤ (W.drewN m).drawn := Nat.le_trans h (Nat.le_add_right _ _)
theorem grow_of_below {w w' : World} (h : Below w.heap.size w w') (hd : w.drawn ≤ w'.drawn) : ∃ q os, w' = Go.Sort.grow (w.drewN q) os := by
  refine ⟨w'.drawn - w.drawn, w'.heap.extract w.heap.size w'.heap.size, ?_⟩
  obtain ⟨h1, h2, h3, h4, h5⟩ := h
  have hh : w'.heap = w.heap ++ w'.heap.extract w.heap.size w'.heap.size := by
    apply Array.ext_getElem?
    intro k
    by_cases hk : k < w.heap.size
    · rw [Array.getElem?_append_left hk, h5 k hk]
    · rw [Array.getElem?_append_right (by omega), Array.getElem?_extract]
      by_cases hk2 : k < w'.heap.size
      · rw [if_pos (by omega)]
        congr 1
        omega
      · rw [if_neg (by omega), Array.getElem?_eq_none (by omega)]
  cases w' with
  | mk heap tape drawn os output =>
    simp only at h1 h2 h3 hh hd
    subst h1 h2 h3
    simp only [Go.Sort.grow, World.drewN]
    rw [← hh]
    congr 1
    omega

set_option maxRecDepth 20000 in
set_option maxHeartbeats 2000000 in
theorem compare_drawn (ky st en ky' st' en' : Int) (w : World) : Calls Try.prog 55 #[.agg #[.int .i64 ky, .int .i64 st, .int .i64 en], .agg #[.int .i64 ky', .int .i64 st', .int .i64 en']] w fun e w' => e = .returned (.int .i64 (plCmp ky st en ky' st' en')) ∧ Below w.heap.size w w' ∧ w.drawn ≤ w'.drawn := by
  go_enter Try.func55, Try.ntmps55
  go_wp2
  go_region_held3 (fun W => ((W.cell? ⟨w.heap.size, 0, none⟩ = some (.int .i64 ky) ∧ W.cell? ⟨w.heap.size, 1, none⟩ = some (.int .i64 st) ∧ W.cell? ⟨w.heap.size, 2, none⟩ = some (.int .i64 en) ∧ W.cell? ⟨w.heap.size + 1, 0, none⟩ = some (.int .i64 ky') ∧ W.cell? ⟨w.heap.size + 1, 1, none⟩ = some (.int .i64 st') ∧ W.cell? ⟨w.heap.size + 1, 2, none⟩ = some (.int .i64 en')) ∧ w.heap.size < W.heap.size ∧ w.heap.size + 1 < W.heap.size)) ((first | ((repeat (first | (with_reducible assumption) | (with_reducible refine hd_3_3 ?_ (by with_reducible assumption)) | (with_reducible refine hd_3_3 ?_ (bel_drew (Below.refl _ _))) | (with_reducible exact hd_3_3_re (by with_reducible assumption) (by first | omega | (simp; done) | (simp; omega)) (by first | omega | (simp; done) | (simp; omega))) | (with_reducible refine hd_3_3 ?_ (bel_one _ _)) | (with_reducible refine hd_3_3_set ?_ (by first | omega | (simp; done) | (simp; omega)) (by first | omega | (simp; done) | (simp; omega)) _))); done) | (refine ⟨⟨?_, ?_, ?_, ?_, ?_, ?_⟩, ?_, ?_⟩ <;> first | (go_keep; done) | (simp; done) | (simp; omega) | omega)))
    (first
    | (go_at_call 65; refine (cmp_any _ _ _).mono ?_; rintro e wx ⟨rfl, hw⟩; obtain rfl := hw.symm; clear hw)
    | (go_at_call 64; refine (or_any (cmpI ky ky') (cmpI st st') (cmpI en en') _ _ _ (by simp [go_sem]) (by simp [go_sem]) (by simp [go_sem])).mono ?_; rintro e wx ⟨rfl, hw⟩; obtain rfl := hw.symm; clear hw))
  all_goals
    go_wp2
    go_ret
    exact ⟨rfl, (by repeat (first | (with_reducible exact Below.refl _ _) | (with_reducible assumption) | (with_reducible refine bel_set ?_ (by first | (simp; done) | (simp; omega)) _) | (with_reducible refine bel_alloc ?_ _) | (with_reducible refine bel_drew ?_) | (with_reducible refine bel_drewN ?_ _) | (with_reducible refine bel_trans ?_ (by with_reducible assumption)))), (by repeat (first | (with_reducible exact Nat.le_refl _) | (with_reducible refine dr_alloc ?_ _) | (with_reducible refine dr_set ?_ _ _) | (with_reducible refine dr_drew ?_) | (with_reducible refine dr_drewN ?_ _)))⟩

theorem compare_grow (ky st en ky' st' en' : Int) (w : World) : Calls Try.prog 55 #[.agg #[.int .i64 ky, .int .i64 st, .int .i64 en], .agg #[.int .i64 ky', .int .i64 st', .int .i64 en']] w fun e w' => e = .returned (.int .i64 (plCmp ky st en ky' st' en')) ∧ ∃ q os, w' = Go.Sort.grow (w.drewN q) os :=
  (compare_drawn ky st en ky' st' en' w).mono fun e w' ⟨h1, h2, h3⟩ => ⟨h1, grow_of_below h2 h3⟩
end Go.Proofs.Ytflignpbboiahaa
