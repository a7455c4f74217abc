/- Proved here: a row tells its next pane; of all that lay there its box alone turns. -/
import Derived.Test.YtflignpbboiahaaOpBx
import Derived.Deep.RegionHeld3
import Derived.Lib.SmallJoins
namespace Go.Proofs.Ytflignpbboiahaa
open Go.ChangeShapes Go.WideShapes Go.ChangeAt Go.RowKit
set_option linter.unusedVariables false

set_option linter.unusedSimpArgs false
set_option maxRecDepth 20000 in
set_option maxHeartbeats 4000000 in
theorem tell_any (g : Nat) (x : OrR) (pc : Bool) (w : World) (h : BxO w g x) (htd : 0 ≤ x.td ∧ x.td ≤ 100000) : Calls Try.prog 59 #[.pointer (some ⟨g, 0, none⟩), .bool pc] w fun e w' => e = .returned (.agg #[.int .i64 (panX pc x).ky, .int .i64 (panX pc x).st, .int .i64 (panX pc x).en, .int .i64 (panX pc x).no, .int .i64 (panX pc x).kd, .int .i64 (panX pc x).n, .int .i64 (panX pc x).su, .int .i64 (panX pc x).le, .int .i64 (panX pc x).mo]) ∧ BxO w' g (toldX x) ∧ w.grownBy w' (some g) := by
  obtain ⟨ky, st, en, an, asu, ale, amo, fn, fsu, fle, fmo, td, tm⟩ := x
  unfold BxO at h
  dsimp only at h htd
  have hg : g < w.heap.size := (Array.getElem?_eq_some_iff.1 h).1
  go_enter Try.func59, Try.ntmps59
  go_wp2_with fail
  refine wp_region_held_drew (S := (fun W => W.heap[g]? = some (.cells #[.int .i64 ky, .int .i64 st, .int .i64 en, .int .i64 an, .int .i64 asu, .int .i64 ale, .int .i64 amo, .int .i64 fn, .int .i64 fsu, .int .i64 fle, .int .i64 fmo, .int .i64 td, .bool tm] 66 (0, 0)))) (by kernel_rfl) ?_ (fun hHeld => ?_)
  · (try dsimp only); exact (Below.heap_alloc _ _ _ hg).trans h
  refine wpAnyH_take (i := 0) (v := ?_) (by simp only [List.getElem?_toArray, List.getElem?_cons_zero, List.getElem?_cons_succ]; rfl) (by kernel_rfl) (by kernel_rfl) (by kernel_rfl) (by intro _ _ _ h; exact h) (Or.inl ⟨by rfl, ?_⟩) (by assumption) ?_
  rotate_left
  · (intro w9 hSw; (try dsimp only at hSw); go_simp <;> with_reducible rfl)
  try simp only [Act.put, List.setIfInBounds_toArray, List.set_cons_zero, List.set_cons_succ]
  refine wpAnyH_take (i := 1) (v := ?_) (by simp only [List.getElem?_toArray, List.getElem?_cons_zero, List.getElem?_cons_succ]; rfl) (by kernel_rfl) (by kernel_rfl) (by kernel_rfl) (by intro _ _ _ h; exact h) (Or.inl ⟨by rfl, ?_⟩) (by assumption) ?_
  rotate_left
  · (intro w9 hSw; (try dsimp only at hSw); go_simp <;> with_reducible rfl)
  try simp only [Act.put, List.setIfInBounds_toArray, List.set_cons_zero, List.set_cons_succ]
  refine wpAnyH_take (i := 2) (v := ?_) (by simp only [List.getElem?_toArray, List.getElem?_cons_zero, List.getElem?_cons_succ]; rfl) (by kernel_rfl) (by kernel_rfl) (by kernel_rfl) (by intro _ _ _ h; exact h) (Or.inl ⟨by rfl, ?_⟩) (by assumption) ?_
  rotate_left
  · (intro w9 hSw; (try dsimp only at hSw); go_simp <;> with_reducible rfl)
  try simp only [Act.put, List.setIfInBounds_toArray, List.set_cons_zero, List.set_cons_succ]
  refine wpAnyH_take (i := 3) (v := ?_) (by simp only [List.getElem?_toArray, List.getElem?_cons_zero, List.getElem?_cons_succ]; rfl) (by kernel_rfl) (by kernel_rfl) (by kernel_rfl) (by intro _ _ _ h; exact h) (Or.inl ⟨by rfl, ?_⟩) (by assumption) ?_
  rotate_left
  · (intro w9 hSw; (try dsimp only at hSw); have y0 : w9.cell? ⟨g, 0, none⟩ = some (.int .i64 ky) := (by simp [World.cell?, hSw, go_sem]); have y1 : w9.cell? ⟨g, 1, none⟩ = some (.int .i64 st) := (by simp [World.cell?, hSw, go_sem]); have y2 : w9.cell? ⟨g, 2, none⟩ = some (.int .i64 en) := (by simp [World.cell?, hSw, go_sem]); have y3 : w9.cell? ⟨g, 3, none⟩ = some (.int .i64 an) := (by simp [World.cell?, hSw, go_sem]); have y4 : w9.cell? ⟨g, 4, none⟩ = some (.int .i64 asu) := (by simp [World.cell?, hSw, go_sem]); have y5 : w9.cell? ⟨g, 5, none⟩ = some (.int .i64 ale) := (by simp [World.cell?, hSw, go_sem]); have y6 : w9.cell? ⟨g, 6, none⟩ = some (.int .i64 amo) := (by simp [World.cell?, hSw, go_sem]); have y7 : w9.cell? ⟨g, 7, none⟩ = some (.int .i64 fn) := (by simp [World.cell?, hSw, go_sem]); have y8 : w9.cell? ⟨g, 8, none⟩ = some (.int .i64 fsu) := (by simp [World.cell?, hSw, go_sem]); have y9 : w9.cell? ⟨g, 9, none⟩ = some (.int .i64 fle) := (by simp [World.cell?, hSw, go_sem]); have y10 : w9.cell? ⟨g, 10, none⟩ = some (.int .i64 fmo) := (by simp [World.cell?, hSw, go_sem]); have y11 : w9.cell? ⟨g, 11, none⟩ = some (.int .i64 td) := (by simp [World.cell?, hSw, go_sem]); have y12 : w9.cell? ⟨g, 12, none⟩ = some (.bool tm) := (by simp [World.cell?, hSw, go_sem]); go_simp <;> with_reducible rfl)
  try simp only [Act.put, List.setIfInBounds_toArray, List.set_cons_zero, List.set_cons_succ]
  refine wpAnyH_take (i := 4) (v := ?_) (by simp only [List.getElem?_toArray, List.getElem?_cons_zero, List.getElem?_cons_succ]; rfl) (by kernel_rfl) (by kernel_rfl) (by kernel_rfl) (by intro _ _ _ h; exact h) (Or.inl ⟨by rfl, ?_⟩) (by assumption) ?_
  rotate_left
  · (intro w9 hSw; (try dsimp only at hSw); go_simp <;> with_reducible rfl)
  try simp only [Act.put, List.setIfInBounds_toArray, List.set_cons_zero, List.set_cons_succ]
  refine wpAnyH_take (i := 5) (v := ?_) (by simp only [List.getElem?_toArray, List.getElem?_cons_zero, List.getElem?_cons_succ]; rfl) (by kernel_rfl) (by kernel_rfl) (by kernel_rfl) (by intro _ _ _ h; exact h) (Or.inl ⟨by rfl, ?_⟩) (by assumption) ?_
  rotate_left
  · (intro w9 hSw; (try dsimp only at hSw); go_simp <;> with_reducible rfl)
  try simp only [Act.put, List.setIfInBounds_toArray, List.set_cons_zero, List.set_cons_succ]
  refine wpAnyH_take (i := 6) (v := ?_) (by simp only [List.getElem?_toArray, List.getElem?_cons_zero, List.getElem?_cons_succ]; rfl) (by kernel_rfl) (by kernel_rfl) (by kernel_rfl) (by intro _ _ _ h; exact h) (Or.inl ⟨by rfl, ?_⟩) (by assumption) ?_
  rotate_left
  · (intro w9 hSw; (try dsimp only at hSw); go_simp <;> with_reducible rfl)
  try simp only [Act.put, List.setIfInBounds_toArray, List.set_cons_zero, List.set_cons_succ]
  refine wpAnyH_take (i := 7) (v := ?_) (by simp only [List.getElem?_toArray, List.getElem?_cons_zero, List.getElem?_cons_succ]; rfl) (by kernel_rfl) (by kernel_rfl) (by kernel_rfl) (by intro _ _ _ h; exact h) (Or.inl ⟨by rfl, ?_⟩) (by assumption) ?_
  rotate_left
  · (intro w9 hSw; (try dsimp only at hSw); have y0 : w9.cell? ⟨g, 0, none⟩ = some (.int .i64 ky) := (by simp [World.cell?, hSw, go_sem]); have y1 : w9.cell? ⟨g, 1, none⟩ = some (.int .i64 st) := (by simp [World.cell?, hSw, go_sem]); have y2 : w9.cell? ⟨g, 2, none⟩ = some (.int .i64 en) := (by simp [World.cell?, hSw, go_sem]); have y3 : w9.cell? ⟨g, 3, none⟩ = some (.int .i64 an) := (by simp [World.cell?, hSw, go_sem]); have y4 : w9.cell? ⟨g, 4, none⟩ = some (.int .i64 asu) := (by simp [World.cell?, hSw, go_sem]); have y5 : w9.cell? ⟨g, 5, none⟩ = some (.int .i64 ale) := (by simp [World.cell?, hSw, go_sem]); have y6 : w9.cell? ⟨g, 6, none⟩ = some (.int .i64 amo) := (by simp [World.cell?, hSw, go_sem]); have y7 : w9.cell? ⟨g, 7, none⟩ = some (.int .i64 fn) := (by simp [World.cell?, hSw, go_sem]); have y8 : w9.cell? ⟨g, 8, none⟩ = some (.int .i64 fsu) := (by simp [World.cell?, hSw, go_sem]); have y9 : w9.cell? ⟨g, 9, none⟩ = some (.int .i64 fle) := (by simp [World.cell?, hSw, go_sem]); have y10 : w9.cell? ⟨g, 10, none⟩ = some (.int .i64 fmo) := (by simp [World.cell?, hSw, go_sem]); have y11 : w9.cell? ⟨g, 11, none⟩ = some (.int .i64 td) := (by simp [World.cell?, hSw, go_sem]); have y12 : w9.cell? ⟨g, 12, none⟩ = some (.bool tm) := (by simp [World.cell?, hSw, go_sem]); go_simp <;> with_reducible rfl)
  try simp only [Act.put, List.setIfInBounds_toArray, List.set_cons_zero, List.set_cons_succ]
  refine wpAnyH_take (i := 8) (v := ?_) (by simp only [List.getElem?_toArray, List.getElem?_cons_zero, List.getElem?_cons_succ]; rfl) (by kernel_rfl) (by kernel_rfl) (by kernel_rfl) (by intro _ _ _ h; exact h) (Or.inl ⟨by rfl, ?_⟩) (by assumption) ?_
  rotate_left
  · (intro w9 hSw; (try dsimp only at hSw); go_simp <;> with_reducible rfl)
  try simp only [Act.put, List.setIfInBounds_toArray, List.set_cons_zero, List.set_cons_succ]
  refine wpAnyH_take (i := 9) (v := ?_) (by simp only [List.getElem?_toArray, List.getElem?_cons_zero, List.getElem?_cons_succ]; rfl) (by kernel_rfl) (by kernel_rfl) (by kernel_rfl) (by intro _ _ _ h; exact h) (Or.inl ⟨by rfl, ?_⟩) (by assumption) ?_
  rotate_left
  · (intro w9 hSw; (try dsimp only at hSw); go_simp <;> with_reducible rfl)
  try simp only [Act.put, List.setIfInBounds_toArray, List.set_cons_zero, List.set_cons_succ]
  refine wpAnyH_take (i := 10) (v := ?_) (by simp only [List.getElem?_toArray, List.getElem?_cons_zero, List.getElem?_cons_succ]; rfl) (by kernel_rfl) (by kernel_rfl) (by kernel_rfl) (by intro _ _ _ h; exact h) (Or.inl ⟨by rfl, ?_⟩) (by assumption) ?_
  rotate_left
  · (intro w9 hSw; (try dsimp only at hSw); go_simp <;> with_reducible rfl)
  try simp only [Act.put, List.setIfInBounds_toArray, List.set_cons_zero, List.set_cons_succ]
  refine wpAnyH_take (i := 11) (v := ?_) (by simp only [List.getElem?_toArray, List.getElem?_cons_zero, List.getElem?_cons_succ]; rfl) (by kernel_rfl) (by kernel_rfl) (by kernel_rfl) (by intro _ _ _ h; exact h) (Or.inl ⟨by rfl, ?_⟩) (by assumption) ?_
  rotate_left
  · (intro w9 hSw; (try dsimp only at hSw); have y0 : w9.cell? ⟨g, 0, none⟩ = some (.int .i64 ky) := (by simp [World.cell?, hSw, go_sem]); have y1 : w9.cell? ⟨g, 1, none⟩ = some (.int .i64 st) := (by simp [World.cell?, hSw, go_sem]); have y2 : w9.cell? ⟨g, 2, none⟩ = some (.int .i64 en) := (by simp [World.cell?, hSw, go_sem]); have y3 : w9.cell? ⟨g, 3, none⟩ = some (.int .i64 an) := (by simp [World.cell?, hSw, go_sem]); have y4 : w9.cell? ⟨g, 4, none⟩ = some (.int .i64 asu) := (by simp [World.cell?, hSw, go_sem]); have y5 : w9.cell? ⟨g, 5, none⟩ = some (.int .i64 ale) := (by simp [World.cell?, hSw, go_sem]); have y6 : w9.cell? ⟨g, 6, none⟩ = some (.int .i64 amo) := (by simp [World.cell?, hSw, go_sem]); have y7 : w9.cell? ⟨g, 7, none⟩ = some (.int .i64 fn) := (by simp [World.cell?, hSw, go_sem]); have y8 : w9.cell? ⟨g, 8, none⟩ = some (.int .i64 fsu) := (by simp [World.cell?, hSw, go_sem]); have y9 : w9.cell? ⟨g, 9, none⟩ = some (.int .i64 fle) := (by simp [World.cell?, hSw, go_sem]); have y10 : w9.cell? ⟨g, 10, none⟩ = some (.int .i64 fmo) := (by simp [World.cell?, hSw, go_sem]); have y11 : w9.cell? ⟨g, 11, none⟩ = some (.int .i64 td) := (by simp [World.cell?, hSw, go_sem]); have y12 : w9.cell? ⟨g, 12, none⟩ = some (.bool tm) := (by simp [World.cell?, hSw, go_sem]); go_simp <;> with_reducible rfl)
  try simp only [Act.put, List.setIfInBounds_toArray, List.set_cons_zero, List.set_cons_succ]
  refine wpAnyH_take (i := 12) (v := ?_) (by simp only [List.getElem?_toArray, List.getElem?_cons_zero, List.getElem?_cons_succ]; rfl) (by kernel_rfl) (by kernel_rfl) (by kernel_rfl) (by intro _ _ _ h; exact h) (Or.inl ⟨by rfl, ?_⟩) (by assumption) ?_
  rotate_left
  · (intro w9 hSw; (try dsimp only at hSw); go_simp <;> with_reducible rfl)
  try simp only [Act.put, List.setIfInBounds_toArray, List.set_cons_zero, List.set_cons_succ]
  refine wpAnyH_take (i := 13) (v := ?_) (by simp only [List.getElem?_toArray, List.getElem?_cons_zero, List.getElem?_cons_succ]; rfl) (by kernel_rfl) (by kernel_rfl) (by kernel_rfl) (by intro _ _ _ h; exact h) (Or.inl ⟨by rfl, ?_⟩) (by assumption) ?_
  rotate_left
  · (intro w9 hSw; (try dsimp only at hSw); go_simp <;> with_reducible rfl)
  try simp only [Act.put, List.setIfInBounds_toArray, List.set_cons_zero, List.set_cons_succ]
  refine wpAnyH_take (i := 14) (v := ?_) (by simp only [List.getElem?_toArray, List.getElem?_cons_zero, List.getElem?_cons_succ]; rfl) (by kernel_rfl) (by kernel_rfl) (by kernel_rfl) (by intro _ _ _ h; exact h) (Or.inl ⟨by rfl, ?_⟩) (by assumption) ?_
  rotate_left
  · (intro w9 hSw; (try dsimp only at hSw); go_simp <;> with_reducible rfl)
  try simp only [Act.put, List.setIfInBounds_toArray, List.set_cons_zero, List.set_cons_succ]
  refine wpAnyH_take (i := 15) (v := ?_) (by simp only [List.getElem?_toArray, List.getElem?_cons_zero, List.getElem?_cons_succ]; rfl) (by kernel_rfl) (by kernel_rfl) (by kernel_rfl) (by intro _ _ _ h; exact h) (Or.inl ⟨by rfl, ?_⟩) (by assumption) ?_
  rotate_left
  · (intro w9 hSw; (try dsimp only at hSw); have y0 : w9.cell? ⟨g, 0, none⟩ = some (.int .i64 ky) := (by simp [World.cell?, hSw, go_sem]); have y1 : w9.cell? ⟨g, 1, none⟩ = some (.int .i64 st) := (by simp [World.cell?, hSw, go_sem]); have y2 : w9.cell? ⟨g, 2, none⟩ = some (.int .i64 en) := (by simp [World.cell?, hSw, go_sem]); have y3 : w9.cell? ⟨g, 3, none⟩ = some (.int .i64 an) := (by simp [World.cell?, hSw, go_sem]); have y4 : w9.cell? ⟨g, 4, none⟩ = some (.int .i64 asu) := (by simp [World.cell?, hSw, go_sem]); have y5 : w9.cell? ⟨g, 5, none⟩ = some (.int .i64 ale) := (by simp [World.cell?, hSw, go_sem]); have y6 : w9.cell? ⟨g, 6, none⟩ = some (.int .i64 amo) := (by simp [World.cell?, hSw, go_sem]); have y7 : w9.cell? ⟨g, 7, none⟩ = some (.int .i64 fn) := (by simp [World.cell?, hSw, go_sem]); have y8 : w9.cell? ⟨g, 8, none⟩ = some (.int .i64 fsu) := (by simp [World.cell?, hSw, go_sem]); have y9 : w9.cell? ⟨g, 9, none⟩ = some (.int .i64 fle) := (by simp [World.cell?, hSw, go_sem]); have y10 : w9.cell? ⟨g, 10, none⟩ = some (.int .i64 fmo) := (by simp [World.cell?, hSw, go_sem]); have y11 : w9.cell? ⟨g, 11, none⟩ = some (.int .i64 td) := (by simp [World.cell?, hSw, go_sem]); have y12 : w9.cell? ⟨g, 12, none⟩ = some (.bool tm) := (by simp [World.cell?, hSw, go_sem]); go_simp <;> with_reducible rfl)
  try simp only [Act.put, List.setIfInBounds_toArray, List.set_cons_zero, List.set_cons_succ]
  refine wpAnyH_take (i := 16) (v := ?_) (by simp only [List.getElem?_toArray, List.getElem?_cons_zero, List.getElem?_cons_succ]; rfl) (by kernel_rfl) (by kernel_rfl) (by kernel_rfl) (by intro _ _ _ h; exact h) (Or.inl ⟨by rfl, ?_⟩) (by assumption) ?_
  rotate_left
  · (intro w9 hSw; (try dsimp only at hSw); go_simp <;> with_reducible rfl)
  try simp only [Act.put, List.setIfInBounds_toArray, List.set_cons_zero, List.set_cons_succ]
  refine wpAnyH_ready (rs := [17]) (by kernel_rfl) (by simp) ?_
  refine AllReadyH.cons (by simp only [List.getElem?_toArray, List.getElem?_cons_zero, List.getElem?_cons_succ]; rfl) (fun K hK => ?_) AllReadyH.nil
  go_simp
  refine hK.out _ _ ?_ (fun hHeld2 => ?_)
  · (try dsimp only); exact (Below.heap_alloc _ _ _ (by simp; omega)).trans ((Below.heap_alloc _ _ _ hg).trans h)
  clear hK K hHeld
  have hHeld := hHeld2
  clear hHeld2
  try simp only [Act.put, List.setIfInBounds_toArray, List.set_cons_zero, List.set_cons_succ]
  refine wpAnyH_ready (rs := [18]) (by kernel_rfl) (by simp) ?_
  refine AllReadyH.cons (by simp only [List.getElem?_toArray, List.getElem?_cons_zero, List.getElem?_cons_succ]; rfl) (fun K hK => ?_) AllReadyH.nil
  go_simp
  refine hK.out _ _ ?_ (fun hHeld2 => ?_)
  · (try dsimp only); exact (Below.heap_alloc _ _ _ (by simp; omega)).trans ((Below.heap_alloc _ _ _ hg).trans h)
  clear hK K hHeld
  have hHeld := hHeld2
  clear hHeld2
  try simp only [Act.put, List.setIfInBounds_toArray, List.set_cons_zero, List.set_cons_succ]
  refine wpAnyH_done (by kernel_rfl) ?_ _
  have hbA : Below w.heap.size w ((w.alloc (.cells #[.int .i64 0, .int .i64 0, .int .i64 0, .int .i64 0, .int .i64 0, .int .i64 0, .int .i64 0, .int .i64 0, .int .i64 0] 62)).alloc (.cells #[.int .i64 ky, .int .i64 st, .int .i64 en, .int .i64 td, .int .i64 1, .int .i64 an, .int .i64 asu, .int .i64 ale, .int .i64 amo] 62)).drew := bel_drew (bel_alloc (bel_one _ _) _)
  have hgA : ((w.alloc (.cells #[.int .i64 0, .int .i64 0, .int .i64 0, .int .i64 0, .int .i64 0, .int .i64 0, .int .i64 0, .int .i64 0, .int .i64 0] 62)).alloc (.cells #[.int .i64 ky, .int .i64 st, .int .i64 en, .int .i64 td, .int .i64 1, .int .i64 an, .int .i64 asu, .int .i64 ale, .int .i64 amo] 62)).drew.heap[g]? = some (.cells #[.int .i64 ky, .int .i64 st, .int .i64 en, .int .i64 an, .int .i64 asu, .int .i64 ale, .int .i64 amo, .int .i64 fn, .int .i64 fsu, .int .i64 fle, .int .i64 fmo, .int .i64 td, .bool tm] 66 (0, 0)) := (Below.heap_alloc _ _ _ (by simp; omega)).trans ((Below.heap_alloc _ _ _ hg).trans h)
  have hqA : ((w.alloc (.cells #[.int .i64 0, .int .i64 0, .int .i64 0, .int .i64 0, .int .i64 0, .int .i64 0, .int .i64 0, .int .i64 0, .int .i64 0] 62)).alloc (.cells #[.int .i64 ky, .int .i64 st, .int .i64 en, .int .i64 td, .int .i64 1, .int .i64 an, .int .i64 asu, .int .i64 ale, .int .i64 amo] 62)).drew.heap[w.heap.size + 1]? = some (.cells #[.int .i64 ky, .int .i64 st, .int .i64 en, .int .i64 td, .int .i64 1, .int .i64 an, .int .i64 asu, .int .i64 ale, .int .i64 amo] 62 (0, 0)) := by
    have h9 := World.alloc_heap_new (w.alloc (.cells #[.int .i64 0, .int .i64 0, .int .i64 0, .int .i64 0, .int .i64 0, .int .i64 0, .int .i64 0, .int .i64 0, .int .i64 0] 62)) (.cells #[.int .i64 ky, .int .i64 st, .int .i64 en, .int .i64 td, .int .i64 1, .int .i64 an, .int .i64 asu, .int .i64 ale, .int .i64 amo] 62)
    have e9 : (w.alloc (.cells #[.int .i64 0, .int .i64 0, .int .i64 0, .int .i64 0, .int .i64 0, .int .i64 0, .int .i64 0, .int .i64 0, .int .i64 0] 62)).heap.size = w.heap.size + 1 := by simp
    rw [e9] at h9
    exact h9
  have hrA : ((w.alloc (.cells #[.int .i64 0, .int .i64 0, .int .i64 0, .int .i64 0, .int .i64 0, .int .i64 0, .int .i64 0, .int .i64 0, .int .i64 0] 62)).alloc (.cells #[.int .i64 ky, .int .i64 st, .int .i64 en, .int .i64 td, .int .i64 1, .int .i64 an, .int .i64 asu, .int .i64 ale, .int .i64 amo] 62)).drew.heap[w.heap.size]? = some (.cells #[.int .i64 0, .int .i64 0, .int .i64 0, .int .i64 0, .int .i64 0, .int .i64 0, .int .i64 0, .int .i64 0, .int .i64 0] 62 (0, 0)) := (Below.heap_alloc _ _ _ (by simp)).trans (World.alloc_heap_new w _)
  clear hHeld
  generalize ((w.alloc (.cells #[.int .i64 0, .int .i64 0, .int .i64 0, .int .i64 0, .int .i64 0, .int .i64 0, .int .i64 0, .int .i64 0, .int .i64 0] 62)).alloc (.cells #[.int .i64 ky, .int .i64 st, .int .i64 en, .int .i64 td, .int .i64 1, .int .i64 an, .int .i64 asu, .int .i64 ale, .int .i64 amo] 62)).drew = wA at hbA hgA hqA hrA ⊢
  have hgs : g < wA.heap.size := (Array.getElem?_eq_some_iff.1 hgA).1
  have hqs : w.heap.size + 1 < wA.heap.size := (Array.getElem?_eq_some_iff.1 hqA).1
  have a0 := Joins.cell_of_block hgA 0
  have a1 := Joins.cell_of_block hgA 1
  have a2 := Joins.cell_of_block hgA 2
  have a3 := Joins.cell_of_block hgA 3
  have a4 := Joins.cell_of_block hgA 4
  have a5 := Joins.cell_of_block hgA 5
  have a6 := Joins.cell_of_block hgA 6
  have a7 := Joins.cell_of_block hgA 7
  have a8 := Joins.cell_of_block hgA 8
  have a9 := Joins.cell_of_block hgA 9
  have a10 := Joins.cell_of_block hgA 10
  have a11 := Joins.cell_of_block hgA 11
  have a12 := Joins.cell_of_block hgA 12
  have q0 := Joins.cell_of_block hqA 0
  have q1 := Joins.cell_of_block hqA 1
  have q2 := Joins.cell_of_block hqA 2
  have q3 := Joins.cell_of_block hqA 3
  have q4 := Joins.cell_of_block hqA 4
  have q5 := Joins.cell_of_block hqA 5
  have q6 := Joins.cell_of_block hqA 6
  have q7 := Joins.cell_of_block hqA 7
  have q8 := Joins.cell_of_block hqA 8
  have r0 := Joins.cell_of_block hrA 0
  have r1 := Joins.cell_of_block hrA 1
  have r2 := Joins.cell_of_block hrA 2
  have r3 := Joins.cell_of_block hrA 3
  have r4 := Joins.cell_of_block hrA 4
  have r5 := Joins.cell_of_block hrA 5
  have r6 := Joins.cell_of_block hrA 6
  have r7 := Joins.cell_of_block hrA 7
  have r8 := Joins.cell_of_block hrA 8
  simp only [List.getElem?_toArray, List.getElem?_cons_zero, List.getElem?_cons_succ] at a0 a1 a2 a3 a4 a5 a6 a7 a8 a9 a10 a11 a12 q0 q1 q2 q3 q4 q5 q6 q7 q8 r0 r1 r2 r3 r4 r5 r6 r7 r8
  have fg : ∀ j, wA.frozen? ⟨g, j, none⟩ = false := fun j => by simp [World.frozen?, hgA]
  have fq : ∀ j, wA.frozen? ⟨w.heap.size + 1, j, none⟩ = false := fun j => by simp [World.frozen?, hqA]
  have fr : ∀ j, wA.frozen? ⟨w.heap.size, j, none⟩ = false := fun j => by simp [World.frozen?, hrA]
  have fg7 := fg 7
  have fg8 := fg 8
  have fg9 := fg 9
  have fg10 := fg 10
  have fg11 := fg 11
  have fg12 := fg 12
  have fq4 := fq 4
  have fq5 := fq 5
  have fq6 := fq 6
  have fq7 := fq 7
  have fq8 := fq 8
  have fr0 := fr 0
  have fr1 := fr 1
  have fr2 := fr 2
  have fr3 := fr 3
  have fr4 := fr 4
  have fr5 := fr 5
  have fr6 := fr 6
  have fr7 := fr 7
  have fr8 := fr 8
  have hwr : IntKind.i64.wrap (td + 1) = td + 1 := IntWalk.i64_in _ ⟨by omega, by omega⟩
  clear fg fq fr h
  have ng1 : g ≠ w.heap.size := by omega
  have ng2 : g ≠ w.heap.size + 1 := by omega
  cases tm <;> cases pc
  · skip
    go_wp2
    refine bodyPost_ret (v := .agg #[.int .i64 ky, .int .i64 st, .int .i64 en, .int .i64 td, .int .i64 1, .int .i64 an, .int .i64 asu, .int .i64 ale, .int .i64 amo]) (by simp (maxDischargeDepth := 9) [results, Try.results59, go_sem, *]) rfl ⟨rfl, ?_, ?_⟩
    · exact ((Below.heap_setCell _ _ _ _ (by simp; omega)).trans ((Below.heap_setCell _ _ _ _ (by simp; omega)).trans ((Below.heap_setCell _ _ _ _ (by simp; omega)).trans ((Below.heap_setCell _ _ _ _ (by simp; omega)).trans ((Below.heap_setCell _ _ _ _ (by simp; omega)).trans ((Below.heap_setCell _ _ _ _ (by simp; omega)).trans ((Below.heap_setCell _ _ _ _ (by simp; omega)).trans ((Below.heap_setCell _ _ _ _ (by simp; omega)).trans ((Below.heap_setCell _ _ _ _ (by simp; omega)).trans (Joins.block_setCell (Joins.block_setCell (Joins.block_setCell (Joins.block_setCell (Joins.block_setCell (Joins.block_setCell hgA _) _) _) _) _) _))))))))))
    · exact (gb_set (gb_set (gb_set (gb_set (gb_set (gb_set (gb_set (gb_set (gb_set (gb_set (gb_set (gb_set (gb_set (gb_set (gb_set (gb_bel hbA) (by first | exact Or.inl rfl | exact Or.inr (by simp)) _) (by first | exact Or.inl rfl | exact Or.inr (by simp)) _) (by first | exact Or.inl rfl | exact Or.inr (by simp)) _) (by first | exact Or.inl rfl | exact Or.inr (by simp)) _) (by first | exact Or.inl rfl | exact Or.inr (by simp)) _) (by first | exact Or.inl rfl | exact Or.inr (by simp)) _) (by first | exact Or.inl rfl | exact Or.inr (by simp)) _) (by first | exact Or.inl rfl | exact Or.inr (by simp)) _) (by first | exact Or.inl rfl | exact Or.inr (by simp)) _) (by first | exact Or.inl rfl | exact Or.inr (by simp)) _) (by first | exact Or.inl rfl | exact Or.inr (by simp)) _) (by first | exact Or.inl rfl | exact Or.inr (by simp)) _) (by first | exact Or.inl rfl | exact Or.inr (by simp)) _) (by first | exact Or.inl rfl | exact Or.inr (by simp)) _) (by first | exact Or.inl rfl | exact Or.inr (by simp)) _)
  · skip
    go_wp2
    refine bodyPost_ret (v := .agg #[.int .i64 ky, .int .i64 st, .int .i64 en, .int .i64 td, .int .i64 1, .int .i64 fn, .int .i64 fsu, .int .i64 fle, .int .i64 fmo]) (by simp (maxDischargeDepth := 9) [results, Try.results59, go_sem, *]) rfl ⟨rfl, ?_, ?_⟩
    · exact ((Below.heap_setCell _ _ _ _ (by simp; omega)).trans ((Below.heap_setCell _ _ _ _ (by simp; omega)).trans ((Below.heap_setCell _ _ _ _ (by simp; omega)).trans ((Below.heap_setCell _ _ _ _ (by simp; omega)).trans ((Below.heap_setCell _ _ _ _ (by simp; omega)).trans ((Below.heap_setCell _ _ _ _ (by simp; omega)).trans ((Below.heap_setCell _ _ _ _ (by simp; omega)).trans ((Below.heap_setCell _ _ _ _ (by simp; omega)).trans ((Below.heap_setCell _ _ _ _ (by simp; omega)).trans (Joins.block_setCell (Joins.block_setCell (Joins.block_setCell (Joins.block_setCell (Joins.block_setCell (Joins.block_setCell ((Below.heap_setCell _ _ _ _ (by simp; omega)).trans ((Below.heap_setCell _ _ _ _ (by simp; omega)).trans ((Below.heap_setCell _ _ _ _ (by simp; omega)).trans ((Below.heap_setCell _ _ _ _ (by simp; omega)).trans hgA)))) _) _) _) _) _) _))))))))))
    · exact (gb_set (gb_set (gb_set (gb_set (gb_set (gb_set (gb_set (gb_set (gb_set (gb_set (gb_set (gb_set (gb_set (gb_set (gb_set (gb_set (gb_set (gb_set (gb_set (gb_bel hbA) (by first | exact Or.inl rfl | exact Or.inr (by simp)) _) (by first | exact Or.inl rfl | exact Or.inr (by simp)) _) (by first | exact Or.inl rfl | exact Or.inr (by simp)) _) (by first | exact Or.inl rfl | exact Or.inr (by simp)) _) (by first | exact Or.inl rfl | exact Or.inr (by simp)) _) (by first | exact Or.inl rfl | exact Or.inr (by simp)) _) (by first | exact Or.inl rfl | exact Or.inr (by simp)) _) (by first | exact Or.inl rfl | exact Or.inr (by simp)) _) (by first | exact Or.inl rfl | exact Or.inr (by simp)) _) (by first | exact Or.inl rfl | exact Or.inr (by simp)) _) (by first | exact Or.inl rfl | exact Or.inr (by simp)) _) (by first | exact Or.inl rfl | exact Or.inr (by simp)) _) (by first | exact Or.inl rfl | exact Or.inr (by simp)) _) (by first | exact Or.inl rfl | exact Or.inr (by simp)) _) (by first | exact Or.inl rfl | exact Or.inr (by simp)) _) (by first | exact Or.inl rfl | exact Or.inr (by simp)) _) (by first | exact Or.inl rfl | exact Or.inr (by simp)) _) (by first | exact Or.inl rfl | exact Or.inr (by simp)) _) (by first | exact Or.inl rfl | exact Or.inr (by simp)) _)
  · skip
    go_wp2
    refine bodyPost_ret (v := .agg #[.int .i64 ky, .int .i64 st, .int .i64 en, .int .i64 td, .int .i64 2, .int .i64 an, .int .i64 asu, .int .i64 ale, .int .i64 amo]) (by simp (maxDischargeDepth := 9) [results, Try.results59, go_sem, *]) rfl ⟨rfl, ?_, ?_⟩
    · exact ((Below.heap_setCell _ _ _ _ (by simp; omega)).trans ((Below.heap_setCell _ _ _ _ (by simp; omega)).trans ((Below.heap_setCell _ _ _ _ (by simp; omega)).trans ((Below.heap_setCell _ _ _ _ (by simp; omega)).trans ((Below.heap_setCell _ _ _ _ (by simp; omega)).trans ((Below.heap_setCell _ _ _ _ (by simp; omega)).trans ((Below.heap_setCell _ _ _ _ (by simp; omega)).trans ((Below.heap_setCell _ _ _ _ (by simp; omega)).trans ((Below.heap_setCell _ _ _ _ (by simp; omega)).trans (Joins.block_setCell (Joins.block_setCell (Joins.block_setCell (Joins.block_setCell (Joins.block_setCell (Joins.block_setCell ((Below.heap_setCell _ _ _ _ (by simp; omega)).trans hgA) _) _) _) _) _) _))))))))))
    · exact (gb_set (gb_set (gb_set (gb_set (gb_set (gb_set (gb_set (gb_set (gb_set (gb_set (gb_set (gb_set (gb_set (gb_set (gb_set (gb_set (gb_bel hbA) (by first | exact Or.inl rfl | exact Or.inr (by simp)) _) (by first | exact Or.inl rfl | exact Or.inr (by simp)) _) (by first | exact Or.inl rfl | exact Or.inr (by simp)) _) (by first | exact Or.inl rfl | exact Or.inr (by simp)) _) (by first | exact Or.inl rfl | exact Or.inr (by simp)) _) (by first | exact Or.inl rfl | exact Or.inr (by simp)) _) (by first | exact Or.inl rfl | exact Or.inr (by simp)) _) (by first | exact Or.inl rfl | exact Or.inr (by simp)) _) (by first | exact Or.inl rfl | exact Or.inr (by simp)) _) (by first | exact Or.inl rfl | exact Or.inr (by simp)) _) (by first | exact Or.inl rfl | exact Or.inr (by simp)) _) (by first | exact Or.inl rfl | exact Or.inr (by simp)) _) (by first | exact Or.inl rfl | exact Or.inr (by simp)) _) (by first | exact Or.inl rfl | exact Or.inr (by simp)) _) (by first | exact Or.inl rfl | exact Or.inr (by simp)) _) (by first | exact Or.inl rfl | exact Or.inr (by simp)) _)
  · skip
    go_wp2
    refine bodyPost_ret (v := .agg #[.int .i64 ky, .int .i64 st, .int .i64 en, .int .i64 td, .int .i64 2, .int .i64 fn, .int .i64 fsu, .int .i64 fle, .int .i64 fmo]) (by simp (maxDischargeDepth := 9) [results, Try.results59, go_sem, *]) rfl ⟨rfl, ?_, ?_⟩
    · exact ((Below.heap_setCell _ _ _ _ (by simp; omega)).trans ((Below.heap_setCell _ _ _ _ (by simp; omega)).trans ((Below.heap_setCell _ _ _ _ (by simp; omega)).trans ((Below.heap_setCell _ _ _ _ (by simp; omega)).trans ((Below.heap_setCell _ _ _ _ (by simp; omega)).trans ((Below.heap_setCell _ _ _ _ (by simp; omega)).trans ((Below.heap_setCell _ _ _ _ (by simp; omega)).trans ((Below.heap_setCell _ _ _ _ (by simp; omega)).trans ((Below.heap_setCell _ _ _ _ (by simp; omega)).trans (Joins.block_setCell (Joins.block_setCell (Joins.block_setCell (Joins.block_setCell (Joins.block_setCell (Joins.block_setCell ((Below.heap_setCell _ _ _ _ (by simp; omega)).trans ((Below.heap_setCell _ _ _ _ (by simp; omega)).trans ((Below.heap_setCell _ _ _ _ (by simp; omega)).trans ((Below.heap_setCell _ _ _ _ (by simp; omega)).trans ((Below.heap_setCell _ _ _ _ (by simp; omega)).trans hgA))))) _) _) _) _) _) _))))))))))
    · exact (gb_set (gb_set (gb_set (gb_set (gb_set (gb_set (gb_set (gb_set (gb_set (gb_set (gb_set (gb_set (gb_set (gb_set (gb_set (gb_set (gb_set (gb_set (gb_set (gb_set (gb_bel hbA) (by first | exact Or.inl rfl | exact Or.inr (by simp)) _) (by first | exact Or.inl rfl | exact Or.inr (by simp)) _) (by first | exact Or.inl rfl | exact Or.inr (by simp)) _) (by first | exact Or.inl rfl | exact Or.inr (by simp)) _) (by first | exact Or.inl rfl | exact Or.inr (by simp)) _) (by first | exact Or.inl rfl | exact Or.inr (by simp)) _) (by first | exact Or.inl rfl | exact Or.inr (by simp)) _) (by first | exact Or.inl rfl | exact Or.inr (by simp)) _) (by first | exact Or.inl rfl | exact Or.inr (by simp)) _) (by first | exact Or.inl rfl | exact Or.inr (by simp)) _) (by first | exact Or.inl rfl | exact Or.inr (by simp)) _) (by first | exact Or.inl rfl | exact Or.inr (by simp)) _) (by first | exact Or.inl rfl | exact Or.inr (by simp)) _) (by first | exact Or.inl rfl | exact Or.inr (by simp)) _) (by first | exact Or.inl rfl | exact Or.inr (by simp)) _) (by first | exact Or.inl rfl | exact Or.inr (by simp)) _) (by first | exact Or.inl rfl | exact Or.inr (by simp)) _) (by first | exact Or.inl rfl | exact Or.inr (by simp)) _) (by first | exact Or.inl rfl | exact Or.inr (by simp)) _) (by first | exact Or.inl rfl | exact Or.inr (by simp)) _)
end Go.Proofs.Ytflignpbboiahaa
