/- Laid together: what the claim needs of the texts that were built one by one. -/
import Derived.Test.YtabphkmhafflbaaPkCkpC2
import Derived.Test.YtabphkmhafflbaaPkCkpQ
import Derived.Deep.RegionHeld3
import Derived.Test.YtabphkmhafflbaaPkBase
namespace Go.Proofs.Ytabphkmhafflbaa
open Go.ChangeShapes Go.WideShapes Go.ChangeAt Go.RowKit Go.Deep
set_option linter.unusedVariables false

set_option linter.unusedSimpArgs false in
set_option maxRecDepth 20000 in
set_option maxHeartbeats 4000000 in
theorem implsnap_any (ma : Int) (a1 : Option Addr) (l1 c1 : Nat) (a2 : Option Addr) (l2 c2 : Nat) (rows : List OrR) (marks : List Int) (w : World) (h1 : OrRs w a1 l1 rows) (h2 : InRs w a2 l2 marks) (hl1 : l1 ≤ 1048576) (hl2 : l2 ≤ 1048576) : Calls Try.prog 52 #[.agg #[.int .i64 ma, .slice a1 l1 c1, .slice a2 l2 c2]] w fun e w' => ∃ v1 v2, e = .returned (.agg #[.int .i64 ma, v1, v2]) ∧ w'.ownsRow w.heap.size 82 13 v1 l1 (flatOr rows) ∧ w'.ownsRow w.heap.size 3 1 v2 l2 (marks.map fun z => .int .i64 z) ∧ Below w.heap.size w w' := by
  have hbz : Below w.heap.size w ((w.alloc (.cells #[.int .i64 ma, .slice a1 l1 c1, .slice a2 l2 c2] 48)).alloc (.cells #[.int .i64 0, .slice none 0 0, .slice none 0 0] 48)) := bel_alloc (bel_one _ _) _
  have h1' : OrRs ((w.alloc (.cells #[.int .i64 ma, .slice a1 l1 c1, .slice a2 l2 c2] 48)).alloc (.cells #[.int .i64 0, .slice none 0 0, .slice none 0 0] 48)).drew a1 l1 rows := h1.below (bel_trans hbz (bel_drew (Below.refl _ _)))
  have hX0 : ((w.alloc (.cells #[.int .i64 ma, .slice a1 l1 c1, .slice a2 l2 c2] 48)).alloc (.cells #[.int .i64 0, .slice none 0 0, .slice none 0 0] 48)).drew.heap[w.heap.size + 1]? = some (.cells #[.int .i64 0, .slice none 0 0, .slice none 0 0] 48 (0, 0)) := blk_new (by simp)
  go_enter Try.func52, Try.ntmps52
  go_wp2_with fail
  refine wp_region_held_drew (S := (fun W => W.cell? ⟨w.heap.size, 0, none⟩ = some (.int .i64 ma) ∧ W.cell? ⟨w.heap.size, 1, none⟩ = some (.slice a1 l1 c1) ∧ W.cell? ⟨w.heap.size, 2, none⟩ = some (.slice a2 l2 c2))) (by kernel_rfl) ?_ (fun hHeld => ?_)
  · (try dsimp only); exact ⟨by first | (with_reducible assumption) | (simp [go_sem, *]; done), by first | (with_reducible assumption) | (simp [go_sem, *]; done), by first | (with_reducible assumption) | (simp [go_sem, *]; done)⟩
  refine kT 0 ?_ ?_ ?_
  rotate_left
  · (intro w9 hSw; (try dsimp only at hSw); go_simp <;> with_reducible rfl)
  try simp only [Act.put, tA, tZ, tS]
  refine kT 1 ?_ ?_ ?_
  rotate_left
  · (intro w9 hSw; (try dsimp only at hSw); go_simp <;> with_reducible rfl)
  try simp only [Act.put, tA, tZ, tS]
  refine kT 2 ?_ ?_ ?_
  rotate_left
  · (intro w9 hSw; (try dsimp only at hSw); go_simp <;> with_reducible rfl)
  try simp only [Act.put, tA, tZ, tS]
  refine kT 3 ?_ ?_ ?_
  rotate_left
  · (intro w9 hSw; (try dsimp only at hSw); go_simp <;> with_reducible rfl)
  try simp only [Act.put, tA, tZ, tS]
  refine kT 4 ?_ ?_ ?_
  rotate_left
  · (intro w9 hSw; (try dsimp only at hSw); go_simp <;> with_reducible rfl)
  try simp only [Act.put, tA, tZ, tS]
  refine kT 5 ?_ ?_ ?_
  rotate_left
  · (intro w9 hSw; (try dsimp only at hSw); go_simp <;> with_reducible rfl)
  try simp only [Act.put, tA, tZ, tS]
  refine kT 8 ?_ ?_ ?_
  rotate_left
  · (intro w9 hSw; (try dsimp only at hSw); go_simp <;> with_reducible rfl)
  try simp only [Act.put, tA, tZ, tS]
  refine kT 9 ?_ ?_ ?_
  rotate_left
  · (intro w9 hSw; (try dsimp only at hSw); go_simp <;> with_reducible rfl)
  try simp only [Act.put, tA, tZ, tS]
  refine wpAnyH_ready (rs := [6]) (by kernel_rfl) (by simp) ?_
  refine AllReadyH.cons (by simp only [gA, gZ, gS]; rfl) (fun K hK => ?_) AllReadyH.nil
  go_simp
  (go_at_call 57; refine (cloneOrC_any a1 l1 c1 rows ((w.alloc (.cells #[.int .i64 ma, .slice a1 l1 c1, .slice a2 l2 c2] 48)).alloc (.cells #[.int .i64 0, .slice none 0 0, .slice none 0 0] 48)).drew h1' hl1).mono ?_; rintro e' wa ⟨v1, rfl, o1, hba⟩; obtain ⟨v1a, v1c, rfl⟩ := sliceC o1; have zwa : w.heap.size + 1 < wa.heap.size := (by have h9 := hba.size; (try simp at h9); omega); have wap0 : wa.cell? ⟨w.heap.size, 0, none⟩ = some (.int .i64 ma) := (hba.cell (p := ⟨w.heap.size, 0, none⟩) (sC)).trans (by simp [go_sem]); have wap1 : wa.cell? ⟨w.heap.size, 1, none⟩ = some (.slice a1 l1 c1) := (hba.cell (p := ⟨w.heap.size, 1, none⟩) (sC)).trans (by simp [go_sem]); have wap2 : wa.cell? ⟨w.heap.size, 2, none⟩ = some (.slice a2 l2 c2) := (hba.cell (p := ⟨w.heap.size, 2, none⟩) (sC)).trans (by simp [go_sem]); have waX := (hba.block (w.heap.size + 1) (sC)).trans hX0; have Ho1 := hide o1; clear o1)
  (try go_wp2_with fail)
  refine hK.out _ _ ?_ (fun hHeld2 => ?_)
  · (try dsimp only); exact ⟨by first | (with_reducible assumption) | (simp [go_sem, *]; done), by first | (with_reducible assumption) | (simp [go_sem, *]; done), by first | (with_reducible assumption) | (simp [go_sem, *]; done)⟩
  clear hK K hHeld
  have hHeld := hHeld2
  clear hHeld2
  try simp only [Act.put, tA, tZ, tS]
  refine kT 7 ?_ ?_ ?_
  rotate_left
  · (intro w9 hSw; (try dsimp only at hSw); go_simp <;> with_reducible rfl)
  try simp only [Act.put, tA, tZ, tS]
  refine wpAnyH_ready (rs := [10]) (by kernel_rfl) (by simp) ?_
  refine AllReadyH.cons (by simp only [gA, gZ, gS]; rfl) (fun K hK => ?_) AllReadyH.nil
  go_simp
  (go_at_call 43; have h2' := h2.below (bel_trans hbz (bel_trans (bel_drew (Below.refl _ _)) hba)); refine (cloneIn_any a2 l2 c2 marks wa h2' hl2).mono ?_; rintro e' wb ⟨v2, rfl, o2, hbb⟩; obtain ⟨v2a, v2c, rfl⟩ := sliceC o2; have zwb : w.heap.size + 1 < wb.heap.size := (by have h9 := hbb.size; (try simp at h9); omega); have wbp0 : wb.cell? ⟨w.heap.size, 0, none⟩ = some (.int .i64 ma) := (hbb.cell (p := ⟨w.heap.size, 0, none⟩) (sC)).trans wap0; have wbp1 : wb.cell? ⟨w.heap.size, 1, none⟩ = some (.slice a1 l1 c1) := (hbb.cell (p := ⟨w.heap.size, 1, none⟩) (sC)).trans wap1; have wbp2 : wb.cell? ⟨w.heap.size, 2, none⟩ = some (.slice a2 l2 c2) := (hbb.cell (p := ⟨w.heap.size, 2, none⟩) (sC)).trans wap2; have wbX := (hbb.block (w.heap.size + 1) (sC)).trans waX; have Ho2 := hide o2; clear o2)
  (try go_wp2_with fail)
  refine hK.out _ _ ?_ (fun hHeld2 => ?_)
  · (try dsimp only); exact ⟨by first | (with_reducible assumption) | (simp [go_sem, *]; done), by first | (with_reducible assumption) | (simp [go_sem, *]; done), by first | (with_reducible assumption) | (simp [go_sem, *]; done)⟩
  clear hK K hHeld
  have hHeld := hHeld2
  clear hHeld2
  try simp only [Act.put, tA, tZ, tS]
  refine kT 11 ?_ ?_ ?_
  rotate_left
  · (intro w9 hSw; (try dsimp only at hSw); go_simp <;> with_reducible rfl)
  try simp only [Act.put, tA, tZ, tS]
  have r0 : wb.cell? ⟨w.heap.size + 1, 0, none⟩ = some (.int .i64 0) := by simp [World.cell?, wbX, go_sem]
  have r1 : wb.cell? ⟨w.heap.size + 1, 1, none⟩ = some (.slice none 0 0) := by simp [World.cell?, wbX, go_sem]
  have r2 : wb.cell? ⟨w.heap.size + 1, 2, none⟩ = some (.slice none 0 0) := by simp [World.cell?, wbX, go_sem]
  have f0 : wb.frozen? ⟨w.heap.size + 1, 0, none⟩ = false := by simp [World.frozen?, wbX, go_sem]
  have f1 : wb.frozen? ⟨w.heap.size + 1, 1, none⟩ = false := by simp [World.frozen?, wbX, go_sem]
  have f2 : wb.frozen? ⟨w.heap.size + 1, 2, none⟩ = false := by simp [World.frozen?, wbX, go_sem]
  refine wpAnyH_ready (rs := [12]) (by kernel_rfl) (by simp) ?_
  refine AllReadyH.cons (by simp only [gA, gZ, gS]; rfl) (fun K hK => ?_) AllReadyH.nil
  go_simp
  refine hK.out _ _ ?_ (fun hHeld2 => ?_)
  · (try dsimp only); exact ⟨by first | (with_reducible assumption) | (simp [go_sem, *]; done), by first | (with_reducible assumption) | (simp [go_sem, *]; done), by first | (with_reducible assumption) | (simp [go_sem, *]; done)⟩
  clear hK K hHeld
  have hHeld := hHeld2
  clear hHeld2
  try simp only [Act.put, tA, tZ, tS]
  refine wpAnyH_done (by kernel_rfl) ?_ _
  go_wp2
  refine bodyPost_ret (v := .agg #[.int .i64 ma, .slice v1a l1 v1c, .slice v2a l2 v2c]) (by simp (maxDischargeDepth := 9) [results, Try.results52, go_sem, *]) rfl ⟨_, _, rfl, ?_, ?_, ?_⟩
  · have g1 := own_upB (unhide Ho1) (fun b hv => hbb.block b (World.ownsRow.lt (unhide Ho1) b hv).2)
    refine World.ownsRow.mono (base := ((w.alloc (.cells #[.int .i64 ma, .slice a1 l1 c1, .slice a2 l2 c2] 48)).alloc (.cells #[.int .i64 0, .slice none 0 0, .slice none 0 0] 48)).drew.heap.size) ?_ (by simp; omega)
    repeat (first | (with_reducible exact g1) | (with_reducible refine own_setC ?_ (by simp)))
  · refine World.ownsRow.mono (base := wa.heap.size) ?_ (by omega)
    repeat (first | (with_reducible exact unhide Ho2) | (with_reducible refine own_setC ?_ (by simp; omega)))
  · have hF : Below w.heap.size w wb := bel_trans hbz (bel_trans (bel_drew (Below.refl _ _)) (bel_trans hba hbb))
    exact bel_set (bel_set (bel_set hF (by simp) _) (by simp) _) (by simp) _
end Go.Proofs.Ytabphkmhafflbaa
