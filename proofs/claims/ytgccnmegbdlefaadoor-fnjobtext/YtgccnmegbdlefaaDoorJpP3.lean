/- Proved here: JobParse, in the program. -/
import Derived.Test.YtgccnmegbdlefaaDoorJpP2
import Derived.Test.YtgccnmegbdlefaaDoorJpE2
namespace Go.Proofs.YtgccnmegbdlefaaDoor
open Go.ChangeShapes Go.WideShapes Go.ChangeAt Go.RowKit
set_option linter.unusedVariables false
set_option linter.unusedSimpArgs false

set_option maxRecDepth 20000 in
set_option maxHeartbeats 8000000 in
theorem impljobparse_any {tp1 tp2 : TypeId} {p1 p2 : Value} (a : Option Addr) (len cap : Nat) (L : List ByteArray) (w : World) (h : StRs w a len (stL L)) (hs : ∀ x ∈ L, x.size ≤ 1048576) (hl : len ≤ 1048576) (hE : EnvJ tp1 tp2 p1 p2 w) : Calls Tryd.prog 9 #[.slice a len cap] w fun e w' => JpP L w e w' := by
  go_enter Tryd.func9, Tryd.ntmps9
  go_wp2_with fail
  refine (readjob_any a len cap L _ (h.below (bel_one w _)) hs hl (hE.bel (bel_one w _))).mono ?_
  rintro e5 w5 ⟨s, t, k, z, p, l, e2, b, v, r, c, he, hJ, hb5⟩
  have HJ := hide hJ
  clear hJ hs h
  have hbZ : Below (w.alloc (.cells #[.int .i64 0, .int .i64 0, .int .i64 0, .int .i64 0, .int .i64 0, .int .i64 0, .int .i64 0, .bool false, .int .i64 0, .int .i64 0] 24)).heap.size (w.alloc (.cells #[.int .i64 0, .int .i64 0, .int .i64 0, .int .i64 0, .int .i64 0, .int .i64 0, .int .i64 0, .bool false, .int .i64 0, .int .i64 0] 24)) w5 := hb5
  have hz5 := hbZ.size
  simp at hz5
  have hl6 : w.heap.size < w5.heap.size := by omega
  have hl7 : ¬ w.heap.size = w5.heap.size := by omega
  rcases he with ⟨rfl, rfl⟩ | ⟨hc, rfl⟩
  · clear hb5
    have c0 : w5.cell? ⟨w.heap.size, 0, none⟩ = some (.int .i64 0) := (hbZ.cell (p := ⟨w.heap.size, 0, none⟩) (by simp)).trans (by simp [go_sem])
    have f0 : w5.frozen? ⟨w.heap.size, 0, none⟩ = false := (hbZ.frozen (p := ⟨w.heap.size, 0, none⟩) (by simp)).trans (by simp [go_sem])
    have c1 : w5.cell? ⟨w.heap.size, 1, none⟩ = some (.int .i64 0) := (hbZ.cell (p := ⟨w.heap.size, 1, none⟩) (by simp)).trans (by simp [go_sem])
    have f1 : w5.frozen? ⟨w.heap.size, 1, none⟩ = false := (hbZ.frozen (p := ⟨w.heap.size, 1, none⟩) (by simp)).trans (by simp [go_sem])
    have c2 : w5.cell? ⟨w.heap.size, 2, none⟩ = some (.int .i64 0) := (hbZ.cell (p := ⟨w.heap.size, 2, none⟩) (by simp)).trans (by simp [go_sem])
    have f2 : w5.frozen? ⟨w.heap.size, 2, none⟩ = false := (hbZ.frozen (p := ⟨w.heap.size, 2, none⟩) (by simp)).trans (by simp [go_sem])
    have c3 : w5.cell? ⟨w.heap.size, 3, none⟩ = some (.int .i64 0) := (hbZ.cell (p := ⟨w.heap.size, 3, none⟩) (by simp)).trans (by simp [go_sem])
    have f3 : w5.frozen? ⟨w.heap.size, 3, none⟩ = false := (hbZ.frozen (p := ⟨w.heap.size, 3, none⟩) (by simp)).trans (by simp [go_sem])
    have c4 : w5.cell? ⟨w.heap.size, 4, none⟩ = some (.int .i64 0) := (hbZ.cell (p := ⟨w.heap.size, 4, none⟩) (by simp)).trans (by simp [go_sem])
    have f4 : w5.frozen? ⟨w.heap.size, 4, none⟩ = false := (hbZ.frozen (p := ⟨w.heap.size, 4, none⟩) (by simp)).trans (by simp [go_sem])
    have c5 : w5.cell? ⟨w.heap.size, 5, none⟩ = some (.int .i64 0) := (hbZ.cell (p := ⟨w.heap.size, 5, none⟩) (by simp)).trans (by simp [go_sem])
    have f5 : w5.frozen? ⟨w.heap.size, 5, none⟩ = false := (hbZ.frozen (p := ⟨w.heap.size, 5, none⟩) (by simp)).trans (by simp [go_sem])
    have c6 : w5.cell? ⟨w.heap.size, 6, none⟩ = some (.int .i64 0) := (hbZ.cell (p := ⟨w.heap.size, 6, none⟩) (by simp)).trans (by simp [go_sem])
    have f6 : w5.frozen? ⟨w.heap.size, 6, none⟩ = false := (hbZ.frozen (p := ⟨w.heap.size, 6, none⟩) (by simp)).trans (by simp [go_sem])
    have c7 : w5.cell? ⟨w.heap.size, 7, none⟩ = some (.bool false) := (hbZ.cell (p := ⟨w.heap.size, 7, none⟩) (by simp)).trans (by simp [go_sem])
    have f7 : w5.frozen? ⟨w.heap.size, 7, none⟩ = false := (hbZ.frozen (p := ⟨w.heap.size, 7, none⟩) (by simp)).trans (by simp [go_sem])
    have c8 : w5.cell? ⟨w.heap.size, 8, none⟩ = some (.int .i64 0) := (hbZ.cell (p := ⟨w.heap.size, 8, none⟩) (by simp)).trans (by simp [go_sem])
    have f8 : w5.frozen? ⟨w.heap.size, 8, none⟩ = false := (hbZ.frozen (p := ⟨w.heap.size, 8, none⟩) (by simp)).trans (by simp [go_sem])
    have c9 : w5.cell? ⟨w.heap.size, 9, none⟩ = some (.int .i64 0) := (hbZ.cell (p := ⟨w.heap.size, 9, none⟩) (by simp)).trans (by simp [go_sem])
    have f9 : w5.frozen? ⟨w.heap.size, 9, none⟩ = false := (hbZ.frozen (p := ⟨w.heap.size, 9, none⟩) (by simp)).trans (by simp [go_sem])
    go_wp2_with (go_at_call 28; refine (as_nil _ _).mono ?_; rintro e9 w9 ⟨rfl, rfl⟩)
    refine bodyPost_ret (v := .tuple #[.agg #[.int .i64 s, .int .i64 t, .int .i64 k, .int .i64 z, .int .i64 p, .int .i64 l, .int .i64 e2, .bool b, .int .i64 v, .int .i64 r], .int .i64 0]) (by simp (maxDischargeDepth := 9) [results, Tryd.results9, go_sem, *]) rfl ?_
    exact ⟨_, _, _, _, _, _, _, _, _, _, 0, rfl, unhide HJ, (by repeat (first | (with_reducible refine bel_alloc ?_ _) | (with_reducible refine bel_set ?_ (by first | (with_reducible refine bel_alloc ?_ _) | (simp; done) | (simp; omega)) _) | (with_reducible exact bel_trans (bel_one _ _) hbZ)))⟩
  · have hEA := hE.bel (show Below w.heap.size w ((w5.alloc (.cells #[.int .i64 s, .int .i64 t, .int .i64 k, .int .i64 z, .int .i64 p, .int .i64 l, .int .i64 e2, .bool b, .int .i64 v, .int .i64 r] 24)).alloc (.cells #[.int .i64 0] 55)) from bel_alloc (bel_alloc (bel_trans (bel_one _ _) hbZ) _) _)
    have ht0 : ((w5.alloc (.cells #[.int .i64 s, .int .i64 t, .int .i64 k, .int .i64 z, .int .i64 p, .int .i64 l, .int .i64 e2, .bool b, .int .i64 v, .int .i64 r] 24)).alloc (.cells #[.int .i64 0] 55)).cell? ⟨w5.heap.size + 1, 0, none⟩ = some (.int .i64 0) := by simp [go_sem]
    have hf0 : ((w5.alloc (.cells #[.int .i64 s, .int .i64 t, .int .i64 k, .int .i64 z, .int .i64 p, .int .i64 l, .int .i64 e2, .bool b, .int .i64 v, .int .i64 r] 24)).alloc (.cells #[.int .i64 0] 55)).frozen? ⟨w5.heap.size + 1, 0, none⟩ = false := by simp [go_sem]
    have hget := hEA.et
    clear hb5 hEA
    go_wp2_with fail
    refine (as_hit c ⟨w5.heap.size + 1, 0, none⟩ (.int .i64 0) _ hget ht0 hf0).mono ?_
    rintro e9 w9 ⟨rfl, hw9⟩
    have ht : w9.cell? ⟨w5.heap.size + 1, 0, none⟩ = some (.int .i64 c) := by
      rw [hw9]
      exact World.cell?_setCell_same _ _ _ (by rw [World.cell?_alloc_lt _ _ _ (by first | (simp; done) | (simp; omega)), World.cell?_alloc_lt _ _ _ (by first | (simp; done) | (simp; omega)), World.cell?_alloc_lt _ _ _ (by first | (simp; done) | (simp; omega)), World.cell?_alloc_lt _ _ _ (by first | (simp; done) | (simp; omega))]; exact ht0)
    have hbY : Below (w.alloc (.cells #[.int .i64 0, .int .i64 0, .int .i64 0, .int .i64 0, .int .i64 0, .int .i64 0, .int .i64 0, .bool false, .int .i64 0, .int .i64 0] 24)).heap.size (w.alloc (.cells #[.int .i64 0, .int .i64 0, .int .i64 0, .int .i64 0, .int .i64 0, .int .i64 0, .int .i64 0, .bool false, .int .i64 0, .int .i64 0] 24)) w9 := by
      rw [hw9]
      exact bel_set (bel_alloc (bel_alloc (bel_alloc (bel_alloc (bel_alloc (bel_alloc hbZ _) _) _) _) _) _) (by simp; omega) _
    have hz9 : w5.heap.size + 1 < w9.heap.size := by rw [hw9]; first | (simp [World.setCell]; done) | (simp [World.setCell]; omega)
    clear hw9 ht0 hf0 hget hbZ
    have hbZ := hbY
    have c0 : w9.cell? ⟨w.heap.size, 0, none⟩ = some (.int .i64 0) := (hbZ.cell (p := ⟨w.heap.size, 0, none⟩) (by simp)).trans (by simp [go_sem])
    have f0 : w9.frozen? ⟨w.heap.size, 0, none⟩ = false := (hbZ.frozen (p := ⟨w.heap.size, 0, none⟩) (by simp)).trans (by simp [go_sem])
    have c1 : w9.cell? ⟨w.heap.size, 1, none⟩ = some (.int .i64 0) := (hbZ.cell (p := ⟨w.heap.size, 1, none⟩) (by simp)).trans (by simp [go_sem])
    have f1 : w9.frozen? ⟨w.heap.size, 1, none⟩ = false := (hbZ.frozen (p := ⟨w.heap.size, 1, none⟩) (by simp)).trans (by simp [go_sem])
    have c2 : w9.cell? ⟨w.heap.size, 2, none⟩ = some (.int .i64 0) := (hbZ.cell (p := ⟨w.heap.size, 2, none⟩) (by simp)).trans (by simp [go_sem])
    have f2 : w9.frozen? ⟨w.heap.size, 2, none⟩ = false := (hbZ.frozen (p := ⟨w.heap.size, 2, none⟩) (by simp)).trans (by simp [go_sem])
    have c3 : w9.cell? ⟨w.heap.size, 3, none⟩ = some (.int .i64 0) := (hbZ.cell (p := ⟨w.heap.size, 3, none⟩) (by simp)).trans (by simp [go_sem])
    have f3 : w9.frozen? ⟨w.heap.size, 3, none⟩ = false := (hbZ.frozen (p := ⟨w.heap.size, 3, none⟩) (by simp)).trans (by simp [go_sem])
    have c4 : w9.cell? ⟨w.heap.size, 4, none⟩ = some (.int .i64 0) := (hbZ.cell (p := ⟨w.heap.size, 4, none⟩) (by simp)).trans (by simp [go_sem])
    have f4 : w9.frozen? ⟨w.heap.size, 4, none⟩ = false := (hbZ.frozen (p := ⟨w.heap.size, 4, none⟩) (by simp)).trans (by simp [go_sem])
    have c5 : w9.cell? ⟨w.heap.size, 5, none⟩ = some (.int .i64 0) := (hbZ.cell (p := ⟨w.heap.size, 5, none⟩) (by simp)).trans (by simp [go_sem])
    have f5 : w9.frozen? ⟨w.heap.size, 5, none⟩ = false := (hbZ.frozen (p := ⟨w.heap.size, 5, none⟩) (by simp)).trans (by simp [go_sem])
    have c6 : w9.cell? ⟨w.heap.size, 6, none⟩ = some (.int .i64 0) := (hbZ.cell (p := ⟨w.heap.size, 6, none⟩) (by simp)).trans (by simp [go_sem])
    have f6 : w9.frozen? ⟨w.heap.size, 6, none⟩ = false := (hbZ.frozen (p := ⟨w.heap.size, 6, none⟩) (by simp)).trans (by simp [go_sem])
    have c7 : w9.cell? ⟨w.heap.size, 7, none⟩ = some (.bool false) := (hbZ.cell (p := ⟨w.heap.size, 7, none⟩) (by simp)).trans (by simp [go_sem])
    have f7 : w9.frozen? ⟨w.heap.size, 7, none⟩ = false := (hbZ.frozen (p := ⟨w.heap.size, 7, none⟩) (by simp)).trans (by simp [go_sem])
    have c8 : w9.cell? ⟨w.heap.size, 8, none⟩ = some (.int .i64 0) := (hbZ.cell (p := ⟨w.heap.size, 8, none⟩) (by simp)).trans (by simp [go_sem])
    have f8 : w9.frozen? ⟨w.heap.size, 8, none⟩ = false := (hbZ.frozen (p := ⟨w.heap.size, 8, none⟩) (by simp)).trans (by simp [go_sem])
    have c9 : w9.cell? ⟨w.heap.size, 9, none⟩ = some (.int .i64 0) := (hbZ.cell (p := ⟨w.heap.size, 9, none⟩) (by simp)).trans (by simp [go_sem])
    have f9 : w9.frozen? ⟨w.heap.size, 9, none⟩ = false := (hbZ.frozen (p := ⟨w.heap.size, 9, none⟩) (by simp)).trans (by simp [go_sem])
    go_wp2_with fail
    refine wp_region_held_drew (S := (fun W => W.cell? ⟨w5.heap.size + 1, 0, none⟩ = some (.int .i64 c))) (by kernel_rfl) ?_ (fun hHeld => ?_)
    · (try dsimp only); exact ht
    refine wpAnyH_take (i := 0) (v := ?_) (by simp only [List.getElem?_toArray, List.getElem?_cons_zero, List.getElem?_cons_succ]; rfl) (by kernel_rfl) (by kernel_rfl) (by kernel_rfl) (by intro _ _ _ h; exact h) (Or.inl ⟨by rfl, ?_⟩) (by assumption) ?_
    rotate_left
    · (intro w9 hSw; (try dsimp only at hSw); go_simp <;> with_reducible rfl)
    try simp only [Act.put, List.setIfInBounds_toArray, List.set_cons_zero, List.set_cons_succ]
    refine wpAnyH_take (i := 1) (v := ?_) (by simp only [List.getElem?_toArray, List.getElem?_cons_zero, List.getElem?_cons_succ]; rfl) (by kernel_rfl) (by kernel_rfl) (by kernel_rfl) (by intro _ _ _ h; exact h) (Or.inl ⟨by rfl, ?_⟩) (by assumption) ?_
    rotate_left
    · (intro w9 hSw; (try dsimp only at hSw); go_simp <;> with_reducible rfl)
    try simp only [Act.put, List.setIfInBounds_toArray, List.set_cons_zero, List.set_cons_succ]
    refine wpAnyH_take (i := 2) (v := ?_) (by simp only [List.getElem?_toArray, List.getElem?_cons_zero, List.getElem?_cons_succ]; rfl) (by kernel_rfl) (by kernel_rfl) (by kernel_rfl) (by intro _ _ _ h; exact h) (Or.inl ⟨by rfl, ?_⟩) (by assumption) ?_
    rotate_left
    · (intro w9 hSw; (try dsimp only at hSw); go_simp <;> with_reducible rfl)
    try simp only [Act.put, List.setIfInBounds_toArray, List.set_cons_zero, List.set_cons_succ]
    refine wpAnyH_ready (rs := [3]) (by kernel_rfl) (by simp) ?_
    refine AllReadyH.cons (by simp only [List.getElem?_toArray, List.getElem?_cons_zero, List.getElem?_cons_succ]; rfl) (fun K hK => ?_) AllReadyH.nil
    go_simp
    refine hK.out _ _ ?_ (fun hHeld2 => ?_)
    · (try dsimp only); first | (with_reducible exact ht) | (refine ((bel_drew (Below.refl _ _)).cell (p := ⟨w5.heap.size + 1, 0, none⟩) (by simp; omega)).trans ?_; (repeat rw [cell_set_ne (by first | (simp; done) | (simp; omega))]); exact ht)
    clear hK K hHeld
    have hHeld := hHeld2
    clear hHeld2
    try simp only [Act.put, List.setIfInBounds_toArray, List.set_cons_zero, List.set_cons_succ]
    refine wpAnyH_take (i := 4) (v := ?_) (by simp only [List.getElem?_toArray, List.getElem?_cons_zero, List.getElem?_cons_succ]; rfl) (by kernel_rfl) (by kernel_rfl) (by kernel_rfl) (by intro _ _ _ h; exact h) (Or.inl ⟨by rfl, ?_⟩) (by assumption) ?_
    rotate_left
    · (intro w9 hSw; (try dsimp only at hSw); go_simp <;> with_reducible rfl)
    try simp only [Act.put, List.setIfInBounds_toArray, List.set_cons_zero, List.set_cons_succ]
    refine wpAnyH_done (by kernel_rfl) ?_ _
    go_wp2
    refine bodyPost_ret (v := .tuple #[.agg #[.int .i64 0, .int .i64 0, .int .i64 0, .int .i64 0, .int .i64 0, .int .i64 0, .int .i64 0, .bool false, .int .i64 0, .int .i64 0], .int .i64 c]) (by simp (maxDischargeDepth := 9) [results, Tryd.results9, go_sem, *]) rfl ?_
    have hbF : Below w.heap.size w w9 := bel_trans (bel_one _ _) hbZ
    refine ⟨0, 0, 0, 0, 0, 0, 0, false, 0, 0, c, rfl, ?_, ?_⟩
    case refine_2 => repeat (first | (with_reducible exact hbF) | (with_reducible refine bel_drew ?_) | (with_reducible refine bel_set ?_ (by first | (simp; done) | (simp; omega)) _))
    rcases unhide HJ with ⟨h0, _⟩ | ⟨_, _, h2⟩ | ⟨_, _, h2⟩
    · omega
    · exact Or.inr (Or.inl ⟨rfl, rfl, h2⟩)
    · exact Or.inr (Or.inr ⟨rfl, rfl, h2⟩)
end Go.Proofs.YtgccnmegbdlefaaDoor
