/- Proved here: a job and a time are drawn. -/
import Derived.Test.YtijgbahmlldffaaAnyJob
import Derived.Deep.RegionHeld3
namespace Go.Proofs.Ytijgbahmlldffaa
open Go.ChangeShapes Go.WideShapes Go.ChangeAt Go.RowKit
set_option linter.unusedVariables false

/-- The eighth is drawn itself. -/
theorem el8y (y : Int) (yl : 0 ≤ y) (yu : y < 60) (x : Int) (h3 : 0 ≤ x) (h4 : x < 8) : ∃ t : Int, (#[Value.int .i64 0, Value.int .i64 1, Value.int .i64 19, Value.int .i64 20, Value.int .i64 60, Value.int .i64 61, Value.int .i64 (-1), Value.int .i64 y] : Array Value)[x.toNat]? = some (.int .i64 t) ∧ -1 ≤ t ∧ t ≤ 61 := by
  obtain rfl | rfl | rfl | rfl | rfl | rfl | rfl | rfl : x = 0 ∨ x = 1 ∨ x = 2 ∨ x = 3 ∨ x = 4 ∨ x = 5 ∨ x = 6 ∨ x = 7 := by omega
  · exact ⟨_, rfl, by omega, by omega⟩
  · exact ⟨_, rfl, by omega, by omega⟩
  · exact ⟨_, rfl, by omega, by omega⟩
  · exact ⟨_, rfl, by omega, by omega⟩
  · exact ⟨_, rfl, by omega, by omega⟩
  · exact ⟨_, rfl, by omega, by omega⟩
  · exact ⟨_, rfl, by omega, by omega⟩
  · exact ⟨_, rfl, by omega, by omega⟩

/-- A job and a time, drawn. -/
def JobT (w : World) (e' : Ending) (w' : World) : Prop := ∃ (s t k z q l e : Int) (b : Bool) (v r T : Int), e' = .returned (.tuple #[.agg #[.int .i64 s, .int .i64 t, .int .i64 k, .int .i64 z, .int .i64 q, .int .i64 l, .int .i64 e, .bool b, .int .i64 v, .int .i64 r], .int .i64 T]) ∧ -1 ≤ T ∧ T ≤ 61 ∧ Below w.heap.size w w'
set_option linter.unusedSimpArgs false in
set_option maxRecDepth 20000 in
set_option maxHeartbeats 8000000 in
theorem drawwinof_any (a : Option Addr) (len cap : Nat) (w : World) (hlc : len ≤ cap) (hlm : len ≤ 1048576) (hb : BytesAt w a len) (hl : ∀ g o, a = some ⟨g, o, none⟩ → 0 < len → g < w.heap.size) (hn : a = none → cap = 0) : Calls Try.prog 6 #[.slice a len cap] w fun e w' => JobT w e w' := by
  have hbX : Below w.heap.size w (w.alloc (.cells #[.int .i64 0, .int .i64 0, .int .i64 0, .int .i64 0, .int .i64 0, .int .i64 0, .int .i64 0, .bool false, .int .i64 0, .int .i64 0] 24)) := bel_one _ _
  have hb' := BytesAt.bel hb hl hbX
  have hl' : ∀ g o, a = some ⟨g, o, none⟩ → 0 < len → g < (w.alloc (.cells #[.int .i64 0, .int .i64 0, .int .i64 0, .int .i64 0, .int .i64 0, .int .i64 0, .int .i64 0, .bool false, .int .i64 0, .int .i64 0] 24)).heap.size := fun g o ha hp => Nat.lt_of_lt_of_le (hl g o ha hp) hbX.size
  go_enter Try.func6, Try.ntmps6
  go_wp2_with fail
  refine (open_any a len cap _ hlc hlm hb' hl' hn).mono ?_
  rintro e w1 ⟨R, len', cap', rfl, h1, h2, hb1, hr⟩
  have h1' : w.heap.size < R := by simp at h1; omega
  have hX1 : w1.heap[w.heap.size]? = some (.cells #[.int .i64 0, .int .i64 0, .int .i64 0, .int .i64 0, .int .i64 0, .int .i64 0, .int .i64 0, .bool false, .int .i64 0, .int .i64 0] 24 (0, 0)) := (hb1.block _ (by simp)).trans (heap_alloc_new _ _)
  have hwR : w.heap.size ≤ R := by omega
  replace hb1 : Below w.heap.size (w.alloc (.cells #[.int .i64 0, .int .i64 0, .int .i64 0, .int .i64 0, .int .i64 0, .int .i64 0, .int .i64 0, .bool false, .int .i64 0, .int .i64 0] 24)) w1 := hb1.mono (by simp)
  clear hb hb' hl hl'
  go_wp2_with fail
  refine wp_region_held_drew (S := (fun W => True)) (by kernel_rfl) ?_ (fun hHeld => ?_)
  · (try dsimp only); (try trivial)
  refine wpAnyH_take (i := 0) (v := ?_) (by simp only [List.getElem?_toArray, List.getElem?_cons_zero, List.getElem?_cons_succ]; rfl) (by kernel_rfl) (by kernel_rfl) (by kernel_rfl) (by intro _ _ _ h; exact h) (Or.inl ⟨by rfl, ?_⟩) (by assumption) ?_
  rotate_left
  · (intro w9 hSw; (try dsimp only at hSw); go_simp <;> with_reducible rfl)
  try simp only [Act.put, List.setIfInBounds_toArray, List.set_cons_zero, List.set_cons_succ]
  refine wpAnyH_take (i := 2) (v := ?_) (by simp only [List.getElem?_toArray, List.getElem?_cons_zero, List.getElem?_cons_succ]; rfl) (by kernel_rfl) (by kernel_rfl) (by kernel_rfl) (by intro _ _ _ h; exact h) (Or.inl ⟨by rfl, ?_⟩) (by assumption) ?_
  rotate_left
  · (intro w9 hSw; (try dsimp only at hSw); go_simp <;> with_reducible rfl)
  try simp only [Act.put, List.setIfInBounds_toArray, List.set_cons_zero, List.set_cons_succ]
  refine wpAnyH_take (i := 5) (v := ?_) (by simp only [List.getElem?_toArray, List.getElem?_cons_zero, List.getElem?_cons_succ]; rfl) (by kernel_rfl) (by kernel_rfl) (by kernel_rfl) (by intro _ _ _ h; exact h) (Or.inl ⟨by rfl, ?_⟩) (by assumption) ?_
  rotate_left
  · (intro w9 hSw; (try dsimp only at hSw); go_simp <;> with_reducible rfl)
  try simp only [Act.put, List.setIfInBounds_toArray, List.set_cons_zero, List.set_cons_succ]
  refine wpAnyH_ready (rs := [1]) (by kernel_rfl) (by simp) ?_
  refine AllReadyH.cons (by simp only [List.getElem?_toArray, List.getElem?_cons_zero, List.getElem?_cons_succ]; rfl) (fun K hK => ?_) AllReadyH.nil
  go_simp
  (go_at_call 19; refine (anyjob_any R a len' cap' 0 12 w1.drew (by decide) (by decide) (by decide) h2 (⟨hr.1, hr.2, hr.3, hr.4, hr.5, hr.6, hr.7⟩ : Rd R w1.drew a len' cap' 0)).mono ?_; rintro e' w2 ⟨s, t, k, z, q, l, e, b, v, r, rfl, k2, p2, hp2, hr2⟩)
  (try go_wp2_with fail)
  have z2 : w1.heap.size ≤ w2.heap.size := k2.low.size
  have hXw2 : w2.heap[w.heap.size]? = some (.cells #[.int .i64 0, .int .i64 0, .int .i64 0, .int .i64 0, .int .i64 0, .int .i64 0, .int .i64 0, .bool false, .int .i64 0, .int .i64 0] 24 (0, 0)) := (k2.all _ (by first | (simp; omega) | omega) (by omega)).trans hX1
  obtain ⟨y0, h0⟩ := cells_blk (n := 0) hXw2 0
  obtain ⟨y1, h1⟩ := cells_blk (n := 0) hXw2 1
  obtain ⟨y2, h2⟩ := cells_blk (n := 0) hXw2 2
  obtain ⟨y3, h3⟩ := cells_blk (n := 0) hXw2 3
  obtain ⟨y4, h4⟩ := cells_blk (n := 0) hXw2 4
  obtain ⟨y5, h5⟩ := cells_blk (n := 0) hXw2 5
  obtain ⟨y6, h6⟩ := cells_blk (n := 0) hXw2 6
  obtain ⟨y7, h7⟩ := cells_blk (n := 0) hXw2 7
  obtain ⟨y8, h8⟩ := cells_blk (n := 0) hXw2 8
  obtain ⟨y9, h9⟩ := cells_blk (n := 0) hXw2 9
  simp only [List.getElem?_toArray, List.getElem?_cons_zero, List.getElem?_cons_succ] at y0 y1 y2 y3 y4 y5 y6 y7 y8 y9
  have ltw2 : w.heap.size < w2.heap.size := heap_lt hXw2
  have b2 : Below w.heap.size w w2 := (hbX.trans hb1).trans (Below.trans ((Below.refl w.heap.size w1).drew) (k2.low.mono hwR))
  have HR2 := hide hr2
  clear hr2
  refine hK.out _ _ ?_ (fun hHeld2 => ?_)
  · (try dsimp only); (try trivial)
  clear hK K hHeld
  have hHeld := hHeld2
  clear hHeld2
  try simp only [Act.put, List.setIfInBounds_toArray, List.set_cons_zero, List.set_cons_succ]
  refine wpAnyH_ready (rs := [3]) (by kernel_rfl) (by simp) ?_
  refine AllReadyH.cons (by simp only [List.getElem?_toArray, List.getElem?_cons_zero, List.getElem?_cons_succ]; rfl) (fun K hK => ?_) AllReadyH.nil
  go_simp
  (go_at_call 20; refine (pick_any R a len' cap' p2 60 w2 (by decide) (by decide) (unhide HR2)).mono ?_; rintro e' w3 ⟨y, rfl, yl, yu, k3, hr3⟩)
  (try go_wp2_with fail)
  clear y0 h0 y1 h1 y2 h2 y3 h3 y4 h4 y5 h5 y6 h6 y7 h7 y8 h8 y9 h9
  have z3 : w2.heap.size ≤ w3.heap.size := k3.low.size
  have hXw3 : w3.heap[w.heap.size]? = some (.cells #[.int .i64 0, .int .i64 0, .int .i64 0, .int .i64 0, .int .i64 0, .int .i64 0, .int .i64 0, .bool false, .int .i64 0, .int .i64 0] 24 (0, 0)) := (k3.all _ (by omega) (by omega)).trans hXw2
  obtain ⟨y0, h0⟩ := cells_blk (n := 0) hXw3 0
  obtain ⟨y1, h1⟩ := cells_blk (n := 0) hXw3 1
  obtain ⟨y2, h2⟩ := cells_blk (n := 0) hXw3 2
  obtain ⟨y3, h3⟩ := cells_blk (n := 0) hXw3 3
  obtain ⟨y4, h4⟩ := cells_blk (n := 0) hXw3 4
  obtain ⟨y5, h5⟩ := cells_blk (n := 0) hXw3 5
  obtain ⟨y6, h6⟩ := cells_blk (n := 0) hXw3 6
  obtain ⟨y7, h7⟩ := cells_blk (n := 0) hXw3 7
  obtain ⟨y8, h8⟩ := cells_blk (n := 0) hXw3 8
  obtain ⟨y9, h9⟩ := cells_blk (n := 0) hXw3 9
  simp only [List.getElem?_toArray, List.getElem?_cons_zero, List.getElem?_cons_succ] at y0 y1 y2 y3 y4 y5 y6 y7 y8 y9
  have ltw3 : w.heap.size < w3.heap.size := heap_lt hXw3
  have b3 : Below w.heap.size w w3 := b2.trans (k3.low.mono hwR)
  have HR3 := hide (hr3 (by omega))
  clear hr3 HR2
  refine hK.out _ _ ?_ (fun hHeld2 => ?_)
  · (try dsimp only); (try trivial)
  clear hK K hHeld
  have hHeld := hHeld2
  clear hHeld2
  try simp only [Act.put, List.setIfInBounds_toArray, List.set_cons_zero, List.set_cons_succ]
  refine wpAnyH_ready (rs := [4, 6]) (by kernel_rfl) (by simp) ?_
  refine AllReadyH.cons (by simp only [List.getElem?_toArray, List.getElem?_cons_zero, List.getElem?_cons_succ]; rfl) (fun K hK => ?_) ?_
  · go_simp
    refine hK.out _ _ ?_ (fun hHeld2 => ?_)
    · (try dsimp only); (try trivial)
    clear hK K hHeld
    have hHeld := hHeld2
    clear hHeld2
    try simp only [Act.put, List.setIfInBounds_toArray, List.set_cons_zero, List.set_cons_succ]
    refine wpAnyH_ready (rs := [6]) (by kernel_rfl) (by simp) ?_
    refine AllReadyH.cons (by simp only [List.getElem?_toArray, List.getElem?_cons_zero, List.getElem?_cons_succ]; rfl) (fun K hK => ?_) AllReadyH.nil
    go_simp
    (go_at_call 20; refine (pick_any R a len' cap' _ 8 _ (by decide) (by decide) ((unhide HR3).kp (by omega) (bel_one _ _))).mono ?_; rintro e' w4 ⟨x, rfl, x0', x1', kw4, _⟩)
    (try go_wp2_with fail)
    obtain ⟨t9, hz, tl, tu⟩ := el8y y yl yu x x0' x1'
    have hzl : ([Value.int .i64 0, Value.int .i64 1, Value.int .i64 19, Value.int .i64 20, Value.int .i64 60, Value.int .i64 61, Value.int .i64 (-1), Value.int .i64 y] : List Value)[x.toNat]? = some (.int .i64 t9) := (List.getElem?_toArray).symm.trans hz
    have hz2 : ∀ h9, ([Value.int .i64 0, Value.int .i64 1, Value.int .i64 19, Value.int .i64 20, Value.int .i64 60, Value.int .i64 61, Value.int .i64 (-1), Value.int .i64 y] : List Value)[x.toNat]'h9 = .int .i64 t9 := fun h9 => Option.some.inj ((List.getElem?_eq_getElem h9).symm.trans hzl)
    clear hzl
    have hix1 : ¬ x < 0 := by omega
    have hix2 : x.toNat < 8 := by omega
    have hix3 : x < 8 := x1'
    have z4 : w3.heap.size + 1 ≤ w4.heap.size := by have h9 := kw4.low.size; simpa using h9
    clear y0 h0 y1 h1 y2 h2 y3 h3 y4 h4 y5 h5 y6 h6 y7 h7 y8 h8 y9 h9
    have hXw4 : w4.heap[w.heap.size]? = some (.cells #[.int .i64 0, .int .i64 0, .int .i64 0, .int .i64 0, .int .i64 0, .int .i64 0, .int .i64 0, .bool false, .int .i64 0, .int .i64 0] 24 (0, 0)) := (kw4.all _ (by simp; omega) (by omega)).trans ((Below.heap_alloc _ _ _ ltw3).trans hXw3)
    obtain ⟨y0, h0⟩ := cells_blk (n := 0) hXw4 0
    obtain ⟨y1, h1⟩ := cells_blk (n := 0) hXw4 1
    obtain ⟨y2, h2⟩ := cells_blk (n := 0) hXw4 2
    obtain ⟨y3, h3⟩ := cells_blk (n := 0) hXw4 3
    obtain ⟨y4, h4⟩ := cells_blk (n := 0) hXw4 4
    obtain ⟨y5, h5⟩ := cells_blk (n := 0) hXw4 5
    obtain ⟨y6, h6⟩ := cells_blk (n := 0) hXw4 6
    obtain ⟨y7, h7⟩ := cells_blk (n := 0) hXw4 7
    obtain ⟨y8, h8⟩ := cells_blk (n := 0) hXw4 8
    obtain ⟨y9, h9⟩ := cells_blk (n := 0) hXw4 9
    simp only [List.getElem?_toArray, List.getElem?_cons_zero, List.getElem?_cons_succ] at y0 y1 y2 y3 y4 y5 y6 y7 y8 y9
    have ltw4 : w.heap.size < w4.heap.size := heap_lt hXw4
    have b4 : Below w.heap.size w w4 := Below.trans (bel_alloc b3 (.cells #[.int .i64 0, .int .i64 1, .int .i64 19, .int .i64 20, .int .i64 60, .int .i64 61, .int .i64 (-1), .int .i64 y] 3)) (kw4.low.mono hwR)
    have hS : w4.heap[w3.heap.size]? = some (.cells #[.int .i64 0, .int .i64 1, .int .i64 19, .int .i64 20, .int .i64 60, .int .i64 61, .int .i64 (-1), .int .i64 y] 3 (0, 0)) := (kw4.all _ (by simp) (by omega)).trans (heap_alloc_new _ _)
    have hc9 := (cells_blk (n := 0) hS x.toNat).1.trans hz
    have ne9 : w.heap.size ≠ w3.heap.size := by omega
    have ne9' : w3.heap.size ≠ w.heap.size := by omega
    have zz9 : w3.heap.size < w4.heap.size := by omega
    refine hK.out _ _ ?_ (fun hHeld2 => ?_)
    · (try dsimp only); (try trivial)
    clear hK K hHeld
    have hHeld := hHeld2
    clear hHeld2
    try simp only [Act.put, List.setIfInBounds_toArray, List.set_cons_zero, List.set_cons_succ]
    refine wpAnyH_take (i := 7) (v := ?_) (by simp only [List.getElem?_toArray, List.getElem?_cons_zero, List.getElem?_cons_succ]; rfl) (by kernel_rfl) (by kernel_rfl) (by kernel_rfl) (by intro _ _ _ h; exact h) (Or.inl ⟨by rfl, ?_⟩) (by assumption) ?_
    rotate_left
    · (intro w9 hSw; (try dsimp only at hSw); go_simp <;> with_reducible rfl)
    try simp only [Act.put, List.setIfInBounds_toArray, List.set_cons_zero, List.set_cons_succ]
    refine wpAnyH_ready (rs := [8, 9]) (by kernel_rfl) (by simp) ?_
    refine AllReadyH.cons (by simp only [List.getElem?_toArray, List.getElem?_cons_zero, List.getElem?_cons_succ]; rfl) (fun K hK => ?_) ?_
    · go_simp
      refine hK.out _ _ ?_ (fun hHeld2 => ?_)
      · (try dsimp only); (try trivial)
      clear hK K hHeld
      have hHeld := hHeld2
      clear hHeld2
      try simp only [Act.put, List.setIfInBounds_toArray, List.set_cons_zero, List.set_cons_succ]
      refine wpAnyH_ready (rs := [9]) (by kernel_rfl) (by simp) ?_
      refine AllReadyH.cons (by simp only [List.getElem?_toArray, List.getElem?_cons_zero, List.getElem?_cons_succ]; rfl) (fun K hK => ?_) AllReadyH.nil
      go_simp
      refine hK.out _ _ ?_ (fun hHeld2 => ?_)
      · (try dsimp only); (try trivial)
      clear hK K hHeld
      have hHeld := hHeld2
      clear hHeld2
      try simp only [Act.put, List.setIfInBounds_toArray, List.set_cons_zero, List.set_cons_succ]
      refine wpAnyH_take (i := 10) (v := ?_) (by simp only [List.getElem?_toArray, List.getElem?_cons_zero, List.getElem?_cons_succ]; rfl) (by kernel_rfl) (by kernel_rfl) (by kernel_rfl) (by intro _ _ _ h; exact h) (Or.inl ⟨by rfl, ?_⟩) (by assumption) ?_
      rotate_left
      · (intro w9 hSw; (try dsimp only at hSw); go_simp <;> with_reducible rfl)
      try simp only [Act.put, List.setIfInBounds_toArray, List.set_cons_zero, List.set_cons_succ]
      refine wpAnyH_done (by kernel_rfl) ?_ _
      go_wp2
      refine bodyPost_ret (v := .tuple #[.agg #[.int .i64 s, .int .i64 t, .int .i64 k, .int .i64 z, .int .i64 q, .int .i64 l, .int .i64 e, .bool b, .int .i64 v, .int .i64 r], .int .i64 t9]) (by simp (maxDischargeDepth := 9) [results, Try.results6, go_sem, *]) rfl ⟨s, t, k, z, q, l, e, b, v, r, t9, rfl, tl, tu, ?_⟩
      exact (by repeat (first | (with_reducible exact Below.refl _ _) | (with_reducible assumption) | (with_reducible refine bel_set ?_ (by first | (simp; done) | (simp; omega)) _) | (with_reducible refine bel_alloc ?_ _) | (with_reducible refine bel_drew ?_)))
    refine AllReadyH.cons (by simp only [List.getElem?_toArray, List.getElem?_cons_zero, List.getElem?_cons_succ]; rfl) (fun K hK => ?_) AllReadyH.nil
    go_simp
    refine hK.out _ _ ?_ (fun hHeld2 => ?_)
    · (try dsimp only); (try trivial)
    clear hK K hHeld
    have hHeld := hHeld2
    clear hHeld2
    try simp only [Act.put, List.setIfInBounds_toArray, List.set_cons_zero, List.set_cons_succ]
    refine wpAnyH_ready (rs := [8]) (by kernel_rfl) (by simp) ?_
    refine AllReadyH.cons (by simp only [List.getElem?_toArray, List.getElem?_cons_zero, List.getElem?_cons_succ]; rfl) (fun K hK => ?_) AllReadyH.nil
    go_simp
    refine hK.out _ _ ?_ (fun hHeld2 => ?_)
    · (try dsimp only); (try trivial)
    clear hK K hHeld
    have hHeld := hHeld2
    clear hHeld2
    try simp only [Act.put, List.setIfInBounds_toArray, List.set_cons_zero, List.set_cons_succ]
    refine wpAnyH_take (i := 10) (v := ?_) (by simp only [List.getElem?_toArray, List.getElem?_cons_zero, List.getElem?_cons_succ]; rfl) (by kernel_rfl) (by kernel_rfl) (by kernel_rfl) (by intro _ _ _ h; exact h) (Or.inl ⟨by rfl, ?_⟩) (by assumption) ?_
    rotate_left
    · (intro w9 hSw; (try dsimp only at hSw); go_simp <;> with_reducible rfl)
    try simp only [Act.put, List.setIfInBounds_toArray, List.set_cons_zero, List.set_cons_succ]
    refine wpAnyH_done (by kernel_rfl) ?_ _
    go_wp2
    refine bodyPost_ret (v := .tuple #[.agg #[.int .i64 s, .int .i64 t, .int .i64 k, .int .i64 z, .int .i64 q, .int .i64 l, .int .i64 e, .bool b, .int .i64 v, .int .i64 r], .int .i64 t9]) (by simp (maxDischargeDepth := 9) [results, Try.results6, go_sem, *]) rfl ⟨s, t, k, z, q, l, e, b, v, r, t9, rfl, tl, tu, ?_⟩
    exact (by repeat (first | (with_reducible exact Below.refl _ _) | (with_reducible assumption) | (with_reducible refine bel_set ?_ (by first | (simp; done) | (simp; omega)) _) | (with_reducible refine bel_alloc ?_ _) | (with_reducible refine bel_drew ?_)))
  refine AllReadyH.cons (by simp only [List.getElem?_toArray, List.getElem?_cons_zero, List.getElem?_cons_succ]; rfl) (fun K hK => ?_) AllReadyH.nil
  go_simp
  (go_at_call 20; refine (pick_any R a len' cap' _ 8 _ (by decide) (by decide) (unhide HR3)).mono ?_; rintro e' w4 ⟨x, rfl, x0', x1', kw4, _⟩)
  (try go_wp2_with fail)
  obtain ⟨t9, hz, tl, tu⟩ := el8y y yl yu x x0' x1'
  have hzl : ([Value.int .i64 0, Value.int .i64 1, Value.int .i64 19, Value.int .i64 20, Value.int .i64 60, Value.int .i64 61, Value.int .i64 (-1), Value.int .i64 y] : List Value)[x.toNat]? = some (.int .i64 t9) := (List.getElem?_toArray).symm.trans hz
  have hz2 : ∀ h9, ([Value.int .i64 0, Value.int .i64 1, Value.int .i64 19, Value.int .i64 20, Value.int .i64 60, Value.int .i64 61, Value.int .i64 (-1), Value.int .i64 y] : List Value)[x.toNat]'h9 = .int .i64 t9 := fun h9 => Option.some.inj ((List.getElem?_eq_getElem h9).symm.trans hzl)
  clear hzl
  have hix1 : ¬ x < 0 := by omega
  have hix2 : x.toNat < 8 := by omega
  have hix3 : x < 8 := x1'
  have z4 : w3.heap.size ≤ w4.heap.size := kw4.low.size
  clear y0 h0 y1 h1 y2 h2 y3 h3 y4 h4 y5 h5 y6 h6 y7 h7 y8 h8 y9 h9
  have hXw4 : w4.heap[w.heap.size]? = some (.cells #[.int .i64 0, .int .i64 0, .int .i64 0, .int .i64 0, .int .i64 0, .int .i64 0, .int .i64 0, .bool false, .int .i64 0, .int .i64 0] 24 (0, 0)) := (kw4.all _ ltw3 (by omega)).trans hXw3
  obtain ⟨y0, h0⟩ := cells_blk (n := 0) hXw4 0
  obtain ⟨y1, h1⟩ := cells_blk (n := 0) hXw4 1
  obtain ⟨y2, h2⟩ := cells_blk (n := 0) hXw4 2
  obtain ⟨y3, h3⟩ := cells_blk (n := 0) hXw4 3
  obtain ⟨y4, h4⟩ := cells_blk (n := 0) hXw4 4
  obtain ⟨y5, h5⟩ := cells_blk (n := 0) hXw4 5
  obtain ⟨y6, h6⟩ := cells_blk (n := 0) hXw4 6
  obtain ⟨y7, h7⟩ := cells_blk (n := 0) hXw4 7
  obtain ⟨y8, h8⟩ := cells_blk (n := 0) hXw4 8
  obtain ⟨y9, h9⟩ := cells_blk (n := 0) hXw4 9
  simp only [List.getElem?_toArray, List.getElem?_cons_zero, List.getElem?_cons_succ] at y0 y1 y2 y3 y4 y5 y6 y7 y8 y9
  have ltw4 : w.heap.size < w4.heap.size := heap_lt hXw4
  have b4 : Below w.heap.size w w4 := b3.trans (kw4.low.mono hwR)
  have ne9 : w.heap.size ≠ w4.heap.size := by omega
  have ne9' : w4.heap.size ≠ w.heap.size := by omega
  refine hK.out _ _ ?_ (fun hHeld2 => ?_)
  · (try dsimp only); (try trivial)
  clear hK K hHeld
  have hHeld := hHeld2
  clear hHeld2
  try simp only [Act.put, List.setIfInBounds_toArray, List.set_cons_zero, List.set_cons_succ]
  refine wpAnyH_ready (rs := [4, 9]) (by kernel_rfl) (by simp) ?_
  refine AllReadyH.cons (by simp only [List.getElem?_toArray, List.getElem?_cons_zero, List.getElem?_cons_succ]; rfl) (fun K hK => ?_) ?_
  · go_simp
    refine hK.out _ _ ?_ (fun hHeld2 => ?_)
    · (try dsimp only); (try trivial)
    clear hK K hHeld
    have hHeld := hHeld2
    clear hHeld2
    try simp only [Act.put, List.setIfInBounds_toArray, List.set_cons_zero, List.set_cons_succ]
    have hS : (w4.alloc (.cells #[.int .i64 0, .int .i64 1, .int .i64 19, .int .i64 20, .int .i64 60, .int .i64 61, .int .i64 (-1), .int .i64 y] 3)).heap[w4.heap.size]? = some (.cells #[.int .i64 0, .int .i64 1, .int .i64 19, .int .i64 20, .int .i64 60, .int .i64 61, .int .i64 (-1), .int .i64 y] 3 (0, 0)) := heap_alloc_new _ _
    have hc9 := (cells_blk (n := 0) hS x.toNat).1.trans hz
    refine wpAnyH_take (i := 7) (v := ?_) (by simp only [List.getElem?_toArray, List.getElem?_cons_zero, List.getElem?_cons_succ]; rfl) (by kernel_rfl) (by kernel_rfl) (by kernel_rfl) (by intro _ _ _ h; exact h) (Or.inl ⟨by rfl, ?_⟩) (by assumption) ?_
    rotate_left
    · (intro w9 hSw; (try dsimp only at hSw); go_simp <;> with_reducible rfl)
    try simp only [Act.put, List.setIfInBounds_toArray, List.set_cons_zero, List.set_cons_succ]
    refine wpAnyH_ready (rs := [8, 9]) (by kernel_rfl) (by simp) ?_
    refine AllReadyH.cons (by simp only [List.getElem?_toArray, List.getElem?_cons_zero, List.getElem?_cons_succ]; rfl) (fun K hK => ?_) ?_
    · go_simp
      refine hK.out _ _ ?_ (fun hHeld2 => ?_)
      · (try dsimp only); (try trivial)
      clear hK K hHeld
      have hHeld := hHeld2
      clear hHeld2
      try simp only [Act.put, List.setIfInBounds_toArray, List.set_cons_zero, List.set_cons_succ]
      refine wpAnyH_ready (rs := [9]) (by kernel_rfl) (by simp) ?_
      refine AllReadyH.cons (by simp only [List.getElem?_toArray, List.getElem?_cons_zero, List.getElem?_cons_succ]; rfl) (fun K hK => ?_) AllReadyH.nil
      go_simp
      refine hK.out _ _ ?_ (fun hHeld2 => ?_)
      · (try dsimp only); (try trivial)
      clear hK K hHeld
      have hHeld := hHeld2
      clear hHeld2
      try simp only [Act.put, List.setIfInBounds_toArray, List.set_cons_zero, List.set_cons_succ]
      refine wpAnyH_take (i := 10) (v := ?_) (by simp only [List.getElem?_toArray, List.getElem?_cons_zero, List.getElem?_cons_succ]; rfl) (by kernel_rfl) (by kernel_rfl) (by kernel_rfl) (by intro _ _ _ h; exact h) (Or.inl ⟨by rfl, ?_⟩) (by assumption) ?_
      rotate_left
      · (intro w9 hSw; (try dsimp only at hSw); go_simp <;> with_reducible rfl)
      try simp only [Act.put, List.setIfInBounds_toArray, List.set_cons_zero, List.set_cons_succ]
      refine wpAnyH_done (by kernel_rfl) ?_ _
      go_wp2
      refine bodyPost_ret (v := .tuple #[.agg #[.int .i64 s, .int .i64 t, .int .i64 k, .int .i64 z, .int .i64 q, .int .i64 l, .int .i64 e, .bool b, .int .i64 v, .int .i64 r], .int .i64 t9]) (by simp (maxDischargeDepth := 9) [results, Try.results6, go_sem, *]) rfl ⟨s, t, k, z, q, l, e, b, v, r, t9, rfl, tl, tu, ?_⟩
      exact (by repeat (first | (with_reducible exact Below.refl _ _) | (with_reducible assumption) | (with_reducible refine bel_set ?_ (by first | (simp; done) | (simp; omega)) _) | (with_reducible refine bel_alloc ?_ _) | (with_reducible refine bel_drew ?_)))
    refine AllReadyH.cons (by simp only [List.getElem?_toArray, List.getElem?_cons_zero, List.getElem?_cons_succ]; rfl) (fun K hK => ?_) AllReadyH.nil
    go_simp
    refine hK.out _ _ ?_ (fun hHeld2 => ?_)
    · (try dsimp only); (try trivial)
    clear hK K hHeld
    have hHeld := hHeld2
    clear hHeld2
    try simp only [Act.put, List.setIfInBounds_toArray, List.set_cons_zero, List.set_cons_succ]
    refine wpAnyH_ready (rs := [8]) (by kernel_rfl) (by simp) ?_
    refine AllReadyH.cons (by simp only [List.getElem?_toArray, List.getElem?_cons_zero, List.getElem?_cons_succ]; rfl) (fun K hK => ?_) AllReadyH.nil
    go_simp
    refine hK.out _ _ ?_ (fun hHeld2 => ?_)
    · (try dsimp only); (try trivial)
    clear hK K hHeld
    have hHeld := hHeld2
    clear hHeld2
    try simp only [Act.put, List.setIfInBounds_toArray, List.set_cons_zero, List.set_cons_succ]
    refine wpAnyH_take (i := 10) (v := ?_) (by simp only [List.getElem?_toArray, List.getElem?_cons_zero, List.getElem?_cons_succ]; rfl) (by kernel_rfl) (by kernel_rfl) (by kernel_rfl) (by intro _ _ _ h; exact h) (Or.inl ⟨by rfl, ?_⟩) (by assumption) ?_
    rotate_left
    · (intro w9 hSw; (try dsimp only at hSw); go_simp <;> with_reducible rfl)
    try simp only [Act.put, List.setIfInBounds_toArray, List.set_cons_zero, List.set_cons_succ]
    refine wpAnyH_done (by kernel_rfl) ?_ _
    go_wp2
    refine bodyPost_ret (v := .tuple #[.agg #[.int .i64 s, .int .i64 t, .int .i64 k, .int .i64 z, .int .i64 q, .int .i64 l, .int .i64 e, .bool b, .int .i64 v, .int .i64 r], .int .i64 t9]) (by simp (maxDischargeDepth := 9) [results, Try.results6, go_sem, *]) rfl ⟨s, t, k, z, q, l, e, b, v, r, t9, rfl, tl, tu, ?_⟩
    exact (by repeat (first | (with_reducible exact Below.refl _ _) | (with_reducible assumption) | (with_reducible refine bel_set ?_ (by first | (simp; done) | (simp; omega)) _) | (with_reducible refine bel_alloc ?_ _) | (with_reducible refine bel_drew ?_)))
  refine AllReadyH.cons (by simp only [List.getElem?_toArray, List.getElem?_cons_zero, List.getElem?_cons_succ]; rfl) (fun K hK => ?_) AllReadyH.nil
  go_simp
  refine hK.out _ _ ?_ (fun hHeld2 => ?_)
  · (try dsimp only); (try trivial)
  clear hK K hHeld
  have hHeld := hHeld2
  clear hHeld2
  try simp only [Act.put, List.setIfInBounds_toArray, List.set_cons_zero, List.set_cons_succ]
  refine wpAnyH_ready (rs := [4]) (by kernel_rfl) (by simp) ?_
  refine AllReadyH.cons (by simp only [List.getElem?_toArray, List.getElem?_cons_zero, List.getElem?_cons_succ]; rfl) (fun K hK => ?_) AllReadyH.nil
  go_simp
  refine hK.out _ _ ?_ (fun hHeld2 => ?_)
  · (try dsimp only); (try trivial)
  clear hK K hHeld
  have hHeld := hHeld2
  clear hHeld2
  try simp only [Act.put, List.setIfInBounds_toArray, List.set_cons_zero, List.set_cons_succ]
  have hS : (((((((((((w4.setCell ⟨w.heap.size, 0, none⟩ (.int .i64 s)).setCell ⟨w.heap.size, 1, none⟩ (.int .i64 t)).setCell ⟨w.heap.size, 2, none⟩ (.int .i64 k)).setCell ⟨w.heap.size, 3, none⟩ (.int .i64 z)).setCell ⟨w.heap.size, 4, none⟩ (.int .i64 q)).setCell ⟨w.heap.size, 5, none⟩ (.int .i64 l)).setCell ⟨w.heap.size, 6, none⟩ (.int .i64 e)).setCell ⟨w.heap.size, 7, none⟩ (.bool b)).setCell ⟨w.heap.size, 8, none⟩ (.int .i64 v)).setCell ⟨w.heap.size, 9, none⟩ (.int .i64 r)).alloc (.cells #[.int .i64 0, .int .i64 1, .int .i64 19, .int .i64 20, .int .i64 60, .int .i64 61, .int .i64 (-1), .int .i64 y] 3)).heap[((((((((((w4.setCell ⟨w.heap.size, 0, none⟩ (.int .i64 s)).setCell ⟨w.heap.size, 1, none⟩ (.int .i64 t)).setCell ⟨w.heap.size, 2, none⟩ (.int .i64 k)).setCell ⟨w.heap.size, 3, none⟩ (.int .i64 z)).setCell ⟨w.heap.size, 4, none⟩ (.int .i64 q)).setCell ⟨w.heap.size, 5, none⟩ (.int .i64 l)).setCell ⟨w.heap.size, 6, none⟩ (.int .i64 e)).setCell ⟨w.heap.size, 7, none⟩ (.bool b)).setCell ⟨w.heap.size, 8, none⟩ (.int .i64 v)).setCell ⟨w.heap.size, 9, none⟩ (.int .i64 r)).heap.size]? = some (.cells #[.int .i64 0, .int .i64 1, .int .i64 19, .int .i64 20, .int .i64 60, .int .i64 61, .int .i64 (-1), .int .i64 y] 3 (0, 0)) := heap_alloc_new _ _
  have hc9 := (cells_blk (n := 0) hS x.toNat).1.trans hz
  have hsz9 : ((((((((((w4.setCell ⟨w.heap.size, 0, none⟩ (.int .i64 s)).setCell ⟨w.heap.size, 1, none⟩ (.int .i64 t)).setCell ⟨w.heap.size, 2, none⟩ (.int .i64 k)).setCell ⟨w.heap.size, 3, none⟩ (.int .i64 z)).setCell ⟨w.heap.size, 4, none⟩ (.int .i64 q)).setCell ⟨w.heap.size, 5, none⟩ (.int .i64 l)).setCell ⟨w.heap.size, 6, none⟩ (.int .i64 e)).setCell ⟨w.heap.size, 7, none⟩ (.bool b)).setCell ⟨w.heap.size, 8, none⟩ (.int .i64 v)).setCell ⟨w.heap.size, 9, none⟩ (.int .i64 r)).heap.size = w4.heap.size := by simp
  rw [hsz9] at hc9
  refine wpAnyH_take (i := 7) (v := ?_) (by simp only [List.getElem?_toArray, List.getElem?_cons_zero, List.getElem?_cons_succ]; rfl) (by kernel_rfl) (by kernel_rfl) (by kernel_rfl) (by intro _ _ _ h; exact h) (Or.inl ⟨by rfl, ?_⟩) (by assumption) ?_
  rotate_left
  · (intro w9 hSw; (try dsimp only at hSw); go_simp <;> with_reducible rfl)
  try simp only [Act.put, List.setIfInBounds_toArray, List.set_cons_zero, List.set_cons_succ]
  refine wpAnyH_ready (rs := [8]) (by kernel_rfl) (by simp) ?_
  refine AllReadyH.cons (by simp only [List.getElem?_toArray, List.getElem?_cons_zero, List.getElem?_cons_succ]; rfl) (fun K hK => ?_) AllReadyH.nil
  go_simp
  refine hK.out _ _ ?_ (fun hHeld2 => ?_)
  · (try dsimp only); (try trivial)
  clear hK K hHeld
  have hHeld := hHeld2
  clear hHeld2
  try simp only [Act.put, List.setIfInBounds_toArray, List.set_cons_zero, List.set_cons_succ]
  refine wpAnyH_take (i := 10) (v := ?_) (by simp only [List.getElem?_toArray, List.getElem?_cons_zero, List.getElem?_cons_succ]; rfl) (by kernel_rfl) (by kernel_rfl) (by kernel_rfl) (by intro _ _ _ h; exact h) (Or.inl ⟨by rfl, ?_⟩) (by assumption) ?_
  rotate_left
  · (intro w9 hSw; (try dsimp only at hSw); go_simp <;> with_reducible rfl)
  try simp only [Act.put, List.setIfInBounds_toArray, List.set_cons_zero, List.set_cons_succ]
  refine wpAnyH_done (by kernel_rfl) ?_ _
  go_wp2
  refine bodyPost_ret (v := .tuple #[.agg #[.int .i64 s, .int .i64 t, .int .i64 k, .int .i64 z, .int .i64 q, .int .i64 l, .int .i64 e, .bool b, .int .i64 v, .int .i64 r], .int .i64 t9]) (by simp (maxDischargeDepth := 9) [results, Try.results6, go_sem, *]) rfl ⟨s, t, k, z, q, l, e, b, v, r, t9, rfl, tl, tu, ?_⟩
  exact (by repeat (first | (with_reducible exact Below.refl _ _) | (with_reducible assumption) | (with_reducible refine bel_set ?_ (by first | (simp; done) | (simp; omega)) _) | (with_reducible refine bel_alloc ?_ _) | (with_reducible refine bel_drew ?_)))

end Go.Proofs.Ytijgbahmlldffaa
