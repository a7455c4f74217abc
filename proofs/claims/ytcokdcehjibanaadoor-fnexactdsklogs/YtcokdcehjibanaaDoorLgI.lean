/- Proved here: the logs of lines, in the program. -/
import Derived.Test.YtcokdcehjibanaaDoorLgS
import Derived.Test.YtcokdcehjibanaaDoorItmRdK
import Derived.Test.YtcokdcehjibanaaDoorLogImpl
namespace Go.Proofs.YtcokdcehjibanaaDoor
open Go.ChangeShapes Go.WideShapes Go.ChangeAt Go.RowKit
set_option linter.unusedVariables false

set_option linter.unusedSimpArgs false
/-- What a line of a log is read as. -/
def RlP (s : ByteArray) (w : World) (e : Ending) (w' : World) : Prop := ∃ q t k v n c, e = .returned (.tuple #[.agg #[.int .i64 q, .int .i64 t, .int .i64 k, .int .i64 v, .int .i64 n], .bool (c && !(q == 3))]) ∧ ItR s q t k v n c ∧ Below w.heap.size w w'
set_option maxRecDepth 20000 in
set_option maxHeartbeats 4000000 in
theorem readlog_any {tp1 tp2 : TypeId} {p1 p2 : Value} {m : Int} (s : ByteArray) (w : World) (hE : Env tp1 tp2 p1 p2 m w) : Calls Tryd.prog 15 #[.string s] w fun e w' => RlP s w e w' := by
  go_enter Tryd.func15, Tryd.ntmps15
  have hb0 : Below w.heap.size w (w.alloc (.cells #[.int .i64 0, .int .i64 0, .int .i64 0, .int .i64 0, .int .i64 0] 34)) := bel_one _ _
  go_wp2_with fail
  refine (implitmread_any s _ (hE.bel hb0)).mono ?_
  rintro e w1 ⟨q, t, kk, v, nn, c, rfl, hR, hb1⟩
  have HR := hide hR
  clear hR
  have hbY := hide (World.alloc_heap_new w1 (.cells #[.int .i64 q, .int .i64 t, .int .i64 kk, .int .i64 v, .int .i64 nn] 34))
  have bR0 : w1.heap[w.heap.size]? = some (.cells #[.int .i64 0, .int .i64 0, .int .i64 0, .int .i64 0, .int .i64 0] 34 (0, 0)) := (hb1.block w.heap.size (by simp)).trans (World.alloc_heap_new w _)
  have bR1 := hide ((Below.heap_alloc w1 (.cells #[.int .i64 q, .int .i64 t, .int .i64 kk, .int .i64 v, .int .i64 nn] 34) w.heap.size (lgh_lt bR0)).trans bR0)
  have hB := hide (show Below w.heap.size w (w1.alloc (.cells #[.int .i64 q, .int .i64 t, .int .i64 kk, .int .i64 v, .int .i64 nn] 34)) from bel_alloc (bel_trans hb0 hb1) _)
  have hne : w.heap.size ≠ w1.heap.size := by have := lgh_lt bR0; omega
  clear hb0 hb1 bR0
  go_upto_region 2 with fail
  generalize w1.heap.size = X at hbY hne ⊢
  generalize w1.alloc (.cells #[.int .i64 q, .int .i64 t, .int .i64 kk, .int .i64 v, .int .i64 nn] 34) = w2 at hbY bR1 hB ⊢
  have bX := unhide hbY
  have bR := unhide bR1
  have c0 := Joins.cell_of_block bR 0
  have c1 := Joins.cell_of_block bR 1
  have c2 := Joins.cell_of_block bR 2
  have c3 := Joins.cell_of_block bR 3
  have c4 := Joins.cell_of_block bR 4
  simp only [List.getElem?_toArray, List.getElem?_cons_zero, List.getElem?_cons_succ] at c0 c1 c2 c3 c4
  have f0 : w2.frozen? ⟨w.heap.size, 0, none⟩ = false := by simp [World.frozen?, bR]
  have f1 : w2.frozen? ⟨w.heap.size, 1, none⟩ = false := by simp [World.frozen?, bR]
  have f2 : w2.frozen? ⟨w.heap.size, 2, none⟩ = false := by simp [World.frozen?, bR]
  have f3 : w2.frozen? ⟨w.heap.size, 3, none⟩ = false := by simp [World.frozen?, bR]
  have f4 : w2.frozen? ⟨w.heap.size, 4, none⟩ = false := by simp [World.frozen?, bR]
  have zR : w.heap.size < w2.heap.size := lgh_lt bR
  cases c with
  | false =>
    refine wp_region_held_drew (S := (fun W => W.heap[X]? = some (.cells #[.int .i64 q, .int .i64 t, .int .i64 kk, .int .i64 v, .int .i64 nn] 34 (0, 0)))) (by kernel_rfl) ?_ (fun hHeld => ?_)
    · ((try dsimp only); exact bX)
    refine wpAnyH_take (i := 0) (v := ?_) (by simp only [List.getElem?_toArray, List.getElem?_cons_zero, List.getElem?_cons_succ]; rfl) (by kernel_rfl) (by kernel_rfl) (by kernel_rfl) (by intro _ _ _ h; exact h) (Or.inl ⟨by rfl, ?_⟩) (by assumption) ?_
    rotate_left
    · (intro w9 hSw; (try dsimp only at hSw); have x0 := Joins.cell_of_block hSw 0; have x1 := Joins.cell_of_block hSw 1; have x2 := Joins.cell_of_block hSw 2; have x3 := Joins.cell_of_block hSw 3; have x4 := Joins.cell_of_block hSw 4; simp only [List.getElem?_toArray, List.getElem?_cons_zero, List.getElem?_cons_succ] at x0 x1 x2 x3 x4; have hx := lgh_lt hSw; go_simp <;> with_reducible rfl)
    try simp only [Act.put, List.setIfInBounds_toArray, List.set_cons_zero, List.set_cons_succ]
    refine wpAnyH_take (i := 1) (v := ?_) (by simp only [List.getElem?_toArray, List.getElem?_cons_zero, List.getElem?_cons_succ]; rfl) (by kernel_rfl) (by kernel_rfl) (by kernel_rfl) (by intro _ _ _ h; exact h) (Or.inl ⟨by rfl, ?_⟩) (by assumption) ?_
    rotate_left
    · (intro w9 hSw; (try dsimp only at hSw); have x0 := Joins.cell_of_block hSw 0; have x1 := Joins.cell_of_block hSw 1; have x2 := Joins.cell_of_block hSw 2; have x3 := Joins.cell_of_block hSw 3; have x4 := Joins.cell_of_block hSw 4; simp only [List.getElem?_toArray, List.getElem?_cons_zero, List.getElem?_cons_succ] at x0 x1 x2 x3 x4; have hx := lgh_lt hSw; go_simp <;> with_reducible rfl)
    try simp only [Act.put, List.setIfInBounds_toArray, List.set_cons_zero, List.set_cons_succ]
    refine wpAnyH_take (i := 2) (v := ?_) (by simp only [List.getElem?_toArray, List.getElem?_cons_zero, List.getElem?_cons_succ]; rfl) (by kernel_rfl) (by kernel_rfl) (by kernel_rfl) (by intro _ _ _ h; exact h) (Or.inl ⟨by rfl, ?_⟩) (by assumption) ?_
    rotate_left
    · (intro w9 hSw; (try dsimp only at hSw); have x0 := Joins.cell_of_block hSw 0; have x1 := Joins.cell_of_block hSw 1; have x2 := Joins.cell_of_block hSw 2; have x3 := Joins.cell_of_block hSw 3; have x4 := Joins.cell_of_block hSw 4; simp only [List.getElem?_toArray, List.getElem?_cons_zero, List.getElem?_cons_succ] at x0 x1 x2 x3 x4; have hx := lgh_lt hSw; go_simp <;> with_reducible rfl)
    try simp only [Act.put, List.setIfInBounds_toArray, List.set_cons_zero, List.set_cons_succ]
    refine wpAnyH_take (i := 3) (v := undef) (by simp only [List.getElem?_toArray, List.getElem?_cons_zero, List.getElem?_cons_succ]; rfl) (by kernel_rfl) (by kernel_rfl) (by kernel_rfl) (by intro _ _ _ h; exact h) (Or.inr ⟨by rfl, rfl⟩) (by assumption) ?_
    try simp only [Act.put, List.setIfInBounds_toArray, List.set_cons_zero, List.set_cons_succ]
    refine wpAnyH_take (i := 4) (v := undef) (by simp only [List.getElem?_toArray, List.getElem?_cons_zero, List.getElem?_cons_succ]; rfl) (by kernel_rfl) (by kernel_rfl) (by kernel_rfl) (by intro _ _ _ h; exact h) (Or.inr ⟨by rfl, rfl⟩) (by assumption) ?_
    try simp only [Act.put, List.setIfInBounds_toArray, List.set_cons_zero, List.set_cons_succ]
    refine wpAnyH_take (i := 5) (v := undef) (by simp only [List.getElem?_toArray, List.getElem?_cons_zero, List.getElem?_cons_succ]; rfl) (by kernel_rfl) (by kernel_rfl) (by kernel_rfl) (by intro _ _ _ h; exact h) (Or.inr ⟨by rfl, rfl⟩) (by assumption) ?_
    try simp only [Act.put, List.setIfInBounds_toArray, List.set_cons_zero, List.set_cons_succ]
    refine wpAnyH_take (i := 6) (v := ?_) (by simp only [List.getElem?_toArray, List.getElem?_cons_zero, List.getElem?_cons_succ]; rfl) (by kernel_rfl) (by kernel_rfl) (by kernel_rfl) (by intro _ _ _ h; exact h) (Or.inl ⟨by rfl, ?_⟩) (by assumption) ?_
    rotate_left
    · (intro w9 hSw; (try dsimp only at hSw); have x0 := Joins.cell_of_block hSw 0; have x1 := Joins.cell_of_block hSw 1; have x2 := Joins.cell_of_block hSw 2; have x3 := Joins.cell_of_block hSw 3; have x4 := Joins.cell_of_block hSw 4; simp only [List.getElem?_toArray, List.getElem?_cons_zero, List.getElem?_cons_succ] at x0 x1 x2 x3 x4; have hx := lgh_lt hSw; go_simp <;> with_reducible rfl)
    try simp only [Act.put, List.setIfInBounds_toArray, List.set_cons_zero, List.set_cons_succ]
    refine wpAnyH_ready (rs := [7]) (by kernel_rfl) (by simp) ?_
    refine AllReadyH.cons (by simp only [List.getElem?_toArray, List.getElem?_cons_zero, List.getElem?_cons_succ]; rfl) (fun K hK => ?_) AllReadyH.nil
    go_simp
    refine hK.out _ _ ?_ (fun hHeld2 => ?_)
    · ((try dsimp only); repeat (first | (with_reducible exact bX) | refine (Below.heap_setCell _ _ _ _ (by show X ≠ w.heap.size; omega)).trans ?_ | (show (World.setCell _ _ _).heap[X]? = _)))
    clear hK K hHeld
    have hHeld := hHeld2
    clear hHeld2
    try simp only [Act.put, List.setIfInBounds_toArray, List.set_cons_zero, List.set_cons_succ]
    refine wpAnyH_take (i := 8) (v := ?_) (by simp only [List.getElem?_toArray, List.getElem?_cons_zero, List.getElem?_cons_succ]; rfl) (by kernel_rfl) (by kernel_rfl) (by kernel_rfl) (by intro _ _ _ h; exact h) (Or.inl ⟨by rfl, ?_⟩) (by assumption) ?_
    rotate_left
    · (intro w9 hSw; (try dsimp only at hSw); have x0 := Joins.cell_of_block hSw 0; have x1 := Joins.cell_of_block hSw 1; have x2 := Joins.cell_of_block hSw 2; have x3 := Joins.cell_of_block hSw 3; have x4 := Joins.cell_of_block hSw 4; simp only [List.getElem?_toArray, List.getElem?_cons_zero, List.getElem?_cons_succ] at x0 x1 x2 x3 x4; have hx := lgh_lt hSw; go_simp <;> with_reducible rfl)
    try simp only [Act.put, List.setIfInBounds_toArray, List.set_cons_zero, List.set_cons_succ]
    refine wpAnyH_done (by kernel_rfl) ?_ _
    go_wp2
    refine bodyPost_ret (v := .tuple #[.agg #[.int .i64 q, .int .i64 t, .int .i64 kk, .int .i64 v, .int .i64 nn], .bool _]) (by simp (maxDischargeDepth := 9) [results, Tryd.results15, go_sem, *]; first | done | rfl | exact ⟨rfl, rfl⟩) rfl ?_
    exact ⟨_, t, kk, v, nn, false, by first | rfl | (rw [hq3]; rfl), unhide HR, (by repeat (first | (with_reducible exact unhide hB) | (with_reducible refine bel_drew ?_) | (with_reducible refine bel_set ?_ (by show w.heap.size ≤ w.heap.size; omega) _)))⟩
  | true =>
    by_cases hq : q = 3
    · have hq3 : (q == 3) = true := by simpa using hq
      have hq4 : (q != 3) = false := by simp [hq]
      clear hq
      refine wp_region_held_drew (S := (fun W => W.heap[X]? = some (.cells #[.int .i64 q, .int .i64 t, .int .i64 kk, .int .i64 v, .int .i64 nn] 34 (0, 0)))) (by kernel_rfl) ?_ (fun hHeld => ?_)
      · ((try dsimp only); exact bX)
      refine wpAnyH_take (i := 0) (v := ?_) (by simp only [List.getElem?_toArray, List.getElem?_cons_zero, List.getElem?_cons_succ]; rfl) (by kernel_rfl) (by kernel_rfl) (by kernel_rfl) (by intro _ _ _ h; exact h) (Or.inl ⟨by rfl, ?_⟩) (by assumption) ?_
      rotate_left
      · (intro w9 hSw; (try dsimp only at hSw); have x0 := Joins.cell_of_block hSw 0; have x1 := Joins.cell_of_block hSw 1; have x2 := Joins.cell_of_block hSw 2; have x3 := Joins.cell_of_block hSw 3; have x4 := Joins.cell_of_block hSw 4; simp only [List.getElem?_toArray, List.getElem?_cons_zero, List.getElem?_cons_succ] at x0 x1 x2 x3 x4; have hx := lgh_lt hSw; go_simp <;> with_reducible rfl)
      try simp only [Act.put, List.setIfInBounds_toArray, List.set_cons_zero, List.set_cons_succ]
      refine wpAnyH_take (i := 1) (v := ?_) (by simp only [List.getElem?_toArray, List.getElem?_cons_zero, List.getElem?_cons_succ]; rfl) (by kernel_rfl) (by kernel_rfl) (by kernel_rfl) (by intro _ _ _ h; exact h) (Or.inl ⟨by rfl, ?_⟩) (by assumption) ?_
      rotate_left
      · (intro w9 hSw; (try dsimp only at hSw); have x0 := Joins.cell_of_block hSw 0; have x1 := Joins.cell_of_block hSw 1; have x2 := Joins.cell_of_block hSw 2; have x3 := Joins.cell_of_block hSw 3; have x4 := Joins.cell_of_block hSw 4; simp only [List.getElem?_toArray, List.getElem?_cons_zero, List.getElem?_cons_succ] at x0 x1 x2 x3 x4; have hx := lgh_lt hSw; go_simp <;> with_reducible rfl)
      try simp only [Act.put, List.setIfInBounds_toArray, List.set_cons_zero, List.set_cons_succ]
      refine wpAnyH_take (i := 2) (v := ?_) (by simp only [List.getElem?_toArray, List.getElem?_cons_zero, List.getElem?_cons_succ]; rfl) (by kernel_rfl) (by kernel_rfl) (by kernel_rfl) (by intro _ _ _ h; exact h) (Or.inl ⟨by rfl, ?_⟩) (by assumption) ?_
      rotate_left
      · (intro w9 hSw; (try dsimp only at hSw); have x0 := Joins.cell_of_block hSw 0; have x1 := Joins.cell_of_block hSw 1; have x2 := Joins.cell_of_block hSw 2; have x3 := Joins.cell_of_block hSw 3; have x4 := Joins.cell_of_block hSw 4; simp only [List.getElem?_toArray, List.getElem?_cons_zero, List.getElem?_cons_succ] at x0 x1 x2 x3 x4; have hx := lgh_lt hSw; go_simp <;> with_reducible rfl)
      try simp only [Act.put, List.setIfInBounds_toArray, List.set_cons_zero, List.set_cons_succ]
      refine wpAnyH_take (i := 3) (v := ?_) (by simp only [List.getElem?_toArray, List.getElem?_cons_zero, List.getElem?_cons_succ]; rfl) (by kernel_rfl) (by kernel_rfl) (by kernel_rfl) (by intro _ _ _ h; exact h) (Or.inl ⟨by rfl, ?_⟩) (by assumption) ?_
      rotate_left
      · (intro w9 hSw; (try dsimp only at hSw); have x0 := Joins.cell_of_block hSw 0; have x1 := Joins.cell_of_block hSw 1; have x2 := Joins.cell_of_block hSw 2; have x3 := Joins.cell_of_block hSw 3; have x4 := Joins.cell_of_block hSw 4; simp only [List.getElem?_toArray, List.getElem?_cons_zero, List.getElem?_cons_succ] at x0 x1 x2 x3 x4; have hx := lgh_lt hSw; go_simp <;> with_reducible rfl)
      try simp only [Act.put, List.setIfInBounds_toArray, List.set_cons_zero, List.set_cons_succ]
      refine wpAnyH_take (i := 4) (v := ?_) (by simp only [List.getElem?_toArray, List.getElem?_cons_zero, List.getElem?_cons_succ]; rfl) (by kernel_rfl) (by kernel_rfl) (by kernel_rfl) (by intro _ _ _ h; exact h) (Or.inl ⟨by rfl, ?_⟩) (by assumption) ?_
      rotate_left
      · (intro w9 hSw; (try dsimp only at hSw); have x0 := Joins.cell_of_block hSw 0; have x1 := Joins.cell_of_block hSw 1; have x2 := Joins.cell_of_block hSw 2; have x3 := Joins.cell_of_block hSw 3; have x4 := Joins.cell_of_block hSw 4; simp only [List.getElem?_toArray, List.getElem?_cons_zero, List.getElem?_cons_succ] at x0 x1 x2 x3 x4; have hx := lgh_lt hSw; go_simp <;> with_reducible rfl)
      try simp only [Act.put, List.setIfInBounds_toArray, List.set_cons_zero, List.set_cons_succ]
      refine wpAnyH_take (i := 5) (v := ?_) (by simp only [List.getElem?_toArray, List.getElem?_cons_zero, List.getElem?_cons_succ]; rfl) (by kernel_rfl) (by kernel_rfl) (by kernel_rfl) (by intro _ _ _ h; exact h) (Or.inl ⟨by rfl, ?_⟩) (by assumption) ?_
      rotate_left
      · (intro w9 hSw; (try dsimp only at hSw); have x0 := Joins.cell_of_block hSw 0; have x1 := Joins.cell_of_block hSw 1; have x2 := Joins.cell_of_block hSw 2; have x3 := Joins.cell_of_block hSw 3; have x4 := Joins.cell_of_block hSw 4; simp only [List.getElem?_toArray, List.getElem?_cons_zero, List.getElem?_cons_succ] at x0 x1 x2 x3 x4; have hx := lgh_lt hSw; go_simp <;> with_reducible rfl)
      try simp only [Act.put, List.setIfInBounds_toArray, List.set_cons_zero, List.set_cons_succ]
      refine wpAnyH_take (i := 6) (v := ?_) (by simp only [List.getElem?_toArray, List.getElem?_cons_zero, List.getElem?_cons_succ]; rfl) (by kernel_rfl) (by kernel_rfl) (by kernel_rfl) (by intro _ _ _ h; exact h) (Or.inl ⟨by rfl, ?_⟩) (by assumption) ?_
      rotate_left
      · (intro w9 hSw; (try dsimp only at hSw); have x0 := Joins.cell_of_block hSw 0; have x1 := Joins.cell_of_block hSw 1; have x2 := Joins.cell_of_block hSw 2; have x3 := Joins.cell_of_block hSw 3; have x4 := Joins.cell_of_block hSw 4; simp only [List.getElem?_toArray, List.getElem?_cons_zero, List.getElem?_cons_succ] at x0 x1 x2 x3 x4; have hx := lgh_lt hSw; go_simp <;> with_reducible rfl)
      try simp only [Act.put, List.setIfInBounds_toArray, List.set_cons_zero, List.set_cons_succ]
      refine wpAnyH_ready (rs := [7]) (by kernel_rfl) (by simp) ?_
      refine AllReadyH.cons (by simp only [List.getElem?_toArray, List.getElem?_cons_zero, List.getElem?_cons_succ]; rfl) (fun K hK => ?_) AllReadyH.nil
      go_simp
      refine hK.out _ _ ?_ (fun hHeld2 => ?_)
      · ((try dsimp only); repeat (first | (with_reducible exact bX) | refine (Below.heap_setCell _ _ _ _ (by show X ≠ w.heap.size; omega)).trans ?_ | (show (World.setCell _ _ _).heap[X]? = _)))
      clear hK K hHeld
      have hHeld := hHeld2
      clear hHeld2
      try simp only [Act.put, List.setIfInBounds_toArray, List.set_cons_zero, List.set_cons_succ]
      refine wpAnyH_take (i := 8) (v := ?_) (by simp only [List.getElem?_toArray, List.getElem?_cons_zero, List.getElem?_cons_succ]; rfl) (by kernel_rfl) (by kernel_rfl) (by kernel_rfl) (by intro _ _ _ h; exact h) (Or.inl ⟨by rfl, ?_⟩) (by assumption) ?_
      rotate_left
      · (intro w9 hSw; (try dsimp only at hSw); have x0 := Joins.cell_of_block hSw 0; have x1 := Joins.cell_of_block hSw 1; have x2 := Joins.cell_of_block hSw 2; have x3 := Joins.cell_of_block hSw 3; have x4 := Joins.cell_of_block hSw 4; simp only [List.getElem?_toArray, List.getElem?_cons_zero, List.getElem?_cons_succ] at x0 x1 x2 x3 x4; have hx := lgh_lt hSw; go_simp <;> with_reducible rfl)
      try simp only [Act.put, List.setIfInBounds_toArray, List.set_cons_zero, List.set_cons_succ]
      refine wpAnyH_done (by kernel_rfl) ?_ _
      go_wp2
      refine bodyPost_ret (v := .tuple #[.agg #[.int .i64 q, .int .i64 t, .int .i64 kk, .int .i64 v, .int .i64 nn], .bool _]) (by simp (maxDischargeDepth := 9) [results, Tryd.results15, go_sem, *]; first | done | rfl | exact ⟨rfl, rfl⟩) rfl ?_
      exact ⟨_, t, kk, v, nn, true, by first | rfl | (rw [hq3]; rfl), unhide HR, (by repeat (first | (with_reducible exact unhide hB) | (with_reducible refine bel_drew ?_) | (with_reducible refine bel_set ?_ (by show w.heap.size ≤ w.heap.size; omega) _)))⟩
    · have hq3 : (q == 3) = false := by simpa using hq
      have hq4 : (q != 3) = true := by simpa using hq
      refine wp_region_held_drew (S := (fun W => W.heap[X]? = some (.cells #[.int .i64 q, .int .i64 t, .int .i64 kk, .int .i64 v, .int .i64 nn] 34 (0, 0)))) (by kernel_rfl) ?_ (fun hHeld => ?_)
      · ((try dsimp only); exact bX)
      refine wpAnyH_take (i := 0) (v := ?_) (by simp only [List.getElem?_toArray, List.getElem?_cons_zero, List.getElem?_cons_succ]; rfl) (by kernel_rfl) (by kernel_rfl) (by kernel_rfl) (by intro _ _ _ h; exact h) (Or.inl ⟨by rfl, ?_⟩) (by assumption) ?_
      rotate_left
      · (intro w9 hSw; (try dsimp only at hSw); have x0 := Joins.cell_of_block hSw 0; have x1 := Joins.cell_of_block hSw 1; have x2 := Joins.cell_of_block hSw 2; have x3 := Joins.cell_of_block hSw 3; have x4 := Joins.cell_of_block hSw 4; simp only [List.getElem?_toArray, List.getElem?_cons_zero, List.getElem?_cons_succ] at x0 x1 x2 x3 x4; have hx := lgh_lt hSw; go_simp <;> with_reducible rfl)
      try simp only [Act.put, List.setIfInBounds_toArray, List.set_cons_zero, List.set_cons_succ]
      refine wpAnyH_take (i := 1) (v := ?_) (by simp only [List.getElem?_toArray, List.getElem?_cons_zero, List.getElem?_cons_succ]; rfl) (by kernel_rfl) (by kernel_rfl) (by kernel_rfl) (by intro _ _ _ h; exact h) (Or.inl ⟨by rfl, ?_⟩) (by assumption) ?_
      rotate_left
      · (intro w9 hSw; (try dsimp only at hSw); have x0 := Joins.cell_of_block hSw 0; have x1 := Joins.cell_of_block hSw 1; have x2 := Joins.cell_of_block hSw 2; have x3 := Joins.cell_of_block hSw 3; have x4 := Joins.cell_of_block hSw 4; simp only [List.getElem?_toArray, List.getElem?_cons_zero, List.getElem?_cons_succ] at x0 x1 x2 x3 x4; have hx := lgh_lt hSw; go_simp <;> with_reducible rfl)
      try simp only [Act.put, List.setIfInBounds_toArray, List.set_cons_zero, List.set_cons_succ]
      refine wpAnyH_take (i := 2) (v := ?_) (by simp only [List.getElem?_toArray, List.getElem?_cons_zero, List.getElem?_cons_succ]; rfl) (by kernel_rfl) (by kernel_rfl) (by kernel_rfl) (by intro _ _ _ h; exact h) (Or.inl ⟨by rfl, ?_⟩) (by assumption) ?_
      rotate_left
      · (intro w9 hSw; (try dsimp only at hSw); have x0 := Joins.cell_of_block hSw 0; have x1 := Joins.cell_of_block hSw 1; have x2 := Joins.cell_of_block hSw 2; have x3 := Joins.cell_of_block hSw 3; have x4 := Joins.cell_of_block hSw 4; simp only [List.getElem?_toArray, List.getElem?_cons_zero, List.getElem?_cons_succ] at x0 x1 x2 x3 x4; have hx := lgh_lt hSw; go_simp <;> with_reducible rfl)
      try simp only [Act.put, List.setIfInBounds_toArray, List.set_cons_zero, List.set_cons_succ]
      refine wpAnyH_take (i := 3) (v := ?_) (by simp only [List.getElem?_toArray, List.getElem?_cons_zero, List.getElem?_cons_succ]; rfl) (by kernel_rfl) (by kernel_rfl) (by kernel_rfl) (by intro _ _ _ h; exact h) (Or.inl ⟨by rfl, ?_⟩) (by assumption) ?_
      rotate_left
      · (intro w9 hSw; (try dsimp only at hSw); have x0 := Joins.cell_of_block hSw 0; have x1 := Joins.cell_of_block hSw 1; have x2 := Joins.cell_of_block hSw 2; have x3 := Joins.cell_of_block hSw 3; have x4 := Joins.cell_of_block hSw 4; simp only [List.getElem?_toArray, List.getElem?_cons_zero, List.getElem?_cons_succ] at x0 x1 x2 x3 x4; have hx := lgh_lt hSw; go_simp <;> with_reducible rfl)
      try simp only [Act.put, List.setIfInBounds_toArray, List.set_cons_zero, List.set_cons_succ]
      refine wpAnyH_take (i := 4) (v := ?_) (by simp only [List.getElem?_toArray, List.getElem?_cons_zero, List.getElem?_cons_succ]; rfl) (by kernel_rfl) (by kernel_rfl) (by kernel_rfl) (by intro _ _ _ h; exact h) (Or.inl ⟨by rfl, ?_⟩) (by assumption) ?_
      rotate_left
      · (intro w9 hSw; (try dsimp only at hSw); have x0 := Joins.cell_of_block hSw 0; have x1 := Joins.cell_of_block hSw 1; have x2 := Joins.cell_of_block hSw 2; have x3 := Joins.cell_of_block hSw 3; have x4 := Joins.cell_of_block hSw 4; simp only [List.getElem?_toArray, List.getElem?_cons_zero, List.getElem?_cons_succ] at x0 x1 x2 x3 x4; have hx := lgh_lt hSw; go_simp <;> with_reducible rfl)
      try simp only [Act.put, List.setIfInBounds_toArray, List.set_cons_zero, List.set_cons_succ]
      refine wpAnyH_take (i := 5) (v := ?_) (by simp only [List.getElem?_toArray, List.getElem?_cons_zero, List.getElem?_cons_succ]; rfl) (by kernel_rfl) (by kernel_rfl) (by kernel_rfl) (by intro _ _ _ h; exact h) (Or.inl ⟨by rfl, ?_⟩) (by assumption) ?_
      rotate_left
      · (intro w9 hSw; (try dsimp only at hSw); have x0 := Joins.cell_of_block hSw 0; have x1 := Joins.cell_of_block hSw 1; have x2 := Joins.cell_of_block hSw 2; have x3 := Joins.cell_of_block hSw 3; have x4 := Joins.cell_of_block hSw 4; simp only [List.getElem?_toArray, List.getElem?_cons_zero, List.getElem?_cons_succ] at x0 x1 x2 x3 x4; have hx := lgh_lt hSw; go_simp <;> with_reducible rfl)
      try simp only [Act.put, List.setIfInBounds_toArray, List.set_cons_zero, List.set_cons_succ]
      refine wpAnyH_take (i := 6) (v := ?_) (by simp only [List.getElem?_toArray, List.getElem?_cons_zero, List.getElem?_cons_succ]; rfl) (by kernel_rfl) (by kernel_rfl) (by kernel_rfl) (by intro _ _ _ h; exact h) (Or.inl ⟨by rfl, ?_⟩) (by assumption) ?_
      rotate_left
      · (intro w9 hSw; (try dsimp only at hSw); have x0 := Joins.cell_of_block hSw 0; have x1 := Joins.cell_of_block hSw 1; have x2 := Joins.cell_of_block hSw 2; have x3 := Joins.cell_of_block hSw 3; have x4 := Joins.cell_of_block hSw 4; simp only [List.getElem?_toArray, List.getElem?_cons_zero, List.getElem?_cons_succ] at x0 x1 x2 x3 x4; have hx := lgh_lt hSw; go_simp <;> with_reducible rfl)
      try simp only [Act.put, List.setIfInBounds_toArray, List.set_cons_zero, List.set_cons_succ]
      refine wpAnyH_ready (rs := [7]) (by kernel_rfl) (by simp) ?_
      refine AllReadyH.cons (by simp only [List.getElem?_toArray, List.getElem?_cons_zero, List.getElem?_cons_succ]; rfl) (fun K hK => ?_) AllReadyH.nil
      go_simp
      refine hK.out _ _ ?_ (fun hHeld2 => ?_)
      · ((try dsimp only); repeat (first | (with_reducible exact bX) | refine (Below.heap_setCell _ _ _ _ (by show X ≠ w.heap.size; omega)).trans ?_ | (show (World.setCell _ _ _).heap[X]? = _)))
      clear hK K hHeld
      have hHeld := hHeld2
      clear hHeld2
      try simp only [Act.put, List.setIfInBounds_toArray, List.set_cons_zero, List.set_cons_succ]
      refine wpAnyH_take (i := 8) (v := ?_) (by simp only [List.getElem?_toArray, List.getElem?_cons_zero, List.getElem?_cons_succ]; rfl) (by kernel_rfl) (by kernel_rfl) (by kernel_rfl) (by intro _ _ _ h; exact h) (Or.inl ⟨by rfl, ?_⟩) (by assumption) ?_
      rotate_left
      · (intro w9 hSw; (try dsimp only at hSw); have x0 := Joins.cell_of_block hSw 0; have x1 := Joins.cell_of_block hSw 1; have x2 := Joins.cell_of_block hSw 2; have x3 := Joins.cell_of_block hSw 3; have x4 := Joins.cell_of_block hSw 4; simp only [List.getElem?_toArray, List.getElem?_cons_zero, List.getElem?_cons_succ] at x0 x1 x2 x3 x4; have hx := lgh_lt hSw; go_simp <;> with_reducible rfl)
      try simp only [Act.put, List.setIfInBounds_toArray, List.set_cons_zero, List.set_cons_succ]
      refine wpAnyH_done (by kernel_rfl) ?_ _
      go_wp2
      refine bodyPost_ret (v := .tuple #[.agg #[.int .i64 q, .int .i64 t, .int .i64 kk, .int .i64 v, .int .i64 nn], .bool _]) (by simp (maxDischargeDepth := 9) [results, Tryd.results15, go_sem, *]; first | done | rfl | exact ⟨rfl, rfl⟩) rfl ?_
      exact ⟨_, t, kk, v, nn, true, by first | rfl | (rw [hq3]; rfl), unhide HR, (by repeat (first | (with_reducible exact unhide hB) | (with_reducible refine bel_drew ?_) | (with_reducible refine bel_set ?_ (by show w.heap.size ≤ w.heap.size; omega) _)))⟩

set_option maxRecDepth 20000 in
set_option maxHeartbeats 1000000 in
theorem everyLg_any {B : Nat} {v : Value} {us : List Value} {Ls : List (List It)} (w : World) (h : LgO w B v us Ls) (hl : ∀ l ∈ Ls, l.length ≤ 1048576) (hn : Ls.length ≤ 1048576) : Calls Tryd.prog 16 #[v, .func (.func 17) #[] #[]] w fun e w' => e = .returned (.bool (Ls.all okLog)) ∧ Below w.heap.size w w' := by
  obtain ⟨a, c, rfl⟩ := h.slice
  have HL := hide hl
  clear hl
  go_enter Tryd.func16, Tryd.ntmps16
  go_wp2
  go_loopw [9] (fun i wr => ∃ k : Nat, k ≤ Ls.length ∧ i = .int .i64 k ∧ Hid ((Ls.take k).all okLog = true) ∧ Below w.heap.size w wr) (fun i _ => Ls.length - (intOf i).toNat)
  case atStart => exact ⟨0, Nat.zero_le _, rfl, hide (by simp), Below.refl _ _⟩
  case round =>
    obtain ⟨k, hk, rfl, hA, hbw⟩ := hrel
    by_cases hlt : k < Ls.length
    · obtain ⟨l, hlk⟩ : ∃ l, Ls[k]? = some l := ⟨_, List.getElem?_eq_getElem (by omega)⟩
      have hll : l.length ≤ maxLen := Nat.le_trans (unhide HL l (List.mem_of_getElem? hlk)) (by decide)
      obtain ⟨g, cc, e1, _, hg, _⟩ := h.shape (by omega)
      simp only [Value.slice.injEq, true_and] at e1
      obtain ⟨rfl, rfl⟩ := e1
      obtain ⟨b, d, _, hc, hI⟩ := (h.bel hbw).at_ hlk hll
      have HII := hide hI
      have HLK := hide hlk
      have hgt : g < wr.heap.size := Nat.lt_of_lt_of_le hg hbw.size
      clear hI hlk h
      obtain ⟨ob, hob⟩ : ∃ ob, okLog l = ob := ⟨_, rfl⟩
      have HOB := hide hob
      clear hob
      cases ob with
      | false =>
        have HE := hide (all_ffL (unhide HLK) (unhide HOB))
        go_wp2_with (go_at_call 17; refine (impllog_any b l.length d l _ (unhide HII)).mono ?_; rw [unhide HOB]; rintro e wf ⟨rfl, hb⟩)
        go_ret
        exact ⟨ret_b (unhide HE).symm, (by repeat (first | (with_reducible exact Below.refl _ _) | (with_reducible assumption) | (with_reducible refine bel_set ?_ (by first | (simp; done) | (simp; omega)) _) | (with_reducible refine bel_alloc ?_ _) | (with_reducible refine bel_drew ?_) | (with_reducible refine bel_drewN ?_ _) | (with_reducible refine bel_trans ?_ (by with_reducible assumption))))⟩
      | true =>
        have HE := hide (all_ttL (unhide hA) (unhide HLK) (unhide HOB))
        go_wp2_with (go_at_call 17; refine (impllog_any b l.length d l _ (unhide HII)).mono ?_; rw [unhide HOB]; rintro e wf ⟨rfl, hb⟩)
        go_roundw
        case rel => exact ⟨k + 1, by omega, by go_num, HE, (by repeat (first | (with_reducible exact Below.refl _ _) | (with_reducible assumption) | (with_reducible refine bel_set ?_ (by first | (simp; done) | (simp; omega)) _) | (with_reducible refine bel_alloc ?_ _) | (with_reducible refine bel_drew ?_) | (with_reducible refine bel_drewN ?_ _) | (with_reducible refine bel_trans ?_ (by with_reducible assumption))))⟩
        case measure => simp [intOf]; omega
    · have HE : Hid (Ls.all okLog = true) := hide (by have h1 := unhide hA; rwa [List.take_of_length_le (by omega)] at h1)
      go_wp2
      go_ret
      exact ⟨ret_b (unhide HE).symm, hbw⟩
theorem own_emptyN {W : World} {B : Nat} : OwnIts W B (.slice none 0 0) [] := World.ownsRow_nil _ _ _ _
theorem mkLg1 : ∃ C : Array Value, C.toList = [.slice none 0 0] ∧ ∀ w : World, (Instr.makeSlice 24 (.int .i64 1) (.int .i64 1)).run Tryd.prog w = .ok (.slice (some ⟨w.heap.size, 0, none⟩) 1 1) (w.alloc (.cells C 32)) := by
  obtain ⟨i0, hi, hz0, hz1, hz2⟩ := info_parts Tryd.infoLg
  refine ⟨madeCells (Value.slice none 0 0).cells (1 * 1), ?_, fun w => ?_⟩
  · exact toList_madeCells_one _ _
  · have h := run_make (P := Tryd.prog) w 24 32 i0 _ Tryd.underlying24 hi hz0 .i64 .i64 1 1 (by omega) (Int.le_refl _) (by rw [hz2]; omega) (by omega)
    rw [hz1] at h
    simpa using h
theorem lg_startN {C : Array Value} (hC : C.toList = [.slice none 0 0]) (w : World) : LgO (w.alloc (.cells C 32)) w.heap.size (.slice (some ⟨w.heap.size, 0, none⟩) 1 1) [.slice none 0 0] [[]] := by
  refine LgO.one ?_ (World.ownsRow_nil _ _ _ _)
  have h1 := World.ownsRow_lit (base := w.heap.size) (e := 32) (size := 1) w C 1 (Nat.le_refl _) (by decide) (by rw [← Array.length_toList, hC]; rfl)
  rw [hC] at h1
  exact h1
set_option maxRecDepth 20000 in
set_option maxHeartbeats 4000000 in
theorem impldsk_any {tp1 tp2 : TypeId} {p1 p2 : Value} {m : Int} (a : Option Addr) (len cap : Nat) (L : List ByteArray) (rs : List (Option (Option It))) (w : World) (h : StRs w a len (stL L)) (hl : len ≤ 1048576) (hr : LnAll L rs) (hE : Env tp1 tp2 p1 p2 m w) : Calls Tryd.prog 7 #[.slice a len cap] w fun e w' => DsP rs w e w' := by
  obtain ⟨i0, hi, hz0, hz1, hz2⟩ := info_parts Tryd.infoLg
  obtain ⟨i5, hi5, hz50, hz51, hz52⟩ := info_parts Tryd.infoItm
  obtain ⟨C, hC, hmk⟩ := mkLg1
  have hLl : L.length = len := by have := h.1; rw [stL_len] at this; exact this
  have hRl : rs.length = len := hr.1.trans hLl
  have HR := hide hr.2
  clear hr
  go_enter Tryd.func7, Tryd.ntmps7
  by_cases hlong : 400 < len
  · have HD := hide (dskL_long (rs := rs) (by omega))
    have hd1 : decide ((400 : Int) < (len : Int)) = true := by simp; omega
    go_wp2
    refine bodyPost_ret (v := .tuple #[_, _]) (by simp (maxDischargeDepth := 9) [results, Tryd.results7, go_sem, *]; exact ⟨rfl, rfl⟩) rfl ?_
    exact dsp_nil (unhide HD) (Below.refl _ _)
  have hd1 : decide ((400 : Int) < (len : Int)) = false := by simp; omega
  go_wp2
  go_loopw [4, 16] (fun v i wr => ∃ (ix : Nat) (us : List Value) (Ls : List (List It)), ix ≤ len ∧ i = .int .i64 ix ∧ Hid (LgO wr w.heap.size v us Ls) ∧ Hid (DInv rs ix Ls) ∧ Below w.heap.size w wr) (fun _ i _ => len - (intOf i).toNat)
  case atStart => exact ⟨0, [.slice none 0 0], [[]], Nat.zero_le _, rfl, hide (lg_startN hC w), hide (DInv.start rs), bel_one _ _⟩
  case round =>
    clear hmk hC
    obtain ⟨ix, us, Ls, hk, rfl, HO, HI, hbw⟩ := hrel
    have hws := hbw.size
    by_cases hlt : ix < len
    · obtain ⟨x0, hx0⟩ : ∃ x0, L[ix]? = some x0 := ⟨_, List.getElem?_eq_getElem (by omega)⟩
      obtain ⟨r, hr⟩ : ∃ r, rs[ix]? = some r := ⟨_, List.getElem?_eq_getElem (by omega)⟩
      have HLn := hide (unhide HR ix x0 r hx0 hr)
      have HRr := hide hr
      obtain ⟨g0, o0, rfl⟩ : ∃ g o, a = some ⟨g, o, none⟩ := by
        obtain ⟨g, o, ha, _⟩ := h.2.2.resolve_left (by omega)
        exact ⟨g, o, ha⟩
      obtain ⟨d0, hg0⟩ := st_at (h.below hbw) hx0
      clear hx0 hr
      by_cases hda : x0 = dashB
      · have ty := toL_yes (x := x0) (l := [45]) hda
        have e1 := (unhide HLn).dash hda
        subst e1
        obtain ⟨av, cv, rfl⟩ := (unhide HO).slice
        have hpp := (unhide HI).pos
        have hle := (unhide HI).le
        have hLL : Ls.length ≤ 401 := by omega
        have hge := (unhide HO).row.lt
        clear hda
        go_wp2_with (at_builtin; go_loud (refine wpList_append_own _ rfl _ _ 24 rfl w.heap.size 32 i0 _ 1 24 Tryd.underlying24 hi hz0 hz1 hz2 rfl (by decide) (.slice av Ls.length cv) _ _ rfl (World.ownsRow.alloc (unhide HO).row _) ⟨wr.heap.size, 0, none⟩ 1 1 [.slice none 0 0] rfl rfl (cell_new1L wr (by simp) _ _) (by simp [Value.oneCell']) (by unfold maxLen; omega) (by omega) (by simp; omega) ?_); intro v' w5 hown hgrow _)
        go_roundw
        case rel =>
          refine ⟨ix + 1, us ++ [.slice none 0 0], Ls ++ [[]], by omega, by go_num, hide ((unhide HO).push own_emptyN (fun i u' b hu hb e9 => by cases e9) hown hgrow), hide ((unhide HI).step (unhide HRr)), ?_⟩
          exact (bel_alloc hbw _).grown hgrow (by simp; omega) (fun k9 h9 => (hge k9 h9).1)
        case measure => simp [intOf]; omega
      · have ty := toL_no (x := x0) (l := [45]) hda
        have HDa := hide hda
        clear hda
        go_wp2_with fail
        refine (readlog_any x0 _ (hE.bel hbw)).mono ?_
        rintro e wq ⟨q, t, kk, v, nn, c, rfl, hRd, hbq⟩
        have e1 := (unhide HLn).itm (unhide HDa) hRd
        clear hRd
        have hbW : Below w.heap.size w wq := bel_trans hbw hbq
        have HOq := hide ((unhide HO).bel hbq)
        have hwq := hbq.size
        clear d0 hg0 HO
        have hlo : rs.length ≤ 400 := by omega
        by_cases hcq : c = true ∧ q ≠ 3
        rotate_left
        · have HD := hide ((unhide HI).bad (ix := ix) (by rw [unhide HRr, e1, if_neg hcq]) hlo)
          have hcf : (c && !(q == 3)) = false := by
            cases c with
            | false => rfl
            | true => have : q = 3 := by simpa using hcq
                      simp [this]
          clear hcq
          rw [hcf]
          go_wp2
          refine bodyPost_ret (v := .tuple #[_, _]) (by simp (maxDischargeDepth := 9) [results, Tryd.results7, go_sem, *]; exact ⟨rfl, rfl⟩) rfl ?_
          exact dsp_nil (unhide HD) (by repeat (first | (with_reducible exact Below.refl _ _) | (with_reducible assumption) | (with_reducible refine bel_set ?_ (by first | (simp; done) | (simp; omega)) _) | (with_reducible refine bel_alloc ?_ _) | (with_reducible refine bel_drew ?_) | (with_reducible refine bel_drewN ?_ _) | (with_reducible refine bel_trans ?_ (by with_reducible assumption))))
        · have hct : (c && !(q == 3)) = true := by simp [hcq.1, hcq.2]
          have e2 : r = some (some ⟨q, t, kk, v, nn⟩) := by rw [e1, if_pos hcq]
          clear hcq
          rw [hct]
          clear hct
          subst e2
          have HST := hide ((unhide HI).step (unhide HRr))
          have hpp := (unhide HI).pos
          have hles := (unhide HI).les
          have hwn : (wq.alloc (.cells #[.int .i64 q, .int .i64 t, .int .i64 kk, .int .i64 v, .int .i64 nn] 34)).heap.size = wq.heap.size + 1 := by simp
          obtain ⟨k, g, cap9, l, b, d, hkl, rfl, hlk, huk, hll, hcl, hg, hOu, hfz, hne⟩ := ((unhide HOq).bel (bel_one wq (.cells #[.int .i64 q, .int .i64 t, .int .i64 kk, .int .i64 v, .int .i64 nn] 34))).tip hpp (fun l h9 => by have := hles l h9; omega)
          have HO2 := hide ((unhide HOq).bel (bel_one wq (.cells #[.int .i64 q, .int .i64 t, .int .i64 kk, .int .i64 v, .int .i64 nn] 34)))
          have HU := hide hOu
          have hke : k ≤ 400 := by have := (unhide HI).le; omega
          have hwk : IntKind.i64.wrap (k : Int) = (k : Int) := IntWalk.i64_in _ ⟨by omega, by omega⟩
          have hki : (k : Int) < (k : Int) + 1 := by omega
          have hwk2 : IntKind.i64.wrap ((k : Int) + 1 - 1) = (k : Int) := by rw [show (k : Int) + 1 - 1 = (k : Int) by omega]; exact hwk
          have bX := World.alloc_heap_new wq (.cells #[.int .i64 q, .int .i64 t, .int .i64 kk, .int .i64 v, .int .i64 nn] 34)
          have HW := hide (show Below w.heap.size w (wq.alloc (.cells #[.int .i64 q, .int .i64 t, .int .i64 kk, .int .i64 v, .int .i64 nn] 34)) from bel_alloc hbW _)
          have HLK := hide hlk
          have HUK := hide huk
          have HKL := hide hkl
          have hub : ∀ y, (Value.slice b l.length d).ownBlock = some y → y < wq.heap.size := fun y hy => ((unhide HOq).lts huk hy).2
          clear hOu hlk huk hles hkl HOq HI e1 HLn
          go_upto_region 13 with fail
          have HX : Hid ((wq.alloc (.cells #[.int .i64 q, .int .i64 t, .int .i64 kk, .int .i64 v, .int .i64 nn] 34)).heap[wq.heap.size]? = some (.cells #[.int .i64 q, .int .i64 t, .int .i64 kk, .int .i64 v, .int .i64 nn] 34 (0, 0))) := hide bX
          have hneX : some wq.heap.size ≠ (Value.slice b l.length d).ownBlock := fun e9 => by have := hub _ e9.symm; omega
          have hneG : some g ≠ (Value.slice b l.length d).ownBlock := fun e9 => hne e9.symm
          have hzW := (unhide HW).size
          clear hub hne bX hwn hbW hbq
          generalize hXB : wq.heap.size = XB at HX hneX ⊢
          clear hXB
          generalize wq.alloc (.cells #[.int .i64 q, .int .i64 t, .int .i64 kk, .int .i64 v, .int .i64 nn] 34) = wz at HX HW HO2 HU hcl hg hfz hzW ⊢
          have bX := unhide HX
          have bG := hcl
          have hzG := hg
          have HF : Hid (∀ (w9 : World) (v9 : Value), w9.ownsRow w.heap.size 34 5 v9 (l.length + 1) (flat l ++ [.int .i64 q, .int .i64 t, .int .i64 kk, .int .i64 v, .int .i64 nn]) → (wz.alloc (.cells #[.int .i64 q, .int .i64 t, .int .i64 kk, .int .i64 v, .int .i64 nn] 34)).grownBy w9 (Value.slice b l.length d).ownBlock → w9.frozen? ⟨g, k, none⟩ = false) := hide (fun w9 v9 _ hg9 => by
            rw [World.frozen?_of_block (w := wz) (a := ⟨g, k, none⟩) ((hg9.block g (by simp; omega) hneG).trans (Below.heap_alloc wz _ g hg))]
            exact hfz)
          refine wp_region_P [10] (fun W => W.cell? ⟨g, k, none⟩ = some (.slice b l.length d) ∧ (W.heap[XB]? = some (.cells #[.int .i64 q, .int .i64 t, .int .i64 kk, .int .i64 v, .int .i64 nn] 34 (0, 0)) ∧ g < W.heap.size)) (by kernel_rfl) ?_ (fun hHeld => ?_)
          · (try dsimp only); exact ⟨bG, bX, hzG⟩
          refine wpAnyP_take (i := 0) (v := ?_) (by simp only [List.getElem?_toArray, List.getElem?_cons_zero, List.getElem?_cons_succ]; rfl) (by kernel_rfl) (by kernel_rfl) (by kernel_rfl) (by kernel_rfl) (by intro _ _ _ h; exact h) (Or.inl ⟨by rfl, ?_⟩) (by assumption) ?_
          rotate_left
          · (intro w9 hSw; (try dsimp only at hSw); obtain ⟨hk1, hk2, hk3⟩ := hSw; have x0 := Joins.cell_of_block hk2 0; have x1 := Joins.cell_of_block hk2 1; have x2 := Joins.cell_of_block hk2 2; have x3 := Joins.cell_of_block hk2 3; have x4 := Joins.cell_of_block hk2 4; simp only [List.getElem?_toArray, List.getElem?_cons_zero, List.getElem?_cons_succ] at x0 x1 x2 x3 x4; have hx := lgh_lt hk2; go_simp <;> with_reducible rfl)
          try simp only [Act.put, List.setIfInBounds_toArray, List.set_cons_zero, List.set_cons_succ]
          refine wpAnyP_take (i := 1) (v := ?_) (by simp only [List.getElem?_toArray, List.getElem?_cons_zero, List.getElem?_cons_succ]; rfl) (by kernel_rfl) (by kernel_rfl) (by kernel_rfl) (by kernel_rfl) (by intro _ _ _ h; exact h) (Or.inl ⟨by rfl, ?_⟩) (by assumption) ?_
          rotate_left
          · (intro w9 hSw; (try dsimp only at hSw); obtain ⟨hk1, hk2, hk3⟩ := hSw; have x0 := Joins.cell_of_block hk2 0; have x1 := Joins.cell_of_block hk2 1; have x2 := Joins.cell_of_block hk2 2; have x3 := Joins.cell_of_block hk2 3; have x4 := Joins.cell_of_block hk2 4; simp only [List.getElem?_toArray, List.getElem?_cons_zero, List.getElem?_cons_succ] at x0 x1 x2 x3 x4; have hx := lgh_lt hk2; go_simp <;> with_reducible rfl)
          try simp only [Act.put, List.setIfInBounds_toArray, List.set_cons_zero, List.set_cons_succ]
          refine wpAnyP_take (i := 2) (v := ?_) (by simp only [List.getElem?_toArray, List.getElem?_cons_zero, List.getElem?_cons_succ]; rfl) (by kernel_rfl) (by kernel_rfl) (by kernel_rfl) (by kernel_rfl) (by intro _ _ _ h; exact h) (Or.inl ⟨by rfl, ?_⟩) (by assumption) ?_
          rotate_left
          · (intro w9 hSw; (try dsimp only at hSw); obtain ⟨hk1, hk2, hk3⟩ := hSw; have x0 := Joins.cell_of_block hk2 0; have x1 := Joins.cell_of_block hk2 1; have x2 := Joins.cell_of_block hk2 2; have x3 := Joins.cell_of_block hk2 3; have x4 := Joins.cell_of_block hk2 4; simp only [List.getElem?_toArray, List.getElem?_cons_zero, List.getElem?_cons_succ] at x0 x1 x2 x3 x4; have hx := lgh_lt hk2; go_simp <;> with_reducible rfl)
          try simp only [Act.put, List.setIfInBounds_toArray, List.set_cons_zero, List.set_cons_succ]
          refine wpAnyP_take (i := 3) (v := ?_) (by simp only [List.getElem?_toArray, List.getElem?_cons_zero, List.getElem?_cons_succ]; rfl) (by kernel_rfl) (by kernel_rfl) (by kernel_rfl) (by kernel_rfl) (by intro _ _ _ h; exact h) (Or.inl ⟨by rfl, ?_⟩) (by assumption) ?_
          rotate_left
          · (intro w9 hSw; (try dsimp only at hSw); obtain ⟨hk1, hk2, hk3⟩ := hSw; have x0 := Joins.cell_of_block hk2 0; have x1 := Joins.cell_of_block hk2 1; have x2 := Joins.cell_of_block hk2 2; have x3 := Joins.cell_of_block hk2 3; have x4 := Joins.cell_of_block hk2 4; simp only [List.getElem?_toArray, List.getElem?_cons_zero, List.getElem?_cons_succ] at x0 x1 x2 x3 x4; have hx := lgh_lt hk2; go_simp <;> with_reducible rfl)
          try simp only [Act.put, List.setIfInBounds_toArray, List.set_cons_zero, List.set_cons_succ]
          refine wpAnyP_take (i := 4) (v := ?_) (by simp only [List.getElem?_toArray, List.getElem?_cons_zero, List.getElem?_cons_succ]; rfl) (by kernel_rfl) (by kernel_rfl) (by kernel_rfl) (by kernel_rfl) (by intro _ _ _ h; exact h) (Or.inl ⟨by rfl, ?_⟩) (by assumption) ?_
          rotate_left
          · (intro w9 hSw; (try dsimp only at hSw); obtain ⟨hk1, hk2, hk3⟩ := hSw; have x0 := Joins.cell_of_block hk2 0; have x1 := Joins.cell_of_block hk2 1; have x2 := Joins.cell_of_block hk2 2; have x3 := Joins.cell_of_block hk2 3; have x4 := Joins.cell_of_block hk2 4; simp only [List.getElem?_toArray, List.getElem?_cons_zero, List.getElem?_cons_succ] at x0 x1 x2 x3 x4; have hx := lgh_lt hk2; go_simp <;> with_reducible rfl)
          try simp only [Act.put, List.setIfInBounds_toArray, List.set_cons_zero, List.set_cons_succ]
          refine wpAnyP_take (i := 5) (v := ?_) (by simp only [List.getElem?_toArray, List.getElem?_cons_zero, List.getElem?_cons_succ]; rfl) (by kernel_rfl) (by kernel_rfl) (by kernel_rfl) (by kernel_rfl) (by intro _ _ _ h; exact h) (Or.inl ⟨by rfl, ?_⟩) (by assumption) ?_
          rotate_left
          · (intro w9 hSw; (try dsimp only at hSw); obtain ⟨hk1, hk2, hk3⟩ := hSw; have x0 := Joins.cell_of_block hk2 0; have x1 := Joins.cell_of_block hk2 1; have x2 := Joins.cell_of_block hk2 2; have x3 := Joins.cell_of_block hk2 3; have x4 := Joins.cell_of_block hk2 4; simp only [List.getElem?_toArray, List.getElem?_cons_zero, List.getElem?_cons_succ] at x0 x1 x2 x3 x4; have hx := lgh_lt hk2; go_simp <;> with_reducible rfl)
          try simp only [Act.put, List.setIfInBounds_toArray, List.set_cons_zero, List.set_cons_succ]
          refine wpAnyP_take (i := 6) (v := ?_) (by simp only [List.getElem?_toArray, List.getElem?_cons_zero, List.getElem?_cons_succ]; rfl) (by kernel_rfl) (by kernel_rfl) (by kernel_rfl) (by kernel_rfl) (by intro _ _ _ h; exact h) (Or.inl ⟨by rfl, ?_⟩) (by assumption) ?_
          rotate_left
          · (intro w9 hSw; (try dsimp only at hSw); obtain ⟨hk1, hk2, hk3⟩ := hSw; have x0 := Joins.cell_of_block hk2 0; have x1 := Joins.cell_of_block hk2 1; have x2 := Joins.cell_of_block hk2 2; have x3 := Joins.cell_of_block hk2 3; have x4 := Joins.cell_of_block hk2 4; simp only [List.getElem?_toArray, List.getElem?_cons_zero, List.getElem?_cons_succ] at x0 x1 x2 x3 x4; have hx := lgh_lt hk2; go_simp <;> with_reducible rfl)
          try simp only [Act.put, List.setIfInBounds_toArray, List.set_cons_zero, List.set_cons_succ]
          refine wpAnyP_ready (rs := [7]) (by kernel_rfl) (by simp) ?_
          refine AllReadyP.cons (by simp only [List.getElem?_toArray, List.getElem?_cons_zero, List.getElem?_cons_succ]; rfl) (fun K hK => ?_) AllReadyP.nil
          go_simp
          refine hK.out _ _ ?_ (fun hHeld2 => ?_)
          · (try dsimp only); exact ⟨(cell_al wz _ hzG).trans bG, (Below.heap_alloc wz _ _ (lgh_lt bX)).trans bX, by simp; omega⟩
          clear hK K hHeld
          have hHeld := hHeld2
          clear hHeld2
          try simp only [Act.put, List.setIfInBounds_toArray, List.set_cons_zero, List.set_cons_succ]
          refine wpAnyP_ready (rs := [8]) (by kernel_rfl) (by simp) ?_
          refine AllReadyP.cons (by simp only [List.getElem?_toArray, List.getElem?_cons_zero, List.getElem?_cons_succ]; rfl) (fun K hK => ?_) AllReadyP.nil
          refine step_append_at rfl (.tmp 43) (.tmp 45) 32 rfl w.heap.size 34 i5 _ 5 40 Tryd.underlying32 hi5 hz50 hz51 hz52 rfl (by decide) (.slice b l.length d) l.length (flat l) (by simp [Act.eval]) (World.ownsRow.alloc (unhide HU) _) ⟨wz.heap.size, 0, none⟩ 1 1 [.int .i64 q, .int .i64 t, .int .i64 kk, .int .i64 v, .int .i64 nn] (by simp [Act.eval]) rfl (cells_new5 wz q t kk v nn _) (by simp [Value.oneCell']) (by unfold maxLen; omega) (by omega) (by simp; omega) ?_
          intro v9 w9 hown9 hgrow9 hwh9
          obtain ⟨g9, c9, rfl⟩ := Go.ownsRow_succ hown9
          replace hgrow9 : (wz.alloc (.cells #[.int .i64 q, .int .i64 t, .int .i64 kk, .int .i64 v, .int .i64 nn] 34)).grownBy w9 (Value.slice b l.length d).ownBlock := ⟨hgrow9.os, hgrow9.tape, hgrow9.output, hgrow9.size, hgrow9.block⟩
          refine hK.out _ _ ?_ (fun hHeld2 => ?_)
          · (try dsimp only); exact ⟨(World.grownBy.cell (w := wz.alloc _) hgrow9 ((cell_al wz _ hzG).trans bG) hneG), (hgrow9.block XB (by simp; have := lgh_lt bX; omega) hneX).trans ((Below.heap_alloc wz _ _ (lgh_lt bX)).trans bX), Nat.lt_of_lt_of_le (by simp; omega) hgrow9.size⟩
          clear hK K hHeld
          have hHeld := hHeld2
          clear hHeld2
          try simp only [Act.put, List.setIfInBounds_toArray, List.set_cons_zero, List.set_cons_succ]
          refine wpAnyP_take (i := 9) (v := ?_) (by simp only [List.getElem?_toArray, List.getElem?_cons_zero, List.getElem?_cons_succ]; rfl) (by kernel_rfl) (by kernel_rfl) (by kernel_rfl) (by kernel_rfl) (by intro _ _ _ h; exact h) (Or.inl ⟨by rfl, ?_⟩) (by assumption) ?_
          rotate_left
          · (intro w9 hSw; (try dsimp only at hSw); obtain ⟨hk1, hk2, hk3⟩ := hSw; have x0 := Joins.cell_of_block hk2 0; have x1 := Joins.cell_of_block hk2 1; have x2 := Joins.cell_of_block hk2 2; have x3 := Joins.cell_of_block hk2 3; have x4 := Joins.cell_of_block hk2 4; simp only [List.getElem?_toArray, List.getElem?_cons_zero, List.getElem?_cons_succ] at x0 x1 x2 x3 x4; have hx := lgh_lt hk2; go_simp <;> with_reducible rfl)
          try simp only [Act.put, List.setIfInBounds_toArray, List.set_cons_zero, List.set_cons_succ]
          have hc9 : w9.cell? ⟨g, k, none⟩ = some (.slice b l.length d) := World.grownBy.cell (w := wz.alloc _) hgrow9 ((cell_al wz _ hzG).trans bG) hneG
          have hf9 : w9.frozen? ⟨g, k, none⟩ = false := unhide HF w9 _ hown9 hgrow9
          have hg9 : g < w9.heap.size := World.block_lt_of_cell? w9 ⟨g, k, none⟩ hc9
          refine wpAnyP_ready (rs := [10]) (by kernel_rfl) (by simp) ?_
          refine AllReadyP.consS (by simp only [List.getElem?_toArray, List.getElem?_cons_zero, List.getElem?_cons_succ]; rfl) (by kernel_rfl) (fun K hK => ?_) AllReadyP.nil
          go_simp
          refine hK.out _ _ ?_
          clear hK K
          try simp only [Act.put, List.setIfInBounds_toArray, List.set_cons_zero, List.set_cons_succ]
          refine wpAnyP_done (by kernel_rfl) ?_ _
          have HN := hide (LgO.tipped (x := ⟨q, t, kk, v, nn⟩) (unhide HO2) hzW (unhide HKL) (unhide HUK) (unhide HLK) hown9 hgrow9 hwh9)
          have hge := (unhide HU).lt
          have hbN : Below w.heap.size w w9 := (bel_alloc (unhide HW) _).grown hgrow9 (by simp; omega) (fun k9 h9 => (hge k9 h9).1)
          have hgg := (unhide HO2).row.lt g rfl
          clear hown9 hgrow9 hwh9 HF hc9 hf9 bX bG hcl
          go_wp2
          go_roundw
          case rel => exact ⟨ix + 1, us.set k (.slice (some ⟨g9, 0, none⟩) (l.length + 1) c9), putL Ls (some ⟨q, t, kk, v, nn⟩), by omega, by go_num, hide (lg_cast (by rw [putL_len]; exact unhide HKL) (unhide HN)), HST, bel_set hbN (by show w.heap.size ≤ g; omega) _⟩
          case measure => simp [intOf]; omega
    · obtain rfl : ix = len := by omega
      have HD := hide ((unhide HI).all (by omega) (by omega))
      have hpp := (unhide HI).pos
      have hles := (unhide HI).les
      have hlll := (unhide HI).le
      clear HI
      go_wp2_with fail
      refine (everyLg_any _ (unhide HO) (fun l h9 => by have := hles l h9; omega) (by omega)).mono ?_
      rintro e wt ⟨rfl, hbt⟩
      have HB := hide (bel_trans hbw hbt)
      have HOF := hide ((unhide HO).bel hbt)
      clear hles
      obtain ⟨ob, hob⟩ : ∃ ob, Ls.all okLog = ob := ⟨_, rfl⟩
      have HOB := hide hob
      rw [hob]
      clear hob
      cases ob with
      | false =>
        have HE := hide (show dskL rs = ([], (rs.length : Int) + 1) by rw [unhide HD, unhide HOB]; rfl)
        rw [hRl] at HE
        go_wp2
        refine bodyPost_ret (v := .tuple #[_, _]) (by simp (maxDischargeDepth := 9) [results, Tryd.results7, go_sem, *]; exact ⟨rfl, rfl⟩) rfl ?_
        exact dsp_nil (unhide HE) (unhide HB)
      | true =>
        have HE := hide (show dskL rs = (Ls, 0) by rw [unhide HD, unhide HOB]; rfl)
        go_wp2
        refine bodyPost_ret (v := .tuple #[_, _]) (by simp (maxDischargeDepth := 9) [results, Tryd.results7, go_sem, *]; exact ⟨rfl, rfl⟩) rfl ?_
        exact dsp_ok (unhide HE) (unhide HOF) (unhide HB)
end Go.Proofs.YtcokdcehjibanaaDoor
