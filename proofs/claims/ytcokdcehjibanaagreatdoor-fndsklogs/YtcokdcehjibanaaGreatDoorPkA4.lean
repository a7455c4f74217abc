/- Laid together: texts that were built one by one. -/
import Derived.Test.YtcokdcehjibanaaGreatDoorPkA1
import Derived.Test.YtcokdcehjibanaaGreatDoorItmRdK
import Derived.Test.YtcokdcehjibanaaGreatDoorLogImpl
import Derived.Test.YtcokdcehjibanaaGreatDoorPkA3
import Derived.BigQuiet
/- Proved here: the logs of lines, in the program. -/
namespace Go.Proofs.YtcokdcehjibanaaGreatDoor
open Go.ChangeShapes Go.WideShapes Go.ChangeAt Go.RowKit
set_option linter.unusedVariables false

set_option linter.unusedSimpArgs false
/-- What a line of a log is read as. -/
def RlP (s : ByteArray) (w : World) (e : Ending) (w' : World) : Prop := ∃ q t k v n c, e = .returned (.tuple #[.agg #[.int .i64 q, .int .i64 t, .int .i64 k, .int .i64 v, .int .i64 n], .bool (c && !(q == 3))]) ∧ ItR s q t k v n c ∧ Below w.heap.size w w'
set_option maxRecDepth 20000 in
set_option maxHeartbeats 4000000 in
theorem readlog_any {tp1 tp2 : TypeId} {p1 p2 : Value} {m : Int} (s : ByteArray) (w : World) (hE : Env tp1 tp2 p1 p2 m w) : Calls Tryz.prog 22 #[.string s] w fun e w' => RlP s w e w' := by
  go_enter Tryz.func22, Tryz.ntmps22
  have hb0 : Below w.heap.size w (w.alloc (.cells #[.int .i64 0, .int .i64 0, .int .i64 0, .int .i64 0, .int .i64 0] 45)) := bel_one _ _
  go_wp2_with fail
  refine (implitmread_any s _ (hE.bel hb0)).mono ?_
  rintro e w1 ⟨q, t, kk, v, nn, c, rfl, hR, hb1⟩
  have HR := hide hR
  clear hR
  have hbY := hide (World.alloc_heap_new w1 (.cells #[.int .i64 q, .int .i64 t, .int .i64 kk, .int .i64 v, .int .i64 nn] 45))
  have bR0 : w1.heap[w.heap.size]? = some (.cells #[.int .i64 0, .int .i64 0, .int .i64 0, .int .i64 0, .int .i64 0] 45 (0, 0)) := (hb1.block w.heap.size (by simp)).trans (World.alloc_heap_new w _)
  have bR1 := hide ((Below.heap_alloc w1 (.cells #[.int .i64 q, .int .i64 t, .int .i64 kk, .int .i64 v, .int .i64 nn] 45) w.heap.size (lgh_lt bR0)).trans bR0)
  have hB := hide (show Below w.heap.size w (w1.alloc (.cells #[.int .i64 q, .int .i64 t, .int .i64 kk, .int .i64 v, .int .i64 nn] 45)) from bel_alloc (bel_trans hb0 hb1) _)
  have hne : w.heap.size ≠ w1.heap.size := by have := lgh_lt bR0; omega
  clear hb0 hb1 bR0
  go_upto_region 2 with fail
  generalize w1.heap.size = X at hbY hne ⊢
  generalize w1.alloc (.cells #[.int .i64 q, .int .i64 t, .int .i64 kk, .int .i64 v, .int .i64 nn] 45) = w2 at hbY bR1 hB ⊢
  have bX := unhide hbY
  have bR := unhide bR1
  have c0 := Joins.cell_of_block bR 0
  have c1 := Joins.cell_of_block bR 1
  have c2 := Joins.cell_of_block bR 2
  have c3 := Joins.cell_of_block bR 3
  have c4 := Joins.cell_of_block bR 4
  simp only [List.getElem?_toArray, List.getElem?_cons_zero, List.getElem?_cons_succ] at c0 c1 c2 c3 c4
  have f0 : w2.frozen? ⟨w.heap.size, 0, none⟩ = false := by simp [World.frozen?, bR]
  have f1 : w2.frozen? ⟨w.heap.size, 1, none⟩ = false := by simp [World.frozen?, bR]
  have f2 : w2.frozen? ⟨w.heap.size, 2, none⟩ = false := by simp [World.frozen?, bR]
  have f3 : w2.frozen? ⟨w.heap.size, 3, none⟩ = false := by simp [World.frozen?, bR]
  have f4 : w2.frozen? ⟨w.heap.size, 4, none⟩ = false := by simp [World.frozen?, bR]
  have zR : w.heap.size < w2.heap.size := lgh_lt bR
  cases c with
  | false =>
    refine wp_region_held_drew (S := (fun W => W.heap[X]? = some (.cells #[.int .i64 q, .int .i64 t, .int .i64 kk, .int .i64 v, .int .i64 nn] 45 (0, 0)))) (by kernel_rfl) ?_ (fun hHeld => ?_)
    · ((try dsimp only); exact bX)
    refine wpAnyH_take (i := 0) (v := ?_) (by simp only [List.getElem?_toArray, List.getElem?_cons_zero, List.getElem?_cons_succ]; rfl) (by kernel_rfl) (by kernel_rfl) (by kernel_rfl) (by intro _ _ _ h; exact h) (Or.inl ⟨by rfl, ?_⟩) (by assumption) ?_
    rotate_left
    · (intro w9 hSw; (try dsimp only at hSw); have x0 := Joins.cell_of_block hSw 0; have x1 := Joins.cell_of_block hSw 1; have x2 := Joins.cell_of_block hSw 2; have x3 := Joins.cell_of_block hSw 3; have x4 := Joins.cell_of_block hSw 4; simp only [List.getElem?_toArray, List.getElem?_cons_zero, List.getElem?_cons_succ] at x0 x1 x2 x3 x4; have hx := lgh_lt hSw; go_simp <;> with_reducible rfl)
    try simp only [Act.put, List.setIfInBounds_toArray, List.set_cons_zero, List.set_cons_succ]
    refine wpAnyH_take (i := 1) (v := ?_) (by simp only [List.getElem?_toArray, List.getElem?_cons_zero, List.getElem?_cons_succ]; rfl) (by kernel_rfl) (by kernel_rfl) (by kernel_rfl) (by intro _ _ _ h; exact h) (Or.inl ⟨by rfl, ?_⟩) (by assumption) ?_
    rotate_left
    · (intro w9 hSw; (try dsimp only at hSw); have x0 := Joins.cell_of_block hSw 0; have x1 := Joins.cell_of_block hSw 1; have x2 := Joins.cell_of_block hSw 2; have x3 := Joins.cell_of_block hSw 3; have x4 := Joins.cell_of_block hSw 4; simp only [List.getElem?_toArray, List.getElem?_cons_zero, List.getElem?_cons_succ] at x0 x1 x2 x3 x4; have hx := lgh_lt hSw; go_simp <;> with_reducible rfl)
    try simp only [Act.put, List.setIfInBounds_toArray, List.set_cons_zero, List.set_cons_succ]
    refine wpAnyH_take (i := 2) (v := ?_) (by simp only [List.getElem?_toArray, List.getElem?_cons_zero, List.getElem?_cons_succ]; rfl) (by kernel_rfl) (by kernel_rfl) (by kernel_rfl) (by intro _ _ _ h; exact h) (Or.inl ⟨by rfl, ?_⟩) (by assumption) ?_
    rotate_left
    · (intro w9 hSw; (try dsimp only at hSw); have x0 := Joins.cell_of_block hSw 0; have x1 := Joins.cell_of_block hSw 1; have x2 := Joins.cell_of_block hSw 2; have x3 := Joins.cell_of_block hSw 3; have x4 := Joins.cell_of_block hSw 4; simp only [List.getElem?_toArray, List.getElem?_cons_zero, List.getElem?_cons_succ] at x0 x1 x2 x3 x4; have hx := lgh_lt hSw; go_simp <;> with_reducible rfl)
    try simp only [Act.put, List.setIfInBounds_toArray, List.set_cons_zero, List.set_cons_succ]
    refine wpAnyH_take (i := 3) (v := undef) (by simp only [List.getElem?_toArray, List.getElem?_cons_zero, List.getElem?_cons_succ]; rfl) (by kernel_rfl) (by kernel_rfl) (by kernel_rfl) (by intro _ _ _ h; exact h) (Or.inr ⟨by rfl, rfl⟩) (by assumption) ?_
    try simp only [Act.put, List.setIfInBounds_toArray, List.set_cons_zero, List.set_cons_succ]
    refine wpAnyH_take (i := 4) (v := undef) (by simp only [List.getElem?_toArray, List.getElem?_cons_zero, List.getElem?_cons_succ]; rfl) (by kernel_rfl) (by kernel_rfl) (by kernel_rfl) (by intro _ _ _ h; exact h) (Or.inr ⟨by rfl, rfl⟩) (by assumption) ?_
    try simp only [Act.put, List.setIfInBounds_toArray, List.set_cons_zero, List.set_cons_succ]
    refine wpAnyH_take (i := 5) (v := undef) (by simp only [List.getElem?_toArray, List.getElem?_cons_zero, List.getElem?_cons_succ]; rfl) (by kernel_rfl) (by kernel_rfl) (by kernel_rfl) (by intro _ _ _ h; exact h) (Or.inr ⟨by rfl, rfl⟩) (by assumption) ?_
    try simp only [Act.put, List.setIfInBounds_toArray, List.set_cons_zero, List.set_cons_succ]
    refine wpAnyH_take (i := 6) (v := ?_) (by simp only [List.getElem?_toArray, List.getElem?_cons_zero, List.getElem?_cons_succ]; rfl) (by kernel_rfl) (by kernel_rfl) (by kernel_rfl) (by intro _ _ _ h; exact h) (Or.inl ⟨by rfl, ?_⟩) (by assumption) ?_
    rotate_left
    · (intro w9 hSw; (try dsimp only at hSw); have x0 := Joins.cell_of_block hSw 0; have x1 := Joins.cell_of_block hSw 1; have x2 := Joins.cell_of_block hSw 2; have x3 := Joins.cell_of_block hSw 3; have x4 := Joins.cell_of_block hSw 4; simp only [List.getElem?_toArray, List.getElem?_cons_zero, List.getElem?_cons_succ] at x0 x1 x2 x3 x4; have hx := lgh_lt hSw; go_simp <;> with_reducible rfl)
    try simp only [Act.put, List.setIfInBounds_toArray, List.set_cons_zero, List.set_cons_succ]
    refine wpAnyH_ready (rs := [7]) (by kernel_rfl) (by simp) ?_
    refine AllReadyH.cons (by simp only [List.getElem?_toArray, List.getElem?_cons_zero, List.getElem?_cons_succ]; rfl) (fun K hK => ?_) AllReadyH.nil
    go_simp
    refine hK.out _ _ ?_ (fun hHeld2 => ?_)
    · ((try dsimp only); repeat (first | (with_reducible exact bX) | refine (Below.heap_setCell _ _ _ _ (by show X ≠ w.heap.size; omega)).trans ?_ | (show (World.setCell _ _ _).heap[X]? = _)))
    clear hK K hHeld
    have hHeld := hHeld2
    clear hHeld2
    try simp only [Act.put, List.setIfInBounds_toArray, List.set_cons_zero, List.set_cons_succ]
    refine wpAnyH_take (i := 8) (v := ?_) (by simp only [List.getElem?_toArray, List.getElem?_cons_zero, List.getElem?_cons_succ]; rfl) (by kernel_rfl) (by kernel_rfl) (by kernel_rfl) (by intro _ _ _ h; exact h) (Or.inl ⟨by rfl, ?_⟩) (by assumption) ?_
    rotate_left
    · (intro w9 hSw; (try dsimp only at hSw); have x0 := Joins.cell_of_block hSw 0; have x1 := Joins.cell_of_block hSw 1; have x2 := Joins.cell_of_block hSw 2; have x3 := Joins.cell_of_block hSw 3; have x4 := Joins.cell_of_block hSw 4; simp only [List.getElem?_toArray, List.getElem?_cons_zero, List.getElem?_cons_succ] at x0 x1 x2 x3 x4; have hx := lgh_lt hSw; go_simp <;> with_reducible rfl)
    try simp only [Act.put, List.setIfInBounds_toArray, List.set_cons_zero, List.set_cons_succ]
    refine wpAnyH_done (by kernel_rfl) ?_ _
    go_wp2
    refine bodyPost_ret (v := .tuple #[.agg #[.int .i64 q, .int .i64 t, .int .i64 kk, .int .i64 v, .int .i64 nn], .bool _]) (by simp (maxDischargeDepth := 9) [results, Tryz.results22, go_sem, *]; first | done | rfl | exact ⟨rfl, rfl⟩) rfl ?_
    exact ⟨_, t, kk, v, nn, false, by first | rfl | (rw [hq3]; rfl), unhide HR, (by repeat (first | (with_reducible exact unhide hB) | (with_reducible refine bel_drew ?_) | (with_reducible refine bel_set ?_ (by show w.heap.size ≤ w.heap.size; omega) _)))⟩
  | true =>
    by_cases hq : q = 3
    · have hq3 : (q == 3) = true := by simpa using hq
      have hq4 : (q != 3) = false := by simp [hq]
      clear hq
      refine wp_region_held_drew (S := (fun W => W.heap[X]? = some (.cells #[.int .i64 q, .int .i64 t, .int .i64 kk, .int .i64 v, .int .i64 nn] 45 (0, 0)))) (by kernel_rfl) ?_ (fun hHeld => ?_)
      · ((try dsimp only); exact bX)
      refine wpAnyH_take (i := 0) (v := ?_) (by simp only [List.getElem?_toArray, List.getElem?_cons_zero, List.getElem?_cons_succ]; rfl) (by kernel_rfl) (by kernel_rfl) (by kernel_rfl) (by intro _ _ _ h; exact h) (Or.inl ⟨by rfl, ?_⟩) (by assumption) ?_
      rotate_left
      · (intro w9 hSw; (try dsimp only at hSw); have x0 := Joins.cell_of_block hSw 0; have x1 := Joins.cell_of_block hSw 1; have x2 := Joins.cell_of_block hSw 2; have x3 := Joins.cell_of_block hSw 3; have x4 := Joins.cell_of_block hSw 4; simp only [List.getElem?_toArray, List.getElem?_cons_zero, List.getElem?_cons_succ] at x0 x1 x2 x3 x4; have hx := lgh_lt hSw; go_simp <;> with_reducible rfl)
      try simp only [Act.put, List.setIfInBounds_toArray, List.set_cons_zero, List.set_cons_succ]
      refine wpAnyH_take (i := 1) (v := ?_) (by simp only [List.getElem?_toArray, List.getElem?_cons_zero, List.getElem?_cons_succ]; rfl) (by kernel_rfl) (by kernel_rfl) (by kernel_rfl) (by intro _ _ _ h; exact h) (Or.inl ⟨by rfl, ?_⟩) (by assumption) ?_
      rotate_left
      · (intro w9 hSw; (try dsimp only at hSw); have x0 := Joins.cell_of_block hSw 0; have x1 := Joins.cell_of_block hSw 1; have x2 := Joins.cell_of_block hSw 2; have x3 := Joins.cell_of_block hSw 3; have x4 := Joins.cell_of_block hSw 4; simp only [List.getElem?_toArray, List.getElem?_cons_zero, List.getElem?_cons_succ] at x0 x1 x2 x3 x4; have hx := lgh_lt hSw; go_simp <;> with_reducible rfl)
      try simp only [Act.put, List.setIfInBounds_toArray, List.set_cons_zero, List.set_cons_succ]
      refine wpAnyH_take (i := 2) (v := ?_) (by simp only [List.getElem?_toArray, List.getElem?_cons_zero, List.getElem?_cons_succ]; rfl) (by kernel_rfl) (by kernel_rfl) (by kernel_rfl) (by intro _ _ _ h; exact h) (Or.inl ⟨by rfl, ?_⟩) (by assumption) ?_
      rotate_left
      · (intro w9 hSw; (try dsimp only at hSw); have x0 := Joins.cell_of_block hSw 0; have x1 := Joins.cell_of_block hSw 1; have x2 := Joins.cell_of_block hSw 2; have x3 := Joins.cell_of_block hSw 3; have x4 := Joins.cell_of_block hSw 4; simp only [List.getElem?_toArray, List.getElem?_cons_zero, List.getElem?_cons_succ] at x0 x1 x2 x3 x4; have hx := lgh_lt hSw; go_simp <;> with_reducible rfl)
      try simp only [Act.put, List.setIfInBounds_toArray, List.set_cons_zero, List.set_cons_succ]
      refine wpAnyH_take (i := 3) (v := ?_) (by simp only [List.getElem?_toArray, List.getElem?_cons_zero, List.getElem?_cons_succ]; rfl) (by kernel_rfl) (by kernel_rfl) (by kernel_rfl) (by intro _ _ _ h; exact h) (Or.inl ⟨by rfl, ?_⟩) (by assumption) ?_
      rotate_left
      · (intro w9 hSw; (try dsimp only at hSw); have x0 := Joins.cell_of_block hSw 0; have x1 := Joins.cell_of_block hSw 1; have x2 := Joins.cell_of_block hSw 2; have x3 := Joins.cell_of_block hSw 3; have x4 := Joins.cell_of_block hSw 4; simp only [List.getElem?_toArray, List.getElem?_cons_zero, List.getElem?_cons_succ] at x0 x1 x2 x3 x4; have hx := lgh_lt hSw; go_simp <;> with_reducible rfl)
      try simp only [Act.put, List.setIfInBounds_toArray, List.set_cons_zero, List.set_cons_succ]
      refine wpAnyH_take (i := 4) (v := ?_) (by simp only [List.getElem?_toArray, List.getElem?_cons_zero, List.getElem?_cons_succ]; rfl) (by kernel_rfl) (by kernel_rfl) (by kernel_rfl) (by intro _ _ _ h; exact h) (Or.inl ⟨by rfl, ?_⟩) (by assumption) ?_
      rotate_left
      · (intro w9 hSw; (try dsimp only at hSw); have x0 := Joins.cell_of_block hSw 0; have x1 := Joins.cell_of_block hSw 1; have x2 := Joins.cell_of_block hSw 2; have x3 := Joins.cell_of_block hSw 3; have x4 := Joins.cell_of_block hSw 4; simp only [List.getElem?_toArray, List.getElem?_cons_zero, List.getElem?_cons_succ] at x0 x1 x2 x3 x4; have hx := lgh_lt hSw; go_simp <;> with_reducible rfl)
      try simp only [Act.put, List.setIfInBounds_toArray, List.set_cons_zero, List.set_cons_succ]
      refine wpAnyH_take (i := 5) (v := ?_) (by simp only [List.getElem?_toArray, List.getElem?_cons_zero, List.getElem?_cons_succ]; rfl) (by kernel_rfl) (by kernel_rfl) (by kernel_rfl) (by intro _ _ _ h; exact h) (Or.inl ⟨by rfl, ?_⟩) (by assumption) ?_
      rotate_left
      · (intro w9 hSw; (try dsimp only at hSw); have x0 := Joins.cell_of_block hSw 0; have x1 := Joins.cell_of_block hSw 1; have x2 := Joins.cell_of_block hSw 2; have x3 := Joins.cell_of_block hSw 3; have x4 := Joins.cell_of_block hSw 4; simp only [List.getElem?_toArray, List.getElem?_cons_zero, List.getElem?_cons_succ] at x0 x1 x2 x3 x4; have hx := lgh_lt hSw; go_simp <;> with_reducible rfl)
      try simp only [Act.put, List.setIfInBounds_toArray, List.set_cons_zero, List.set_cons_succ]
      refine wpAnyH_take (i := 6) (v := ?_) (by simp only [List.getElem?_toArray, List.getElem?_cons_zero, List.getElem?_cons_succ]; rfl) (by kernel_rfl) (by kernel_rfl) (by kernel_rfl) (by intro _ _ _ h; exact h) (Or.inl ⟨by rfl, ?_⟩) (by assumption) ?_
      rotate_left
      · (intro w9 hSw; (try dsimp only at hSw); have x0 := Joins.cell_of_block hSw 0; have x1 := Joins.cell_of_block hSw 1; have x2 := Joins.cell_of_block hSw 2; have x3 := Joins.cell_of_block hSw 3; have x4 := Joins.cell_of_block hSw 4; simp only [List.getElem?_toArray, List.getElem?_cons_zero, List.getElem?_cons_succ] at x0 x1 x2 x3 x4; have hx := lgh_lt hSw; go_simp <;> with_reducible rfl)
      try simp only [Act.put, List.setIfInBounds_toArray, List.set_cons_zero, List.set_cons_succ]
      refine wpAnyH_ready (rs := [7]) (by kernel_rfl) (by simp) ?_
      refine AllReadyH.cons (by simp only [List.getElem?_toArray, List.getElem?_cons_zero, List.getElem?_cons_succ]; rfl) (fun K hK => ?_) AllReadyH.nil
      go_simp
      refine hK.out _ _ ?_ (fun hHeld2 => ?_)
      · ((try dsimp only); repeat (first | (with_reducible exact bX) | refine (Below.heap_setCell _ _ _ _ (by show X ≠ w.heap.size; omega)).trans ?_ | (show (World.setCell _ _ _).heap[X]? = _)))
      clear hK K hHeld
      have hHeld := hHeld2
      clear hHeld2
      try simp only [Act.put, List.setIfInBounds_toArray, List.set_cons_zero, List.set_cons_succ]
      refine wpAnyH_take (i := 8) (v := ?_) (by simp only [List.getElem?_toArray, List.getElem?_cons_zero, List.getElem?_cons_succ]; rfl) (by kernel_rfl) (by kernel_rfl) (by kernel_rfl) (by intro _ _ _ h; exact h) (Or.inl ⟨by rfl, ?_⟩) (by assumption) ?_
      rotate_left
      · (intro w9 hSw; (try dsimp only at hSw); have x0 := Joins.cell_of_block hSw 0; have x1 := Joins.cell_of_block hSw 1; have x2 := Joins.cell_of_block hSw 2; have x3 := Joins.cell_of_block hSw 3; have x4 := Joins.cell_of_block hSw 4; simp only [List.getElem?_toArray, List.getElem?_cons_zero, List.getElem?_cons_succ] at x0 x1 x2 x3 x4; have hx := lgh_lt hSw; go_simp <;> with_reducible rfl)
      try simp only [Act.put, List.setIfInBounds_toArray, List.set_cons_zero, List.set_cons_succ]
      refine wpAnyH_done (by kernel_rfl) ?_ _
      go_wp2
      refine bodyPost_ret (v := .tuple #[.agg #[.int .i64 q, .int .i64 t, .int .i64 kk, .int .i64 v, .int .i64 nn], .bool _]) (by simp (maxDischargeDepth := 9) [results, Tryz.results22, go_sem, *]; first | done | rfl | exact ⟨rfl, rfl⟩) rfl ?_
      exact ⟨_, t, kk, v, nn, true, by first | rfl | (rw [hq3]; rfl), unhide HR, (by repeat (first | (with_reducible exact unhide hB) | (with_reducible refine bel_drew ?_) | (with_reducible refine bel_set ?_ (by show w.heap.size ≤ w.heap.size; omega) _)))⟩
    · have hq3 : (q == 3) = false := by simpa using hq
      have hq4 : (q != 3) = true := by simpa using hq
      refine wp_region_held_drew (S := (fun W => W.heap[X]? = some (.cells #[.int .i64 q, .int .i64 t, .int .i64 kk, .int .i64 v, .int .i64 nn] 45 (0, 0)))) (by kernel_rfl) ?_ (fun hHeld => ?_)
      · ((try dsimp only); exact bX)
      refine wpAnyH_take (i := 0) (v := ?_) (by simp only [List.getElem?_toArray, List.getElem?_cons_zero, List.getElem?_cons_succ]; rfl) (by kernel_rfl) (by kernel_rfl) (by kernel_rfl) (by intro _ _ _ h; exact h) (Or.inl ⟨by rfl, ?_⟩) (by assumption) ?_
      rotate_left
      · (intro w9 hSw; (try dsimp only at hSw); have x0 := Joins.cell_of_block hSw 0; have x1 := Joins.cell_of_block hSw 1; have x2 := Joins.cell_of_block hSw 2; have x3 := Joins.cell_of_block hSw 3; have x4 := Joins.cell_of_block hSw 4; simp only [List.getElem?_toArray, List.getElem?_cons_zero, List.getElem?_cons_succ] at x0 x1 x2 x3 x4; have hx := lgh_lt hSw; go_simp <;> with_reducible rfl)
      try simp only [Act.put, List.setIfInBounds_toArray, List.set_cons_zero, List.set_cons_succ]
      refine wpAnyH_take (i := 1) (v := ?_) (by simp only [List.getElem?_toArray, List.getElem?_cons_zero, List.getElem?_cons_succ]; rfl) (by kernel_rfl) (by kernel_rfl) (by kernel_rfl) (by intro _ _ _ h; exact h) (Or.inl ⟨by rfl, ?_⟩) (by assumption) ?_
      rotate_left
      · (intro w9 hSw; (try dsimp only at hSw); have x0 := Joins.cell_of_block hSw 0; have x1 := Joins.cell_of_block hSw 1; have x2 := Joins.cell_of_block hSw 2; have x3 := Joins.cell_of_block hSw 3; have x4 := Joins.cell_of_block hSw 4; simp only [List.getElem?_toArray, List.getElem?_cons_zero, List.getElem?_cons_succ] at x0 x1 x2 x3 x4; have hx := lgh_lt hSw; go_simp <;> with_reducible rfl)
      try simp only [Act.put, List.setIfInBounds_toArray, List.set_cons_zero, List.set_cons_succ]
      refine wpAnyH_take (i := 2) (v := ?_) (by simp only [List.getElem?_toArray, List.getElem?_cons_zero, List.getElem?_cons_succ]; rfl) (by kernel_rfl) (by kernel_rfl) (by kernel_rfl) (by intro _ _ _ h; exact h) (Or.inl ⟨by rfl, ?_⟩) (by assumption) ?_
      rotate_left
      · (intro w9 hSw; (try dsimp only at hSw); have x0 := Joins.cell_of_block hSw 0; have x1 := Joins.cell_of_block hSw 1; have x2 := Joins.cell_of_block hSw 2; have x3 := Joins.cell_of_block hSw 3; have x4 := Joins.cell_of_block hSw 4; simp only [List.getElem?_toArray, List.getElem?_cons_zero, List.getElem?_cons_succ] at x0 x1 x2 x3 x4; have hx := lgh_lt hSw; go_simp <;> with_reducible rfl)
      try simp only [Act.put, List.setIfInBounds_toArray, List.set_cons_zero, List.set_cons_succ]
      refine wpAnyH_take (i := 3) (v := ?_) (by simp only [List.getElem?_toArray, List.getElem?_cons_zero, List.getElem?_cons_succ]; rfl) (by kernel_rfl) (by kernel_rfl) (by kernel_rfl) (by intro _ _ _ h; exact h) (Or.inl ⟨by rfl, ?_⟩) (by assumption) ?_
      rotate_left
      · (intro w9 hSw; (try dsimp only at hSw); have x0 := Joins.cell_of_block hSw 0; have x1 := Joins.cell_of_block hSw 1; have x2 := Joins.cell_of_block hSw 2; have x3 := Joins.cell_of_block hSw 3; have x4 := Joins.cell_of_block hSw 4; simp only [List.getElem?_toArray, List.getElem?_cons_zero, List.getElem?_cons_succ] at x0 x1 x2 x3 x4; have hx := lgh_lt hSw; go_simp <;> with_reducible rfl)
      try simp only [Act.put, List.setIfInBounds_toArray, List.set_cons_zero, List.set_cons_succ]
      refine wpAnyH_take (i := 4) (v := ?_) (by simp only [List.getElem?_toArray, List.getElem?_cons_zero, List.getElem?_cons_succ]; rfl) (by kernel_rfl) (by kernel_rfl) (by kernel_rfl) (by intro _ _ _ h; exact h) (Or.inl ⟨by rfl, ?_⟩) (by assumption) ?_
      rotate_left
      · (intro w9 hSw; (try dsimp only at hSw); have x0 := Joins.cell_of_block hSw 0; have x1 := Joins.cell_of_block hSw 1; have x2 := Joins.cell_of_block hSw 2; have x3 := Joins.cell_of_block hSw 3; have x4 := Joins.cell_of_block hSw 4; simp only [List.getElem?_toArray, List.getElem?_cons_zero, List.getElem?_cons_succ] at x0 x1 x2 x3 x4; have hx := lgh_lt hSw; go_simp <;> with_reducible rfl)
      try simp only [Act.put, List.setIfInBounds_toArray, List.set_cons_zero, List.set_cons_succ]
      refine wpAnyH_take (i := 5) (v := ?_) (by simp only [List.getElem?_toArray, List.getElem?_cons_zero, List.getElem?_cons_succ]; rfl) (by kernel_rfl) (by kernel_rfl) (by kernel_rfl) (by intro _ _ _ h; exact h) (Or.inl ⟨by rfl, ?_⟩) (by assumption) ?_
      rotate_left
      · (intro w9 hSw; (try dsimp only at hSw); have x0 := Joins.cell_of_block hSw 0; have x1 := Joins.cell_of_block hSw 1; have x2 := Joins.cell_of_block hSw 2; have x3 := Joins.cell_of_block hSw 3; have x4 := Joins.cell_of_block hSw 4; simp only [List.getElem?_toArray, List.getElem?_cons_zero, List.getElem?_cons_succ] at x0 x1 x2 x3 x4; have hx := lgh_lt hSw; go_simp <;> with_reducible rfl)
      try simp only [Act.put, List.setIfInBounds_toArray, List.set_cons_zero, List.set_cons_succ]
      refine wpAnyH_take (i := 6) (v := ?_) (by simp only [List.getElem?_toArray, List.getElem?_cons_zero, List.getElem?_cons_succ]; rfl) (by kernel_rfl) (by kernel_rfl) (by kernel_rfl) (by intro _ _ _ h; exact h) (Or.inl ⟨by rfl, ?_⟩) (by assumption) ?_
      rotate_left
      · (intro w9 hSw; (try dsimp only at hSw); have x0 := Joins.cell_of_block hSw 0; have x1 := Joins.cell_of_block hSw 1; have x2 := Joins.cell_of_block hSw 2; have x3 := Joins.cell_of_block hSw 3; have x4 := Joins.cell_of_block hSw 4; simp only [List.getElem?_toArray, List.getElem?_cons_zero, List.getElem?_cons_succ] at x0 x1 x2 x3 x4; have hx := lgh_lt hSw; go_simp <;> with_reducible rfl)
      try simp only [Act.put, List.setIfInBounds_toArray, List.set_cons_zero, List.set_cons_succ]
      refine wpAnyH_ready (rs := [7]) (by kernel_rfl) (by simp) ?_
      refine AllReadyH.cons (by simp only [List.getElem?_toArray, List.getElem?_cons_zero, List.getElem?_cons_succ]; rfl) (fun K hK => ?_) AllReadyH.nil
      go_simp
      refine hK.out _ _ ?_ (fun hHeld2 => ?_)
      · ((try dsimp only); repeat (first | (with_reducible exact bX) | refine (Below.heap_setCell _ _ _ _ (by show X ≠ w.heap.size; omega)).trans ?_ | (show (World.setCell _ _ _).heap[X]? = _)))
      clear hK K hHeld
      have hHeld := hHeld2
      clear hHeld2
      try simp only [Act.put, List.setIfInBounds_toArray, List.set_cons_zero, List.set_cons_succ]
      refine wpAnyH_take (i := 8) (v := ?_) (by simp only [List.getElem?_toArray, List.getElem?_cons_zero, List.getElem?_cons_succ]; rfl) (by kernel_rfl) (by kernel_rfl) (by kernel_rfl) (by intro _ _ _ h; exact h) (Or.inl ⟨by rfl, ?_⟩) (by assumption) ?_
      rotate_left
      · (intro w9 hSw; (try dsimp only at hSw); have x0 := Joins.cell_of_block hSw 0; have x1 := Joins.cell_of_block hSw 1; have x2 := Joins.cell_of_block hSw 2; have x3 := Joins.cell_of_block hSw 3; have x4 := Joins.cell_of_block hSw 4; simp only [List.getElem?_toArray, List.getElem?_cons_zero, List.getElem?_cons_succ] at x0 x1 x2 x3 x4; have hx := lgh_lt hSw; go_simp <;> with_reducible rfl)
      try simp only [Act.put, List.setIfInBounds_toArray, List.set_cons_zero, List.set_cons_succ]
      refine wpAnyH_done (by kernel_rfl) ?_ _
      go_wp2
      refine bodyPost_ret (v := .tuple #[.agg #[.int .i64 q, .int .i64 t, .int .i64 kk, .int .i64 v, .int .i64 nn], .bool _]) (by simp (maxDischargeDepth := 9) [results, Tryz.results22, go_sem, *]; first | done | rfl | exact ⟨rfl, rfl⟩) rfl ?_
      exact ⟨_, t, kk, v, nn, true, by first | rfl | (rw [hq3]; rfl), unhide HR, (by repeat (first | (with_reducible exact unhide hB) | (with_reducible refine bel_drew ?_) | (with_reducible refine bel_set ?_ (by show w.heap.size ≤ w.heap.size; omega) _)))⟩

set_option maxRecDepth 20000 in
set_option maxHeartbeats 1000000 in
theorem everyLg_any {B : Nat} {v : Value} {us : List Value} {Ls : List (List It)} (w : World) (h : LgO w B v us Ls) (hl : ∀ l ∈ Ls, l.length ≤ 1048576) (hn : Ls.length ≤ 1048576) : Calls Tryz.prog 17 #[v, .func (.func 18) #[] #[]] w fun e w' => e = .returned (.bool (Ls.all okLog)) ∧ Below w.heap.size w w' := by
  obtain ⟨a, c, rfl⟩ := h.slice
  have HL := hide hl
  clear hl
  go_enter Tryz.func17, Tryz.ntmps17
  go_wp2
  go_loopw [9] (fun i wr => ∃ k : Nat, k ≤ Ls.length ∧ i = .int .i64 k ∧ Hid ((Ls.take k).all okLog = true) ∧ Below w.heap.size w wr) (fun i _ => Ls.length - (intOf i).toNat)
  case atStart => exact ⟨0, Nat.zero_le _, rfl, hide (by simp), Below.refl _ _⟩
  case round =>
    obtain ⟨k, hk, rfl, hA, hbw⟩ := hrel
    by_cases hlt : k < Ls.length
    · obtain ⟨l, hlk⟩ : ∃ l, Ls[k]? = some l := ⟨_, List.getElem?_eq_getElem (by omega)⟩
      have hll : l.length ≤ maxLen := Nat.le_trans (unhide HL l (List.mem_of_getElem? hlk)) (by decide)
      obtain ⟨g, cc, e1, _, hg, _⟩ := h.shape (by omega)
      simp only [Value.slice.injEq, true_and] at e1
      obtain ⟨rfl, rfl⟩ := e1
      obtain ⟨b, d, _, hc, hI⟩ := (h.bel hbw).at_ hlk hll
      have HII := hide hI
      have HLK := hide hlk
      have hgt : g < wr.heap.size := Nat.lt_of_lt_of_le hg hbw.size
      clear hI hlk h
      obtain ⟨ob, hob⟩ : ∃ ob, okLog l = ob := ⟨_, rfl⟩
      have HOB := hide hob
      clear hob
      cases ob with
      | false =>
        have HE := hide (all_ffL (unhide HLK) (unhide HOB))
        go_wp2_with (go_at_call 18; refine (impllog_any b l.length d l _ (unhide HII)).mono ?_; rw [unhide HOB]; rintro e wf ⟨rfl, hb⟩)
        go_ret
        exact ⟨ret_b (unhide HE).symm, (by repeat (first | (with_reducible exact Below.refl _ _) | (with_reducible assumption) | (with_reducible refine bel_set ?_ (by first | (simp; done) | (simp; omega)) _) | (with_reducible refine bel_alloc ?_ _) | (with_reducible refine bel_drew ?_) | (with_reducible refine bel_drewN ?_ _) | (with_reducible refine bel_trans ?_ (by with_reducible assumption))))⟩
      | true =>
        have HE := hide (all_ttL (unhide hA) (unhide HLK) (unhide HOB))
        go_wp2_with (go_at_call 18; refine (impllog_any b l.length d l _ (unhide HII)).mono ?_; rw [unhide HOB]; rintro e wf ⟨rfl, hb⟩)
        go_roundw
        case rel => exact ⟨k + 1, by omega, by go_num, HE, (by repeat (first | (with_reducible exact Below.refl _ _) | (with_reducible assumption) | (with_reducible refine bel_set ?_ (by first | (simp; done) | (simp; omega)) _) | (with_reducible refine bel_alloc ?_ _) | (with_reducible refine bel_drew ?_) | (with_reducible refine bel_drewN ?_ _) | (with_reducible refine bel_trans ?_ (by with_reducible assumption))))⟩
        case measure => simp [intOf]; omega
    · have HE : Hid (Ls.all okLog = true) := hide (by have h1 := unhide hA; rwa [List.take_of_length_le (by omega)] at h1)
      go_wp2
      go_ret
      exact ⟨ret_b (unhide HE).symm, hbw⟩
theorem own_emptyN {W : World} {B : Nat} : OwnIts W B (.slice none 0 0) [] := World.ownsRow_nil _ _ _ _
theorem mkLg1 : ∃ C : Array Value, C.toList = [.slice none 0 0] ∧ ∀ w : World, (Instr.makeSlice 23 (.int .i64 1) (.int .i64 1)).run Tryz.prog w = .ok (.slice (some ⟨w.heap.size, 0, none⟩) 1 1) (w.alloc (.cells C 40)) := by
  obtain ⟨i0, hi, hz0, hz1, hz2⟩ := info_parts Tryz.infoLg
  refine ⟨madeCells (Value.slice none 0 0).cells (1 * 1), ?_, fun w => ?_⟩
  · exact toList_madeCells_one _ _
  · have h := run_make (P := Tryz.prog) w 23 40 i0 _ Tryz.underlying23 hi hz0 .i64 .i64 1 1 (by omega) (Int.le_refl _) (by rw [hz2]; omega) (by omega)
    rw [hz1] at h
    simpa using h
theorem lg_startN {C : Array Value} (hC : C.toList = [.slice none 0 0]) (w : World) : LgO (w.alloc (.cells C 40)) w.heap.size (.slice (some ⟨w.heap.size, 0, none⟩) 1 1) [.slice none 0 0] [[]] := by
  refine LgO.one ?_ (World.ownsRow_nil _ _ _ _)
  have h1 := World.ownsRow_lit (base := w.heap.size) (e := 40) (size := 1) w C 1 (Nat.le_refl _) (by decide) (by rw [← Array.length_toList, hC]; rfl)
  rw [hC] at h1
  exact h1
set_option maxRecDepth 20000 in
set_option maxHeartbeats 4000000 in
theorem impldsk_any {tp1 tp2 : TypeId} {p1 p2 : Value} {m : Int} (a : Option Addr) (len cap : Nat) (L : List ByteArray) (rs : List (Option (Option It))) (w : World) (h : StRs w a len (stL L)) (hl : len ≤ 1048576) (hr : LnAll L rs) (hE : Env tp1 tp2 p1 p2 m w) : Calls Tryz.prog 7 #[.slice a len cap] w fun e w' => DsP rs w e w' := by
  obtain ⟨i0, hi, hz0, hz1, hz2⟩ := info_parts Tryz.infoLg
  obtain ⟨i5, hi5, hz50, hz51, hz52⟩ := info_parts Tryz.infoItm
  obtain ⟨C, hC, hmk⟩ := mkLg1
  have hLl : L.length = len := by have := h.1; rw [stL_len] at this; exact this
  have hRl : rs.length = len := hr.1.trans hLl
  have HR := hide hr.2
  clear hr
  go_enter Tryz.func7, Tryz.ntmps7
  by_cases hlong : 400 < len
  · have HD := hide (dskL_long (rs := rs) (by omega))
    have hd1 : decide ((400 : Int) < (len : Int)) = true := by simp; omega
    go_wp2
    refine bodyPost_ret (v := .tuple #[_, _]) (by simp (maxDischargeDepth := 9) [results, Tryz.results7, go_sem, *]; exact ⟨rfl, rfl⟩) rfl ?_
    exact dsp_nil (unhide HD) (Below.refl _ _)
  have hd1 : decide ((400 : Int) < (len : Int)) = false := by simp; omega
  go_wp2
  go_loopw [4, 16] (fun v i wr => ∃ (ix : Nat) (us : List Value) (Ls : List (List It)), ix ≤ len ∧ i = .int .i64 ix ∧ Hid (LgO wr w.heap.size v us Ls) ∧ Hid (DInv rs ix Ls) ∧ Below w.heap.size w wr) (fun _ i _ => len - (intOf i).toNat)
  case atStart => exact ⟨0, [.slice none 0 0], [[]], Nat.zero_le _, rfl, hide (lg_startN hC w), hide (DInv.start rs), bel_one _ _⟩
  case round =>
    clear hmk hC
    obtain ⟨ix, us, Ls, hk, rfl, HO, HI, hbw⟩ := hrel
    have hws := hbw.size
    by_cases hlt : ix < len
    · obtain ⟨x0, hx0⟩ : ∃ x0, L[ix]? = some x0 := ⟨_, List.getElem?_eq_getElem (by omega)⟩
      obtain ⟨r, hr⟩ : ∃ r, rs[ix]? = some r := ⟨_, List.getElem?_eq_getElem (by omega)⟩
      have HLn := hide (unhide HR ix x0 r hx0 hr)
      have HRr := hide hr
      obtain ⟨g0, o0, rfl⟩ : ∃ g o, a = some ⟨g, o, none⟩ := by
        obtain ⟨g, o, ha, _⟩ := h.2.2.resolve_left (by omega)
        exact ⟨g, o, ha⟩
      obtain ⟨d0, hg0⟩ := st_at (h.below hbw) hx0
      clear hx0 hr
      by_cases hda : x0 = dashB
      · have ty := toL_yes (x := x0) (l := [45]) hda
        have e1 := (unhide HLn).dash hda
        subst e1
        obtain ⟨av, cv, rfl⟩ := (unhide HO).slice
        have hpp := (unhide HI).pos
        have hle := (unhide HI).le
        have hLL : Ls.length ≤ 401 := by omega
        have hge := (unhide HO).row.lt
        clear hda
        go_wp2_with (at_builtin; go_loud (refine wpList_append_own _ rfl _ _ 23 rfl w.heap.size 40 i0 _ 1 24 Tryz.underlying23 hi hz0 hz1 hz2 rfl (by decide) (.slice av Ls.length cv) _ _ rfl (World.ownsRow.alloc (unhide HO).row _) ⟨wr.heap.size, 0, none⟩ 1 1 [.slice none 0 0] rfl rfl (cell_new1L wr (by simp) _ _) (by simp [Value.oneCell']) (by unfold maxLen; omega) (by omega) (by simp; omega) ?_); intro v' w5 hown hgrow _)
        go_roundw
        case rel =>
          refine ⟨ix + 1, us ++ [.slice none 0 0], Ls ++ [[]], by omega, by go_num, hide ((unhide HO).push own_emptyN (fun i u' b hu hb e9 => by cases e9) hown hgrow), hide ((unhide HI).step (unhide HRr)), ?_⟩
          exact (bel_alloc hbw _).grown hgrow (by simp; omega) (fun k9 h9 => (hge k9 h9).1)
        case measure => simp [intOf]; omega
      · have ty := toL_no (x := x0) (l := [45]) hda
        have HDa := hide hda
        clear hda
        go_wp2_with fail
        refine (readlog_any x0 _ (hE.bel hbw)).mono ?_
        rintro e wq ⟨q, t, kk, v, nn, c, rfl, hRd, hbq⟩
        have e1 := (unhide HLn).itm (unhide HDa) hRd
        clear hRd
        have hbW : Below w.heap.size w wq := bel_trans hbw hbq
        have HOq := hide ((unhide HO).bel hbq)
        have hwq := hbq.size
        clear d0 hg0 HO
        have hlo : rs.length ≤ 400 := by omega
        by_cases hcq : c = true ∧ q ≠ 3
        rotate_left
        · have HD := hide ((unhide HI).bad (ix := ix) (by rw [unhide HRr, e1, if_neg hcq]) hlo)
          have hcf : (c && !(q == 3)) = false := by
            cases c with
            | false => rfl
            | true => have : q = 3 := by simpa using hcq
                      simp [this]
          clear hcq
          rw [hcf]
          go_wp2
          refine bodyPost_ret (v := .tuple #[_, _]) (by simp (maxDischargeDepth := 9) [results, Tryz.results7, go_sem, *]; exact ⟨rfl, rfl⟩) rfl ?_
          exact dsp_nil (unhide HD) (by repeat (first | (with_reducible exact Below.refl _ _) | (with_reducible assumption) | (with_reducible refine bel_set ?_ (by first | (simp; done) | (simp; omega)) _) | (with_reducible refine bel_alloc ?_ _) | (with_reducible refine bel_drew ?_) | (with_reducible refine bel_drewN ?_ _) | (with_reducible refine bel_trans ?_ (by with_reducible assumption))))
        · have hct : (c && !(q == 3)) = true := by simp [hcq.1, hcq.2]
          have e2 : r = some (some ⟨q, t, kk, v, nn⟩) := by rw [e1, if_pos hcq]
          clear hcq
          rw [hct]
          clear hct
          subst e2
          have HST := hide ((unhide HI).step (unhide HRr))
          have hpp := (unhide HI).pos
          have hles := (unhide HI).les
          have hwn : (wq.alloc (.cells #[.int .i64 q, .int .i64 t, .int .i64 kk, .int .i64 v, .int .i64 nn] 45)).heap.size = wq.heap.size + 1 := by simp
          obtain ⟨k, g, cap9, l, b, d, hkl, rfl, hlk, huk, hll, hcl, hg, hOu, hfz, hne⟩ := ((unhide HOq).bel (bel_one wq (.cells #[.int .i64 q, .int .i64 t, .int .i64 kk, .int .i64 v, .int .i64 nn] 45))).tip hpp (fun l h9 => by have := hles l h9; omega)
          have HO2 := hide ((unhide HOq).bel (bel_one wq (.cells #[.int .i64 q, .int .i64 t, .int .i64 kk, .int .i64 v, .int .i64 nn] 45)))
          have HU := hide hOu
          have hke : k ≤ 400 := by have := (unhide HI).le; omega
          have hwk : IntKind.i64.wrap (k : Int) = (k : Int) := IntWalk.i64_in _ ⟨by omega, by omega⟩
          have hki : (k : Int) < (k : Int) + 1 := by omega
          have hwk2 : IntKind.i64.wrap ((k : Int) + 1 - 1) = (k : Int) := by rw [show (k : Int) + 1 - 1 = (k : Int) by omega]; exact hwk
          have bX := World.alloc_heap_new wq (.cells #[.int .i64 q, .int .i64 t, .int .i64 kk, .int .i64 v, .int .i64 nn] 45)
          have HW := hide (show Below w.heap.size w (wq.alloc (.cells #[.int .i64 q, .int .i64 t, .int .i64 kk, .int .i64 v, .int .i64 nn] 45)) from bel_alloc hbW _)
          have HLK := hide hlk
          have HUK := hide huk
          have HKL := hide hkl
          have hub : ∀ y, (Value.slice b l.length d).ownBlock = some y → y < wq.heap.size := fun y hy => ((unhide HOq).lts huk hy).2
          clear hOu hlk huk hles hkl HOq HI e1 HLn
          go_upto_region 13 with fail
          have HX : Hid ((wq.alloc (.cells #[.int .i64 q, .int .i64 t, .int .i64 kk, .int .i64 v, .int .i64 nn] 45)).heap[wq.heap.size]? = some (.cells #[.int .i64 q, .int .i64 t, .int .i64 kk, .int .i64 v, .int .i64 nn] 45 (0, 0))) := hide bX
          have hneX : some wq.heap.size ≠ (Value.slice b l.length d).ownBlock := fun e9 => by have := hub _ e9.symm; omega
          have hneG : some g ≠ (Value.slice b l.length d).ownBlock := fun e9 => hne e9.symm
          have hzW := (unhide HW).size
          clear hub hne bX hwn hbW hbq
          generalize hXB : wq.heap.size = XB at HX hneX ⊢
          clear hXB
          generalize wq.alloc (.cells #[.int .i64 q, .int .i64 t, .int .i64 kk, .int .i64 v, .int .i64 nn] 45) = wz at HX HW HO2 HU hcl hg hfz hzW ⊢
          have bX := unhide HX
          have bG := hcl
          have hzG := hg
          have HF : Hid (∀ (w9 : World) (v9 : Value), w9.ownsRow w.heap.size 45 5 v9 (l.length + 1) (flat l ++ [.int .i64 q, .int .i64 t, .int .i64 kk, .int .i64 v, .int .i64 nn]) → (wz.alloc (.cells #[.int .i64 q, .int .i64 t, .int .i64 kk, .int .i64 v, .int .i64 nn] 45)).grownBy w9 (Value.slice b l.length d).ownBlock → w9.frozen? ⟨g, k, none⟩ = false) := hide (fun w9 v9 _ hg9 => by
            rw [World.frozen?_of_block (w := wz) (a := ⟨g, k, none⟩) ((hg9.block g (by simp; omega) hneG).trans (Below.heap_alloc wz _ g hg))]
            exact hfz)
          refine wp_region_P [10] (fun W => W.cell? ⟨g, k, none⟩ = some (.slice b l.length d) ∧ (W.heap[XB]? = some (.cells #[.int .i64 q, .int .i64 t, .int .i64 kk, .int .i64 v, .int .i64 nn] 45 (0, 0)) ∧ g < W.heap.size)) (by kernel_rfl) ?_ (fun hHeld => ?_)
          · (try dsimp only); exact ⟨bG, bX, hzG⟩
          refine wpAnyP_take (i := 0) (v := ?_) (by simp only [List.getElem?_toArray, List.getElem?_cons_zero, List.getElem?_cons_succ]; rfl) (by kernel_rfl) (by kernel_rfl) (by kernel_rfl) (by kernel_rfl) (by intro _ _ _ h; exact h) (Or.inl ⟨by rfl, ?_⟩) (by assumption) ?_
          rotate_left
          · (intro w9 hSw; (try dsimp only at hSw); obtain ⟨hk1, hk2, hk3⟩ := hSw; have x0 := Joins.cell_of_block hk2 0; have x1 := Joins.cell_of_block hk2 1; have x2 := Joins.cell_of_block hk2 2; have x3 := Joins.cell_of_block hk2 3; have x4 := Joins.cell_of_block hk2 4; simp only [List.getElem?_toArray, List.getElem?_cons_zero, List.getElem?_cons_succ] at x0 x1 x2 x3 x4; have hx := lgh_lt hk2; go_simp <;> with_reducible rfl)
          try simp only [Act.put, List.setIfInBounds_toArray, List.set_cons_zero, List.set_cons_succ]
          refine wpAnyP_take (i := 1) (v := ?_) (by simp only [List.getElem?_toArray, List.getElem?_cons_zero, List.getElem?_cons_succ]; rfl) (by kernel_rfl) (by kernel_rfl) (by kernel_rfl) (by kernel_rfl) (by intro _ _ _ h; exact h) (Or.inl ⟨by rfl, ?_⟩) (by assumption) ?_
          rotate_left
          · (intro w9 hSw; (try dsimp only at hSw); obtain ⟨hk1, hk2, hk3⟩ := hSw; have x0 := Joins.cell_of_block hk2 0; have x1 := Joins.cell_of_block hk2 1; have x2 := Joins.cell_of_block hk2 2; have x3 := Joins.cell_of_block hk2 3; have x4 := Joins.cell_of_block hk2 4; simp only [List.getElem?_toArray, List.getElem?_cons_zero, List.getElem?_cons_succ] at x0 x1 x2 x3 x4; have hx := lgh_lt hk2; go_simp <;> with_reducible rfl)
          try simp only [Act.put, List.setIfInBounds_toArray, List.set_cons_zero, List.set_cons_succ]
          refine wpAnyP_take (i := 2) (v := ?_) (by simp only [List.getElem?_toArray, List.getElem?_cons_zero, List.getElem?_cons_succ]; rfl) (by kernel_rfl) (by kernel_rfl) (by kernel_rfl) (by kernel_rfl) (by intro _ _ _ h; exact h) (Or.inl ⟨by rfl, ?_⟩) (by assumption) ?_
          rotate_left
          · (intro w9 hSw; (try dsimp only at hSw); obtain ⟨hk1, hk2, hk3⟩ := hSw; have x0 := Joins.cell_of_block hk2 0; have x1 := Joins.cell_of_block hk2 1; have x2 := Joins.cell_of_block hk2 2; have x3 := Joins.cell_of_block hk2 3; have x4 := Joins.cell_of_block hk2 4; simp only [List.getElem?_toArray, List.getElem?_cons_zero, List.getElem?_cons_succ] at x0 x1 x2 x3 x4; have hx := lgh_lt hk2; go_simp <;> with_reducible rfl)
          try simp only [Act.put, List.setIfInBounds_toArray, List.set_cons_zero, List.set_cons_succ]
          refine wpAnyP_take (i := 3) (v := ?_) (by simp only [List.getElem?_toArray, List.getElem?_cons_zero, List.getElem?_cons_succ]; rfl) (by kernel_rfl) (by kernel_rfl) (by kernel_rfl) (by kernel_rfl) (by intro _ _ _ h; exact h) (Or.inl ⟨by rfl, ?_⟩) (by assumption) ?_
          rotate_left
          · (intro w9 hSw; (try dsimp only at hSw); obtain ⟨hk1, hk2, hk3⟩ := hSw; have x0 := Joins.cell_of_block hk2 0; have x1 := Joins.cell_of_block hk2 1; have x2 := Joins.cell_of_block hk2 2; have x3 := Joins.cell_of_block hk2 3; have x4 := Joins.cell_of_block hk2 4; simp only [List.getElem?_toArray, List.getElem?_cons_zero, List.getElem?_cons_succ] at x0 x1 x2 x3 x4; have hx := lgh_lt hk2; go_simp <;> with_reducible rfl)
          try simp only [Act.put, List.setIfInBounds_toArray, List.set_cons_zero, List.set_cons_succ]
          refine wpAnyP_take (i := 4) (v := ?_) (by simp only [List.getElem?_toArray, List.getElem?_cons_zero, List.getElem?_cons_succ]; rfl) (by kernel_rfl) (by kernel_rfl) (by kernel_rfl) (by kernel_rfl) (by intro _ _ _ h; exact h) (Or.inl ⟨by rfl, ?_⟩) (by assumption) ?_
          rotate_left
          · (intro w9 hSw; (try dsimp only at hSw); obtain ⟨hk1, hk2, hk3⟩ := hSw; have x0 := Joins.cell_of_block hk2 0; have x1 := Joins.cell_of_block hk2 1; have x2 := Joins.cell_of_block hk2 2; have x3 := Joins.cell_of_block hk2 3; have x4 := Joins.cell_of_block hk2 4; simp only [List.getElem?_toArray, List.getElem?_cons_zero, List.getElem?_cons_succ] at x0 x1 x2 x3 x4; have hx := lgh_lt hk2; go_simp <;> with_reducible rfl)
          try simp only [Act.put, List.setIfInBounds_toArray, List.set_cons_zero, List.set_cons_succ]
          refine wpAnyP_take (i := 5) (v := ?_) (by simp only [List.getElem?_toArray, List.getElem?_cons_zero, List.getElem?_cons_succ]; rfl) (by kernel_rfl) (by kernel_rfl) (by kernel_rfl) (by kernel_rfl) (by intro _ _ _ h; exact h) (Or.inl ⟨by rfl, ?_⟩) (by assumption) ?_
          rotate_left
          · (intro w9 hSw; (try dsimp only at hSw); obtain ⟨hk1, hk2, hk3⟩ := hSw; have x0 := Joins.cell_of_block hk2 0; have x1 := Joins.cell_of_block hk2 1; have x2 := Joins.cell_of_block hk2 2; have x3 := Joins.cell_of_block hk2 3; have x4 := Joins.cell_of_block hk2 4; simp only [List.getElem?_toArray, List.getElem?_cons_zero, List.getElem?_cons_succ] at x0 x1 x2 x3 x4; have hx := lgh_lt hk2; go_simp <;> with_reducible rfl)
          try simp only [Act.put, List.setIfInBounds_toArray, List.set_cons_zero, List.set_cons_succ]
          refine wpAnyP_take (i := 6) (v := ?_) (by simp only [List.getElem?_toArray, List.getElem?_cons_zero, List.getElem?_cons_succ]; rfl) (by kernel_rfl) (by kernel_rfl) (by kernel_rfl) (by kernel_rfl) (by intro _ _ _ h; exact h) (Or.inl ⟨by rfl, ?_⟩) (by assumption) ?_
          rotate_left
          · (intro w9 hSw; (try dsimp only at hSw); obtain ⟨hk1, hk2, hk3⟩ := hSw; have x0 := Joins.cell_of_block hk2 0; have x1 := Joins.cell_of_block hk2 1; have x2 := Joins.cell_of_block hk2 2; have x3 := Joins.cell_of_block hk2 3; have x4 := Joins.cell_of_block hk2 4; simp only [List.getElem?_toArray, List.getElem?_cons_zero, List.getElem?_cons_succ] at x0 x1 x2 x3 x4; have hx := lgh_lt hk2; go_simp <;> with_reducible rfl)
          try simp only [Act.put, List.setIfInBounds_toArray, List.set_cons_zero, List.set_cons_succ]
          refine wpAnyP_ready (rs := [7]) (by kernel_rfl) (by simp) ?_
          refine AllReadyP.cons (by simp only [List.getElem?_toArray, List.getElem?_cons_zero, List.getElem?_cons_succ]; rfl) (fun K hK => ?_) AllReadyP.nil
          go_simp
          refine hK.out _ _ ?_ (fun hHeld2 => ?_)
          · (try dsimp only); exact ⟨(cell_al wz _ hzG).trans bG, (Below.heap_alloc wz _ _ (lgh_lt bX)).trans bX, by simp; omega⟩
          clear hK K hHeld
          have hHeld := hHeld2
          clear hHeld2
          try simp only [Act.put, List.setIfInBounds_toArray, List.set_cons_zero, List.set_cons_succ]
          refine wpAnyP_ready (rs := [8]) (by kernel_rfl) (by simp) ?_
          refine AllReadyP.cons (by simp only [List.getElem?_toArray, List.getElem?_cons_zero, List.getElem?_cons_succ]; rfl) (fun K hK => ?_) AllReadyP.nil
          refine step_append_at rfl (.tmp 43) (.tmp 45) 40 rfl w.heap.size 45 i5 _ 5 40 Tryz.underlying40 hi5 hz50 hz51 hz52 rfl (by decide) (.slice b l.length d) l.length (flat l) (by simp [Act.eval]) (World.ownsRow.alloc (unhide HU) _) ⟨wz.heap.size, 0, none⟩ 1 1 [.int .i64 q, .int .i64 t, .int .i64 kk, .int .i64 v, .int .i64 nn] (by simp [Act.eval]) rfl (cells_new5 wz q t kk v nn _) (by simp [Value.oneCell']) (by unfold maxLen; omega) (by omega) (by simp; omega) ?_
          intro v9 w9 hown9 hgrow9 hwh9
          obtain ⟨g9, c9, rfl⟩ := Go.ownsRow_succ hown9
          replace hgrow9 : (wz.alloc (.cells #[.int .i64 q, .int .i64 t, .int .i64 kk, .int .i64 v, .int .i64 nn] 45)).grownBy w9 (Value.slice b l.length d).ownBlock := ⟨hgrow9.os, hgrow9.tape, hgrow9.output, hgrow9.size, hgrow9.block⟩
          refine hK.out _ _ ?_ (fun hHeld2 => ?_)
          · (try dsimp only); exact ⟨(World.grownBy.cell (w := wz.alloc _) hgrow9 ((cell_al wz _ hzG).trans bG) hneG), (hgrow9.block XB (by simp; have := lgh_lt bX; omega) hneX).trans ((Below.heap_alloc wz _ _ (lgh_lt bX)).trans bX), Nat.lt_of_lt_of_le (by simp; omega) hgrow9.size⟩
          clear hK K hHeld
          have hHeld := hHeld2
          clear hHeld2
          try simp only [Act.put, List.setIfInBounds_toArray, List.set_cons_zero, List.set_cons_succ]
          refine wpAnyP_take (i := 9) (v := ?_) (by simp only [List.getElem?_toArray, List.getElem?_cons_zero, List.getElem?_cons_succ]; rfl) (by kernel_rfl) (by kernel_rfl) (by kernel_rfl) (by kernel_rfl) (by intro _ _ _ h; exact h) (Or.inl ⟨by rfl, ?_⟩) (by assumption) ?_
          rotate_left
          · (intro w9 hSw; (try dsimp only at hSw); obtain ⟨hk1, hk2, hk3⟩ := hSw; have x0 := Joins.cell_of_block hk2 0; have x1 := Joins.cell_of_block hk2 1; have x2 := Joins.cell_of_block hk2 2; have x3 := Joins.cell_of_block hk2 3; have x4 := Joins.cell_of_block hk2 4; simp only [List.getElem?_toArray, List.getElem?_cons_zero, List.getElem?_cons_succ] at x0 x1 x2 x3 x4; have hx := lgh_lt hk2; go_simp <;> with_reducible rfl)
          try simp only [Act.put, List.setIfInBounds_toArray, List.set_cons_zero, List.set_cons_succ]
          have hc9 : w9.cell? ⟨g, k, none⟩ = some (.slice b l.length d) := World.grownBy.cell (w := wz.alloc _) hgrow9 ((cell_al wz _ hzG).trans bG) hneG
          have hf9 : w9.frozen? ⟨g, k, none⟩ = false := unhide HF w9 _ hown9 hgrow9
          have hg9 : g < w9.heap.size := World.block_lt_of_cell? w9 ⟨g, k, none⟩ hc9
          refine wpAnyP_ready (rs := [10]) (by kernel_rfl) (by simp) ?_
          refine AllReadyP.consS (by simp only [List.getElem?_toArray, List.getElem?_cons_zero, List.getElem?_cons_succ]; rfl) (by kernel_rfl) (fun K hK => ?_) AllReadyP.nil
          go_simp
          refine hK.out _ _ ?_
          clear hK K
          try simp only [Act.put, List.setIfInBounds_toArray, List.set_cons_zero, List.set_cons_succ]
          refine wpAnyP_done (by kernel_rfl) ?_ _
          have HN := hide (LgO.tipped (x := ⟨q, t, kk, v, nn⟩) (unhide HO2) hzW (unhide HKL) (unhide HUK) (unhide HLK) hown9 hgrow9 hwh9)
          have hge := (unhide HU).lt
          have hbN : Below w.heap.size w w9 := (bel_alloc (unhide HW) _).grown hgrow9 (by simp; omega) (fun k9 h9 => (hge k9 h9).1)
          have hgg := (unhide HO2).row.lt g rfl
          clear hown9 hgrow9 hwh9 HF hc9 hf9 bX bG hcl
          go_wp2
          go_roundw
          case rel => exact ⟨ix + 1, us.set k (.slice (some ⟨g9, 0, none⟩) (l.length + 1) c9), putL Ls (some ⟨q, t, kk, v, nn⟩), by omega, by go_num, hide (lg_cast (by rw [putL_len]; exact unhide HKL) (unhide HN)), HST, bel_set hbN (by show w.heap.size ≤ g; omega) _⟩
          case measure => simp [intOf]; omega
    · obtain rfl : ix = len := by omega
      have HD := hide ((unhide HI).all (by omega) (by omega))
      have hpp := (unhide HI).pos
      have hles := (unhide HI).les
      have hlll := (unhide HI).le
      clear HI
      go_wp2_with fail
      refine (everyLg_any _ (unhide HO) (fun l h9 => by have := hles l h9; omega) (by omega)).mono ?_
      rintro e wt ⟨rfl, hbt⟩
      have HB := hide (bel_trans hbw hbt)
      have HOF := hide ((unhide HO).bel hbt)
      clear hles
      obtain ⟨ob, hob⟩ : ∃ ob, Ls.all okLog = ob := ⟨_, rfl⟩
      have HOB := hide hob
      rw [hob]
      clear hob
      cases ob with
      | false =>
        have HE := hide (show dskL rs = ([], (rs.length : Int) + 1) by rw [unhide HD, unhide HOB]; rfl)
        rw [hRl] at HE
        go_wp2
        refine bodyPost_ret (v := .tuple #[_, _]) (by simp (maxDischargeDepth := 9) [results, Tryz.results7, go_sem, *]; exact ⟨rfl, rfl⟩) rfl ?_
        exact dsp_nil (unhide HE) (unhide HB)
      | true =>
        have HE := hide (show dskL rs = (Ls, 0) by rw [unhide HD, unhide HOB]; rfl)
        go_wp2
        refine bodyPost_ret (v := .tuple #[_, _]) (by simp (maxDischargeDepth := 9) [results, Tryz.results7, go_sem, *]; exact ⟨rfl, rfl⟩) rfl ?_
        exact dsp_ok (unhide HE) (unhide HOF) (unhide HB)
end Go.Proofs.YtcokdcehjibanaaGreatDoor
/- Proved here: lines of logs, in the program. -/
namespace Go.Proofs.YtcokdcehjibanaaGreatDoor
open Go.ChangeShapes Go.WideShapes Go.ChangeAt Go.RowKit
set_option linter.unusedVariables false
set_option linter.unusedSimpArgs false

theorem impltx_e (x : It) {s : ByteArray} (w : World) (htab : Lib.TabIs Tryz.prog w "internal/strconv.uint64pow10" .u64 Lib.pow10Tab) (h : Hid (lnX x = s)) : Calls Tryz.prog 19 #[.agg #[.int .i64 x.q, .int .i64 x.t, .int .i64 x.k, .int .i64 x.v, .int .i64 x.n]] w fun e w' => e = .returned (.string s) ∧ Below w.heap.size w w' := by
  rw [← unhide h]; exact implitmtext_any x.q x.t x.k x.v x.n w htab
theorem everyLg_eq {B : Nat} {v : Value} {us : List Value} {Ls : List (List It)} {o : Bool} (w : World) (h : LgO w B v us Ls) (hl : ∀ l ∈ Ls, l.length ≤ 1048576) (hn : Ls.length ≤ 1048576) (ho : Hid (Ls.all okLog = o)) : Calls Tryz.prog 17 #[v, .func (.func 18) #[] #[]] w fun e w' => e = .returned (.bool o) ∧ Below w.heap.size w w' := by
  rw [← unhide ho]; exact everyLg_any w h hl hn
set_option maxRecDepth 20000 in
set_option maxHeartbeats 4000000 in
theorem impldskitems_any {B : Nat} {v : Value} {us : List Value} {Ls : List (List It)} (w : World) (h : LgO w B v us Ls) (hl : ∀ l ∈ Ls, l.length ≤ 1000) (hn : Ls.length ≤ 1000) (htab : Lib.TabIs Tryz.prog w "internal/strconv.uint64pow10" .u64 Lib.pow10Tab) : Calls Tryz.prog 5 #[v] w fun e w' => ∃ v', e = .returned v' ∧ OwnSt w' w.heap.size v' (stL (dskO Ls)) ∧ Below w.heap.size w w' := by
  obtain ⟨i0, hi, hz0, hz1, hz2⟩ := info_parts Tryz.infoStr
  obtain ⟨av, cv, rfl⟩ := h.slice
  have HL := hide hl
  have HBD := hide (fun i => dskF_bd hl hn i)
  obtain ⟨oall, hoall⟩ : ∃ oall, Ls.all okLog = oall := ⟨_, rfl⟩
  have HA := hide hoall
  clear hoall
  go_enter Tryz.func5, Tryz.ntmps5
  go_wp2_with fail
  refine (everyLg_eq w h (fun l h9 => by have := unhide HL l h9; omega) (by omega) HA).mono ?_
  rintro e w0 ⟨rfl, hb0⟩
  clear hl
  cases oall with
  | false =>
    have HE := hide (show dskO Ls = [] from if_neg (fun h9 => by have h8 := unhide HA; rw [h9.1] at h8; cases h8))
    go_wp2
    go_ret
    exact ⟨_, rfl, by rw [unhide HE]; exact World.ownsRow_nil _ _ _ _, hb0⟩
  | true =>
    go_wp2
    go_loopw [3, 13] (fun ov iv wr => ∃ (i n : Nat), i ≤ Ls.length ∧ iv = .int .i64 i ∧ Hid (wr.ownsRow w.heap.size 9 1 ov n ((dskF (Ls.take i) 0).map Value.string)) ∧ Hid (n = (dskF (Ls.take i) 0).length) ∧ n ≤ 400 ∧ Below w.heap.size w wr) (fun _ i _ => Ls.length - (intOf i).toNat)
    case atStart => exact ⟨0, 0, Nat.zero_le _, rfl, hide (World.ownsRow_nil _ _ _ _), hide rfl, by omega, hb0⟩
    case round =>
      obtain ⟨i, n, hi9, rfl, HO, Hn0, hn4, hbw⟩ := hrel
      have hnb : n ≤ 1001000 := by rw [unhide Hn0]; exact unhide HBD i
      by_cases hlt : i < Ls.length
      · obtain ⟨M, hM⟩ : ∃ M, dskF (Ls.take i) 0 = M := ⟨_, rfl⟩
        have Hn : Hid (n = M.length) := hide (by rw [← hM]; exact unhide Hn0)
        have HO2 := hide (dk_all rfl hM (unhide HO))
        have HM := hide hM.symm
        clear HO hM Hn0
        obtain ⟨l, hlk⟩ : ∃ l, Ls[i]? = some l := ⟨_, List.getElem?_eq_getElem (by omega)⟩
        have hll : l.length ≤ 1000 := unhide HL l (List.mem_of_getElem? hlk)
        obtain ⟨g, cc, e1, _, hg, _⟩ := h.shape (by omega)
        simp only [Value.slice.injEq, true_and] at e1
        obtain ⟨rfl, rfl⟩ := e1
        obtain ⟨b, d, _, hc0, hI⟩ := h.at_ hlk (Nat.le_trans hll (by decide))
        have HI := hide hI
        have HLK := hide hlk
        have hws := hbw.size
        have hcr := (hbw.cell (p := ⟨g, i, none⟩) hg).trans hc0
        have hgr : g < wr.heap.size := Nat.lt_of_lt_of_le hg hws
        clear hI hlk
        rcases Nat.eq_zero_or_pos i with hi0 | hi0
        · obtain ⟨M1, hM1⟩ : ∃ M1, M1 = M := ⟨_, rfl⟩
          obtain ⟨n1, hn1⟩ : ∃ n1, n1 = n := ⟨_, rfl⟩
          have HPre := hide (dk_pre (M1 := M1) (unhide HM) (unhide HLK) (by rw [hM1, if_neg (by omega)]; simp))
          have Hn1 : Hid (n1 = M1.length) := hide (by rw [hM1, hn1]; exact unhide Hn)
          have HO1 := hide (dk_all (n := n) (m := n1) (M' := M1) hn1.symm hM1.symm (unhide HO2))
          have hz : decide (0 < (i : Int)) = false := by simp; omega
          have hz2 : decide (0 < i) = false := by simp; omega
          have hn1b : n1 ≤ 1002000 := by omega
          have HBo := hbw
          clear HO2 hM1 hn1 hbw hi0
          go_wp2
          clear hz hz2
          go_loopw [3, 25] (fun ov kv wt => ∃ k : Nat, k ≤ l.length ∧ kv = .int .i64 k ∧ Hid (wt.ownsRow w.heap.size 9 1 ov (n1 + k) ((M1 ++ (l.take k).map lnX).map Value.string)) ∧ Below w.heap.size w wt) (fun _ kv _ => l.length - (intOf kv).toNat)
          case atStart => exact ⟨0, Nat.zero_le _, rfl, hide (dk_all (by omega) (by simp) (unhide HO1)), HBo⟩
          case round =>
            obtain ⟨k, hk, rfl, HK, hbt⟩ := hrel
            have hws := hbt.size
            have hc := (hbt.cell (p := ⟨g, i, none⟩) hg).trans hc0
            clear HO1 HBo
            by_cases hkl : k < l.length
            · obtain ⟨x, hxk⟩ : ∃ x, l[k]? = some x := ⟨_, List.getElem?_eq_getElem (by omega)⟩
              obtain ⟨_, _, hx9⟩ := unhide HI
              obtain ⟨gi, oi, rfl, hr⟩ := hx9.resolve_left (by omega)
              have hgi : gi < w.heap.size := hr.lt (by omega)
              obtain ⟨d0, d1, d2, d3, d4⟩ := (hr k _ hxk).below hbt hgi
              obtain ⟨sx, hsx⟩ : ∃ sx, lnX x = sx := ⟨_, rfl⟩
              have HT := hide hsx
              have HX := hide hxk
              have hkb := hide (show n1 + k ≤ 1003000 by omega)
              clear hx9 hr hsx hxk
              go_wp2_with fail
              refine (impltx_e x _ (tab_bel htab (bel_alloc hbt _)) HT).mono ?_
              rintro e wc ⟨rfl, hbc⟩
              have HC := hide (ownBel (World.ownsRow.alloc (unhide HK) _) hbc)
              have hbtc := bel_trans (bel_alloc hbt _) hbc
              have zc := hbtc.size
              have hge := hide (fun b hb => World.ownsRow.lt (unhide HC) b hb)
              have hk3 := unhide hkb
              clear d0 d1 d2 d3 d4 hbc HK hc
              go_wp2_with (at_builtin; go_loud (refine wpList_append_own _ rfl _ _ 25 rfl w.heap.size 9 i0 _ 1 16 Tryz.underlying25 hi hz0 hz1 hz2 rfl (by decide) u3 _ _ rfl (World.ownsRow.alloc (unhide HC) _) ⟨wc.heap.size, 0, none⟩ 1 1 [.string sx] rfl rfl (cells_newSt wc sx _) (by simp [Value.oneCell']) (by unfold maxLen; omega) (by omega) (by simp; omega) ?_); intro v' w5 hown' hgrow _)
              have hb5 : Below w.heap.size w w5 := (bel_alloc hbtc _).grown hgrow (by simp; omega) (fun k9 h9 => (unhide hge k9 h9).1)
              have HN := hide (dk_all rfl (dk_item (M1 := M1) (unhide HX) (unhide HT)).symm (dk_last hown'))
              clear hge hown' hgrow HC
              go_roundw
              case rel => exact ⟨k + 1, by omega, by go_num, HN, hb5⟩
              case measure => simp [intOf]; omega
            · obtain rfl : k = l.length := by omega
              have HN := hide (dk_all (M' := dskF (Ls.take (i + 1)) 0) rfl (by rw [List.take_of_length_le (Nat.le_refl _)]; exact unhide HPre) (unhide HK))
              clear HK
              obtain ⟨av3, cv3, e3⟩ := sliceJ (unhide HN)
              subst e3
              by_cases h4 : 400 < n1 + l.length
              · have h4' : decide (400 < n1 + l.length) = true := decide_eq_true h4
                have h4'' : decide ((400 : Int) < (n1 : Int) + (l.length : Int)) = true := decide_eq_true (by omega)
                have HE := hide (show dskO Ls = [] from dskO_long (by have h9 := dskF_mono Ls (i + 1); rw [← unhide HPre, List.length_append, List.length_map, ← unhide Hn1] at h9; omega))
                go_wp2
                go_ret
                exact ⟨_, rfl, by rw [unhide HE]; exact World.ownsRow_nil _ _ _ _, hbt⟩
              · have h4' : decide (400 < n1 + l.length) = false := decide_eq_false h4
                have h4'' : decide ((400 : Int) < (n1 : Int) + (l.length : Int)) = false := decide_eq_false (by omega)
                go_wp2
                go_roundw
                case rel => exact ⟨i + 1, n1 + l.length, by omega, by go_num, HN, hide (by rw [← unhide HPre, List.length_append, List.length_map, ← unhide Hn1]), by omega, hbt⟩
                case measure => simp [intOf]; omega
        · have hz : decide (0 < (i : Int)) = true := by simp; omega
          have zw := (hbw).size
          have hge := hide (fun b hb => World.ownsRow.lt (unhide HO2) b hb)
          go_wp2_with (at_builtin; go_loud (refine wpList_append_own _ rfl _ _ 25 rfl w.heap.size 9 i0 _ 1 16 Tryz.underlying25 hi hz0 hz1 hz2 rfl (by decide) u3 _ _ rfl (World.ownsRow.alloc (unhide HO2) _) ⟨wr.heap.size, 0, none⟩ 1 1 [.string ⟨#[45]⟩] rfl rfl (cells_newSt wr ⟨#[45]⟩ _) (by simp [Value.oneCell']) (by unfold maxLen; omega) (by omega) (by simp; omega) ?_); intro v' w5 hown' hgrow _)
          have HBo : Below w.heap.size w w5 := (bel_alloc hbw _).grown hgrow (by simp; omega) (fun k9 h9 => (unhide hge k9 h9).1)
          obtain ⟨M1, hM1⟩ : ∃ M1, M1 = M ++ [dashB] := ⟨_, rfl⟩
          obtain ⟨n1, hn1⟩ : ∃ n1, n1 = n + 1 := ⟨_, rfl⟩
          have HPre := hide (dk_pre (M1 := M1) (unhide HM) (unhide HLK) (by rw [hM1, if_pos hi0]))
          have Hn1 : Hid (n1 = M1.length) := hide (by rw [hM1, hn1, List.length_append, ← unhide Hn]; rfl)
          have HO1 := hide (dk_all (n := n + 1) (m := n1) (M' := M1) hn1.symm hM1.symm (dk_last (x := dashB) hown'))
          have hn1b : n1 ≤ 1002000 := by omega
          clear HO2 hM1 hn1 hbw hown' hgrow hge hz hi0 zw
          go_loopw [3, 25] (fun ov kv wt => ∃ k : Nat, k ≤ l.length ∧ kv = .int .i64 k ∧ Hid (wt.ownsRow w.heap.size 9 1 ov (n1 + k) ((M1 ++ (l.take k).map lnX).map Value.string)) ∧ Below w.heap.size w wt) (fun _ kv _ => l.length - (intOf kv).toNat)
          case atStart => exact ⟨0, Nat.zero_le _, rfl, hide (dk_all (by omega) (by simp) (unhide HO1)), HBo⟩
          case round =>
            obtain ⟨k, hk, rfl, HK, hbt⟩ := hrel
            have hws := hbt.size
            have hc := (hbt.cell (p := ⟨g, i, none⟩) hg).trans hc0
            clear HO1 HBo
            by_cases hkl : k < l.length
            · obtain ⟨x, hxk⟩ : ∃ x, l[k]? = some x := ⟨_, List.getElem?_eq_getElem (by omega)⟩
              obtain ⟨_, _, hx9⟩ := unhide HI
              obtain ⟨gi, oi, rfl, hr⟩ := hx9.resolve_left (by omega)
              have hgi : gi < w.heap.size := hr.lt (by omega)
              obtain ⟨d0, d1, d2, d3, d4⟩ := (hr k _ hxk).below hbt hgi
              obtain ⟨sx, hsx⟩ : ∃ sx, lnX x = sx := ⟨_, rfl⟩
              have HT := hide hsx
              have HX := hide hxk
              have hkb := hide (show n1 + k ≤ 1003000 by omega)
              clear hx9 hr hsx hxk
              go_wp2_with fail
              refine (impltx_e x _ (tab_bel htab (bel_alloc hbt _)) HT).mono ?_
              rintro e wc ⟨rfl, hbc⟩
              have HC := hide (ownBel (World.ownsRow.alloc (unhide HK) _) hbc)
              have hbtc := bel_trans (bel_alloc hbt _) hbc
              have zc := hbtc.size
              have hge := hide (fun b hb => World.ownsRow.lt (unhide HC) b hb)
              have hk3 := unhide hkb
              clear d0 d1 d2 d3 d4 hbc HK hc
              go_wp2_with (at_builtin; go_loud (refine wpList_append_own _ rfl _ _ 25 rfl w.heap.size 9 i0 _ 1 16 Tryz.underlying25 hi hz0 hz1 hz2 rfl (by decide) u3 _ _ rfl (World.ownsRow.alloc (unhide HC) _) ⟨wc.heap.size, 0, none⟩ 1 1 [.string sx] rfl rfl (cells_newSt wc sx _) (by simp [Value.oneCell']) (by unfold maxLen; omega) (by omega) (by simp; omega) ?_); intro v' w5 hown' hgrow _)
              have hb5 : Below w.heap.size w w5 := (bel_alloc hbtc _).grown hgrow (by simp; omega) (fun k9 h9 => (unhide hge k9 h9).1)
              have HN := hide (dk_all rfl (dk_item (M1 := M1) (unhide HX) (unhide HT)).symm (dk_last hown'))
              clear hge hown' hgrow HC
              go_roundw
              case rel => exact ⟨k + 1, by omega, by go_num, HN, hb5⟩
              case measure => simp [intOf]; omega
            · obtain rfl : k = l.length := by omega
              have HN := hide (dk_all (M' := dskF (Ls.take (i + 1)) 0) rfl (by rw [List.take_of_length_le (Nat.le_refl _)]; exact unhide HPre) (unhide HK))
              clear HK
              obtain ⟨av3, cv3, e3⟩ := sliceJ (unhide HN)
              subst e3
              by_cases h4 : 400 < n1 + l.length
              · have h4' : decide (400 < n1 + l.length) = true := decide_eq_true h4
                have h4'' : decide ((400 : Int) < (n1 : Int) + (l.length : Int)) = true := decide_eq_true (by omega)
                have HE := hide (show dskO Ls = [] from dskO_long (by have h9 := dskF_mono Ls (i + 1); rw [← unhide HPre, List.length_append, List.length_map, ← unhide Hn1] at h9; omega))
                go_wp2
                go_ret
                exact ⟨_, rfl, by rw [unhide HE]; exact World.ownsRow_nil _ _ _ _, hbt⟩
              · have h4' : decide (400 < n1 + l.length) = false := decide_eq_false h4
                have h4'' : decide ((400 : Int) < (n1 : Int) + (l.length : Int)) = false := decide_eq_false (by omega)
                go_wp2
                go_roundw
                case rel => exact ⟨i + 1, n1 + l.length, by omega, by go_num, HN, hide (by rw [← unhide HPre, List.length_append, List.length_map, ← unhide Hn1]), by omega, hbt⟩
                case measure => simp [intOf]; omega
      · have HE : Hid (dskF (Ls.take i) 0 = dskF Ls 0) := hide (by rw [List.take_of_length_le (by omega)])
        have Hn2 : Hid (n = (dskF Ls 0).length) := hide (by rw [← unhide HE]; exact unhide Hn0)
        have HE2 := hide (dskO_is (Ls := Ls) (unhide HA) (by rw [← unhide Hn2]; omega))
        go_wp2
        go_ret
        exact ⟨_, rfl, by rw [unhide HE2]; exact dk_own (unhide Hn2) (unhide HE) (unhide HO), hbw⟩
end Go.Proofs.YtcokdcehjibanaaGreatDoor
/- Proved here: the law on logs' lines there and back returns true at every two codes. -/
namespace Go.Proofs.YtcokdcehjibanaaGreatDoor
open Go.ChangeShapes Go.WideShapes Go.ChangeAt Go.RowKit
set_option linter.unusedVariables false
set_option linter.unusedSimpArgs false

set_option maxRecDepth 20000 in
set_option maxHeartbeats 1000000 in
theorem frits_any (a1 a2 : Option Addr) (len cap1 cap2 : Nat) (xs : List It) (w : World) (h1 : Its w a1 len xs) (h2 : Its w a2 len xs) : Calls Tryz.prog 26 #[.slice a1 len cap1, .slice a2 len cap2] w fun e w' => e = .returned (.bool true) ∧ Below w.heap.size w w' := by
  have hm := h1.2.1
  unfold maxLen at hm
  go_enter Tryz.func26, Tryz.ntmps26
  go_wp2
  go_loopw [5] (fun i wr => ∃ k : Nat, k ≤ len ∧ i = .int .i64 k ∧ Below w.heap.size w wr) (fun i _ => len - (intOf i).toNat)
  case atStart => exact ⟨0, Nat.zero_le _, rfl, Below.refl _ _⟩
  case round =>
    obtain ⟨k, hk, rfl, hbw⟩ := hrel
    by_cases hlt : k < len
    · obtain ⟨hl1, _, hx1⟩ := h1
      obtain ⟨hl2, _, hx2⟩ := h2
      obtain ⟨g1, o1, rfl, hr1⟩ := hx1.resolve_left (by omega)
      obtain ⟨g2, o2, rfl, hr2⟩ := hx2.resolve_left (by omega)
      obtain ⟨x, hxk⟩ : ∃ x, xs[k]? = some x := ⟨_, List.getElem?_eq_getElem (by omega)⟩
      have hg1 : g1 < w.heap.size := hr1.lt (by omega)
      have hg2 : g2 < w.heap.size := hr2.lt (by omega)
      have hltI : (k : Int) < (len : Int) := by omega
      obtain ⟨c0, c1, c2, c3, c4⟩ := (hr1 k _ hxk).below hbw hg1
      obtain ⟨d0, d1, d2, d3, d4⟩ := (hr2 k _ hxk).below hbw hg2
      clear hx1 hx2 hxk hr1 hr2
      go_wp2_with fail
      go_quiet (fail)
      go_wp2
      go_roundw
      case rel => exact ⟨k + 1, by omega, by go_num, (by repeat (first | (with_reducible exact Below.refl _ _) | (with_reducible assumption) | (with_reducible refine bel_set ?_ (by first | (simp; done) | (simp; omega)) _) | (with_reducible refine bel_alloc ?_ _) | (with_reducible refine bel_drew ?_) | (with_reducible refine bel_drewN ?_ _) | (with_reducible refine bel_trans ?_ (by with_reducible assumption))))⟩
      case measure => simp [intOf]; omega
    · go_wp2
      go_ret
      exact ⟨rfl, hbw⟩
set_option maxRecDepth 20000 in
set_option maxHeartbeats 1000000 in
theorem frlogs_any {B1 B2 : Nat} {v1 v2 : Value} {us1 us2 : List Value} {Ls : List (List It)} (w : World) (h1 : LgO w B1 v1 us1 Ls) (h2 : LgO w B2 v2 us2 Ls) (hl : ∀ l ∈ Ls, l.length ≤ 1048576) (hn : Ls.length ≤ 1048576) : Calls Tryz.prog 11 #[v1, v2] w fun e w' => e = .returned (.bool true) ∧ Below w.heap.size w w' := by
  obtain ⟨a1, c1, rfl⟩ := h1.slice
  obtain ⟨a2, c2, rfl⟩ := h2.slice
  have HL := hide hl
  clear hl
  generalize hN : Ls.length = n at *
  go_enter Tryz.func11, Tryz.ntmps11
  go_wp2
  go_loopw [5] (fun i wr => ∃ k : Nat, k ≤ n ∧ i = .int .i64 k ∧ Below w.heap.size w wr) (fun i _ => n - (intOf i).toNat)
  case atStart => exact ⟨0, Nat.zero_le _, rfl, Below.refl _ _⟩
  case round =>
    obtain ⟨k, hk, rfl, hbw⟩ := hrel
    by_cases hlt : k < n
    · obtain ⟨l, hlk⟩ : ∃ l, Ls[k]? = some l := ⟨_, List.getElem?_eq_getElem (by omega)⟩
      have hll : l.length ≤ maxLen := Nat.le_trans (unhide HL l (List.mem_of_getElem? hlk)) (by decide)
      obtain ⟨g1, cc1, e1, _, hg1, _⟩ := h1.shape (by omega)
      obtain ⟨g2, cc2, e2, _, hg2, _⟩ := h2.shape (by omega)
      rw [hN] at e1 e2
      simp only [Value.slice.injEq, true_and] at e1 e2
      obtain ⟨rfl, rfl⟩ := e1
      obtain ⟨rfl, rfl⟩ := e2
      subst hN
      obtain ⟨b1, d1, _, s1, I1⟩ := (h1.bel hbw).at_ hlk hll
      obtain ⟨b2, d2, _, s2, I2⟩ := (h2.bel hbw).at_ hlk hll
      have I1' := hide I1
      have I2' := hide I2
      have hs := hbw.size
      have z1 : g1 < wr.heap.size := by omega
      have z2 : g2 < wr.heap.size := by omega
      clear I1 I2 hlk h1 h2
      go_wp2_with fail
      go_region_with (go_at_call 26; refine (frits_any b1 b2 l.length d1 d2 l _ ((unhide I1').below (by repeat (first | (with_reducible exact Below.refl _ _) | (with_reducible refine bel_drew ?_) | (with_reducible refine bel_drewN ?_ _)))) ((unhide I2').below (by repeat (first | (with_reducible exact Below.refl _ _) | (with_reducible refine bel_drew ?_) | (with_reducible refine bel_drewN ?_ _))))).mono ?_; rintro e w2 ⟨rfl, hb2⟩)
      all_goals
        go_wp2
        go_roundw
        case rel => exact ⟨k + 1, by omega, by go_num, (by repeat (first | (with_reducible exact Below.refl _ _) | (with_reducible assumption) | (with_reducible refine bel_drew ?_) | (with_reducible refine bel_drewN ?_ _) | (with_reducible refine bel_trans ?_ (by with_reducible assumption))))⟩
        case measure => simp [intOf]; omega
    · go_wp2
      go_ret
      exact ⟨rfl, hbw⟩
set_option maxRecDepth 20000 in
set_option maxHeartbeats 1000000 in
theorem frtx_any (a1 a2 : Option Addr) (len cap1 cap2 : Nat) (xs : List StR) (w : World) (h1 : StRs w a1 len xs) (h2 : StRs w a2 len xs) : Calls Tryz.prog 9 #[.slice a1 len cap1, .slice a2 len cap2] w fun e w' => e = .returned (.bool true) ∧ Below w.heap.size w w' := by
  have hm := h1.2.1
  unfold maxLen at hm
  go_enter Tryz.func9, Tryz.ntmps9
  go_wp2
  go_loopw [5] (fun i wr => ∃ k : Nat, k ≤ len ∧ i = .int .i64 k ∧ Below w.heap.size w wr) (fun i _ => len - (intOf i).toNat)
  case atStart => exact ⟨0, Nat.zero_le _, rfl, Below.refl _ _⟩
  case round =>
    obtain ⟨k, hk, rfl, hbw⟩ := hrel
    by_cases hlt : k < len
    · obtain ⟨hl1, _, hx1⟩ := h1
      obtain ⟨hl2, _, hx2⟩ := h2
      obtain ⟨g1, o1, rfl, hr1⟩ := hx1.resolve_left (by omega)
      obtain ⟨g2, o2, rfl, hr2⟩ := hx2.resolve_left (by omega)
      obtain ⟨x, hxk⟩ : ∃ x, xs[k]? = some x := ⟨_, List.getElem?_eq_getElem (by omega)⟩
      have t1 : wr.cell? ⟨g1, o1 + k * 1, none⟩ = some (.string x.s) := (hbw.cell (p := ⟨g1, _, none⟩) (hr1 k x hxk).lt).trans (hr1 k x hxk)
      have t2 : wr.cell? ⟨g2, o2 + k * 1, none⟩ = some (.string x.s) := (hbw.cell (p := ⟨g2, _, none⟩) (hr2 k x hxk).lt).trans (hr2 k x hxk)
      simp only [Nat.mul_one] at t1 t2
      clear hx1 hx2 hxk hr1 hr2
      go_wp2_with fail
      go_quiet (fail)
      go_wp2
      go_roundw
      case rel => exact ⟨k + 1, by omega, by go_num, (by repeat (first | (with_reducible exact Below.refl _ _) | (with_reducible assumption) | (with_reducible refine bel_set ?_ (by first | (simp; done) | (simp; omega)) _) | (with_reducible refine bel_alloc ?_ _) | (with_reducible refine bel_drew ?_) | (with_reducible refine bel_drewN ?_ _) | (with_reducible refine bel_trans ?_ (by with_reducible assumption))))⟩
      case measure => simp [intOf]; omega
    · go_wp2
      go_ret
      exact ⟨rfl, hbw⟩
theorem holdN {W : World} {B : Nat} {v : Value} {ys : List StR} (h : OwnSt W B v ys) (hl : ys.length ≤ 1048576) : ∃ a n cap, v = .slice a n cap ∧ ys.length = n ∧ StRs W a n ys := by
  obtain ⟨a, cap, h1, h2, _⟩ := holdSt h hl
  exact ⟨a, _, cap, h1, rfl, h2⟩
theorem hold3 {W : World} {B : Nat} {v : Value} {L : List ByteArray} (h : OwnSt W B v (stL L)) (hl : L.length ≤ 1048576) : ∃ a n cap, v = .slice a n cap ∧ L.length = n ∧ StRs W a n (stL L) ∧ (0 < n → ∃ g, a = some ⟨g, 0, none⟩ ∧ n ≤ cap) := by
  rcases Nat.eq_zero_or_pos L.length with h0 | h0
  · obtain ⟨a, n, cap, h1, h2, h3⟩ := holdN h (by rw [stL_len]; omega)
    rw [stL_len] at h2
    exact ⟨a, n, cap, h1, h2, h3, fun h9 => by omega⟩
  · obtain ⟨g, c, rfl, _, _, hc⟩ := ownSt_shape h h0
    obtain ⟨a, n, cap, h1, h2, h3⟩ := holdN h (by rw [stL_len]; omega)
    simp only [Value.slice.injEq] at h1
    obtain ⟨rfl, rfl, rfl⟩ := h1
    exact ⟨_, _, _, rfl, rfl, h3, fun _ => ⟨g, rfl, hc⟩⟩
/-- The two lines of the law: a record, and what is nothing. -/
def exD : List ByteArray := [⟨#[114, 101, 99, 32, 49, 32, 49, 32, 49]⟩, ⟨#[120]⟩]
theorem one1 : lnX ⟨1, 1, 1, 1, 0⟩ = ⟨#[114, 101, 99, 32, 49, 32, 49, 32, 49]⟩ := by
  have h1 : decI 1 = ⟨#[49]⟩ := by
    refine ByteArray.ext (Array.toList_inj.1 ?_)
    rw [decI_l, if_neg (by decide), show (1 : Int).toNat = 1 from rfl, dec_lt (by omega)]; rfl
  rw [lnX_ok (by decide)]
  show itmTxt 1 1 1 1 0 = _
  rw [itmTxt, h1]
  rfl
theorem ln_x : LnIt ⟨#[120]⟩ none := by
  refine Or.inr ⟨by decide, 0, 0, 0, 0, 0, false, Or.inr ⟨rfl, ⟨rfl, rfl, rfl, rfl, rfl⟩, fun q t k v n hok e => ?_⟩, rfl⟩
  have h1 := congrArg ByteArray.size e
  have h2 : 4 ≤ (itmTxt q t k v n).size := by
    unfold itmTxt
    split
    · simp only [ByteArray.size_append]; show 4 ≤ 4 + _ + _ + _ + _ + _; omega
    · split
      · simp only [ByteArray.size_append]; show 4 ≤ 5 + _; omega
      · simp only [ByteArray.size_append]; show 4 ≤ 5 + _; omega
  have h3 : (⟨#[120]⟩ : ByteArray).size = 1 := rfl
  omega
theorem exD_all : LnAll exD [some (some ⟨1, 1, 1, 1, 0⟩), none] := by
  refine ⟨rfl, fun i x r hx hr => ?_⟩
  match i, hx, hr with
  | 0, hx, hr =>
    obtain rfl := Option.some.inj hx
    obtain rfl := Option.some.inj hr
    have := lnIt_item (x := ⟨1, 1, 1, 1, 0⟩) (by decide) (by decide)
    rwa [one1] at this
  | 1, hx, hr =>
    obtain rfl := Option.some.inj hx
    obtain rfl := Option.some.inj hr
    exact ln_x
  | i + 2, hx, hr => simp [exD] at hx
theorem st_map (L : List ByteArray) (i : Nat) : (stL L)[i]? = L[i]?.map fun x => ⟨x⟩ := by simp [stL]
theorem exD_is : dskL [some (some ⟨1, 1, 1, 1, 0⟩), none] = ([], 2) := rfl
theorem stD {W : World} {g : Nat} (hg : g = W.heap.size) : StRs (W.alloc (.cells #[.string ⟨#[114, 101, 99, 32, 49, 32, 49, 32, 49]⟩, .string ⟨#[120]⟩] 9)) (some ⟨g, 0, none⟩) 2 (stL exD) := by
  subst hg
  refine ⟨rfl, by decide, Or.inr ⟨_, 0, rfl, fun i x hx => ?_⟩⟩
  rw [st_map] at hx
  match i, hx with
  | 0, hx => obtain rfl := Option.some.inj hx; show World.cell? _ _ = _; simp [go_sem]
  | 1, hx => obtain rfl := Option.some.inj hx; show World.cell? _ _ = _; simp [go_sem]
  | i + 2, hx => simp [exD] at hx
theorem impldi_eq {B : Nat} {v : Value} {us : List Value} {Ls : List (List It)} {L : List ByteArray} (w : World) (h : LgO w B v us Ls) (hl : ∀ l ∈ Ls, l.length ≤ 1000) (hn : Ls.length ≤ 1000) (htab : Lib.TabIs Tryz.prog w "internal/strconv.uint64pow10" .u64 Lib.pow10Tab) (hL : Hid (dskO Ls = L)) : Calls Tryz.prog 5 #[v] w fun e w' => ∃ v', e = .returned v' ∧ OwnSt w' w.heap.size v' (stL L) ∧ Below w.heap.size w w' := by
  rw [← unhide hL]; exact impldskitems_any w h hl hn htab
theorem specdi_eq {B : Nat} {v : Value} {us : List Value} {Ls : List (List It)} {L : List ByteArray} (w : World) (h : LgO w B v us Ls) (hl : ∀ l ∈ Ls, l.length ≤ 1000) (hn : Ls.length ≤ 1000) (hL : Hid (dskO Ls = L)) : Calls Tryz.prog 10 #[v] w fun e w' => ∃ v', e = .returned v' ∧ OwnSt w' w.heap.size v' (stL L) ∧ Below w.heap.size w w' := by
  rw [← unhide hL]; exact specdskitems_any w h hl hn
theorem specdsk_eq (a : Option Addr) (len cap : Nat) (L : List ByteArray) (rs : List (Option (Option It))) (Ls : List (List It)) (c : Int) (w : World) (h : StRs w a len (stL L)) (hs : ∀ x ∈ L, x.size ≤ 1048576) (hl : len ≤ 1048576) (hr : LnAll L rs) (hN : Hid (dskL rs = (Ls, c))) : Calls Tryz.prog 8 #[.slice a len cap] w fun e w' => ∃ v us, e = .returned (.tuple #[v, .int .i64 c]) ∧ LgO w' w.heap.size v us Ls ∧ Below w.heap.size w w' := by
  have h1 := specdsk_any a len cap L rs w h hs hl hr
  unfold DsP at h1
  rw [unhide hN] at h1
  exact h1
theorem impldsk_eq {tp1 tp2 : TypeId} {p1 p2 : Value} {m : Int} (a : Option Addr) (len cap : Nat) (L : List ByteArray) (rs : List (Option (Option It))) (Ls : List (List It)) (c : Int) (w : World) (h : StRs w a len (stL L)) (hl : len ≤ 1048576) (hr : LnAll L rs) (hE : Env tp1 tp2 p1 p2 m w) (hN : Hid (dskL rs = (Ls, c))) : Calls Tryz.prog 7 #[.slice a len cap] w fun e w' => ∃ v us, e = .returned (.tuple #[v, .int .i64 c]) ∧ LgO w' w.heap.size v us Ls ∧ Below w.heap.size w w' := by
  have h1 := impldsk_any a len cap L rs w h hl hr hE
  unfold DsP at h1
  rw [unhide hN] at h1
  exact h1
set_option maxRecDepth 20000 in
set_option maxHeartbeats 4000000 in
theorem lawDskLogs2 (a : Option Addr) (len cap : Nat) (a2 : Option Addr) (len2 cap2 : Nat) (w : World) (hlc : len ≤ cap) (hm : len ≤ maxLen) (hb : BytesAt w a len) (hl : ∀ g o, a = some ⟨g, o, none⟩ → 0 < len → g < w.heap.size) (hn : a = none → cap = 0) (hlc2 : len2 ≤ cap2) (hm2 : len2 ≤ maxLen) (hbB : BytesAt w a2 len2) (hl2 : ∀ g o, a2 = some ⟨g, o, none⟩ → 0 < len2 → g < w.heap.size) (hn2 : a2 = none → cap2 = 0) {tp1 tp2 : TypeId} {p1 p2 : Value} {m : Int} (hE : Env tp1 tp2 p1 p2 m w) : Calls Tryz.prog 3 #[.slice a len cap, .slice a2 len2 cap2] w fun e w' => e = .returned (.bool true) ∧ Below w.heap.size w w' := by
  unfold maxLen at hm hm2
  by_cases hlen : (len : Int) ≤ 1048576
  case neg =>
    go_enter Tryz.func3, Tryz.ntmps3
    go_wp2
    go_ret
    exact ⟨rfl, Below.refl _ _⟩
  by_cases hlen2 : (len2 : Int) ≤ 1048576
  case neg =>
    go_enter Tryz.func3, Tryz.ntmps3
    go_wp2
    go_ret
    exact ⟨rfl, Below.refl _ _⟩
  · go_enter Tryz.func3, Tryz.ntmps3
    go_wp2_with fail
    refine (drawdskitems_any a len cap w hlc (by omega) hb hl hn).mono ?_
    rintro e' w1 ⟨lv, us, Ls, rfl, hO1, hLn, hLb, hb1⟩
    have hbB1 := BytesAt.bel hbB hl2 hb1
    have hl21 : ∀ g o, a2 = some ⟨g, o, none⟩ → 0 < len2 → g < w1.heap.size := fun g o ha hp => Nat.lt_of_lt_of_le (hl2 g o ha hp) hb1.size
    have HLb := hide hLb
    have HO1 := hide hO1
    obtain ⟨L0, hL0⟩ : ∃ L0, dskO Ls = L0 := ⟨_, rfl⟩
    have hbd := dskO_bd Ls
    rw [hL0] at hbd
    obtain ⟨hb400, _⟩ := hbd
    have HL0 := hide hL0
    clear hb hl hn hbB hl2 hLb hO1 hL0
    go_wp2_with fail
    refine (impldi_eq _ (unhide HO1) (fun l h9 => by have := unhide HLb l h9; omega) (by omega) (hE.bel hb1).tab HL0).mono ?_
    rintro e' w2 ⟨vl, rfl, hOl, hb2⟩
    obtain ⟨al, n1, cl, rfl, hn1, H2, _⟩ := hold3 hOl (by omega)
    have HT2 := hide H2
    have HO2 := hide ((unhide HO1).bel hb2)
    have hB2 := bel_trans hb1 hb2
    have hbB2 := BytesAt.bel hbB1 hl21 hb2
    have hl22 : ∀ g o, a2 = some ⟨g, o, none⟩ → 0 < len2 → g < w2.heap.size := fun g o ha hp => Nat.lt_of_lt_of_le (hl21 g o ha hp) hb2.size
    have hn1b : n1 ≤ 400 := by omega
    have hn1l : L0.length ≤ n1 := by omega
    have hn1m : n1 ≤ L0.length := by omega
    clear hb1 hbB1 hl21 HO1 hOl H2 hb2 hn1 hb400
    go_wp2_with fail
    refine (drawdsklogs_any a2 len2 cap2 w2 hlc2 (by omega) hbB2 hl22 hn2).mono ?_
    rintro e' w3 ⟨vt, L, rfl, hOt, hL51, hLs, hb3⟩
    obtain ⟨bt, nt, ct, rfl, hnt, H3, _⟩ := hold3 hOt (by omega)
    have HLs := hide (show ∀ x ∈ L, x.size ≤ 1048576 from fun x hx => by have := hLs x hx; omega)
    have HX3 := hide H3
    have HT3 := hide ((unhide HT2).below hb3)
    have HO3 := hide ((unhide HO2).bel hb3)
    have hB3 := bel_trans hB2 hb3
    have hntb : nt ≤ 51 := by omega
    obtain ⟨rs, hrs⟩ := lnAll_ex L
    have HR := hide hrs
    obtain ⟨Ms, c, hN0⟩ : ∃ Ms c, dskL rs = (Ms, c) := ⟨_, _, rfl⟩
    have hle := dskL_len rs
    rw [hN0] at hle
    obtain ⟨hM1, hM2⟩ := hle
    dsimp only at hM1 hM2
    have HM1 := hide hM1
    have HM2 := hide hM2
    have HN := hide hN0
    have Hnt := hide hnt
    clear hOt hLs H3 hb3 HT2 HO2 hB2 hbB2 hl22 hrs hN0 hM1 hM2 hnt
    go_wp2_with fail
    refine (impldsk_eq _ _ _ L rs Ms c _ (unhide HX3) (by omega) (unhide HR) (hE.bel hB3) HN).mono ?_
    rintro e' w4 ⟨v1, us1, rfl, hO4, hb4⟩
    have HV4 := hide hO4
    have HX4 := hide ((unhide HX3).below hb4)
    have HT4 := hide ((unhide HT3).below hb4)
    have HO4 := hide ((unhide HO3).bel hb4)
    have hB4 := bel_trans hB3 hb4
    clear hO4 hb4 HX3 HT3 HO3 hB3
    go_wp2_with fail
    refine (specdsk_eq _ _ _ L rs Ms c _ (unhide HX4) (unhide HLs) (by omega) (unhide HR) HN).mono ?_
    rintro e' w5 ⟨v2, us2, rfl, hO5, hb5⟩
    have HV5 := hide ((unhide HV4).bel hb5)
    have HW5 := hide hO5
    have HX5 := hide ((unhide HX4).below hb5)
    have HT5 := hide ((unhide HT4).below hb5)
    have HO5 := hide ((unhide HO4).bel hb5)
    have hB5 := bel_trans hB4 hb5
    clear hO5 hb5 HX4 HT4 HO4 hB4 HV4
    go_wp2_with fail
    refine (specdi_eq _ (unhide HO5) (fun l h9 => by have := unhide HLb l h9; omega) (by omega) HL0).mono ?_
    rintro e' w6 ⟨vs, rfl, hOs, hb6⟩
    obtain ⟨a6, n6, c6, rfl, hns, H6, _⟩ := hold3 hOs (by omega)
    obtain rfl : n1 = n6 := by omega
    have HS6 := hide H6
    have HV6 := hide ((unhide HV5).bel hb6)
    have HW6 := hide ((unhide HW5).bel hb6)
    have HX6 := hide ((unhide HX5).below hb6)
    have HT6 := hide ((unhide HT5).below hb6)
    have HO6 := hide ((unhide HO5).bel hb6)
    have hB6 := bel_trans hB5 hb6
    clear hOs H6 hb6 HX5 HT5 HO5 hB5 HV5 HW5 hns
    go_wp2_with fail
    refine (frtx_any _ _ _ _ _ (stL L0) _ (unhide HT6) (unhide HS6)).mono ?_
    rintro e' w7 ⟨rfl, hb7⟩
    have HV7 := hide ((unhide HV6).bel hb7)
    have HW7 := hide ((unhide HW6).bel hb7)
    have HX7 := hide ((unhide HX6).below hb7)
    have HT7 := hide ((unhide HT6).below hb7)
    have HO7 := hide ((unhide HO6).bel hb7)
    have hB7 := bel_trans hB6 hb7
    clear hb7 HX6 HT6 HO6 hB6 HV6 HW6 HS6
    go_wp2_with fail
    refine (frlogs_any _ (unhide HV7) (unhide HW7) (fun l h9 => by have := unhide HM2 l h9; omega) (by have := unhide HM1; omega)).mono ?_
    rintro e' w8 ⟨rfl, hb8⟩
    have HV8 := hide ((unhide HV7).bel hb8)
    have HX8 := hide ((unhide HX7).below hb8)
    have HT8 := hide ((unhide HT7).below hb8)
    have HO8 := hide ((unhide HO7).bel hb8)
    have hB8 := bel_trans hB7 hb8
    clear hb8 HX7 HT7 HO7 hB7 HV7 HW7
    by_cases hc : c = 0
    · subst hc
      have HBk := hide (dsk_back (unhide HR) (unhide HN))
      go_wp2_with fail
      refine (impldi_eq _ (unhide HV8) (fun l h9 => by have := unhide HM2 l h9; omega) (by have := unhide HM1; omega) (hE.bel hB8).tab HBk).mono ?_
      rintro e' w9 ⟨vq, rfl, hOq, hb9⟩
      obtain ⟨aq, nq, cq, rfl, hnq, H9, _⟩ := hold3 hOq (by have := unhide Hnt; omega)
      obtain rfl : nt = nq := by rw [← unhide Hnt, ← hnq]
      have HQ9 := hide H9
      have HX9 := hide ((unhide HX8).below hb9)
      have HT9 := hide ((unhide HT8).below hb9)
      have HO9 := hide ((unhide HO8).bel hb9)
      have hB9 := bel_trans hB8 hb9
      clear hb9 HX8 HT8 HO8 hB8 HV8 hOq H9 hnq
      go_wp2_with fail
      refine (frtx_any _ _ _ _ _ (stL L) _ (unhide HQ9) (unhide HX9)).mono ?_
      rintro e' wa ⟨rfl, hba⟩
      have HTa := hide ((unhide HT9).below hba)
      have HOa := hide ((unhide HO9).bel hba)
      have hBa := bel_trans hB9 hba
      clear hba HX9 HT9 HO9 hB9 HQ9
      by_cases hz : n1 = 0
      · subst hz
        have hEt := hE.bel (bel_alloc hBa (.cells #[.string ⟨#[114, 101, 99, 32, 49, 32, 49, 32, 49]⟩, .string ⟨#[120]⟩] 9))
        go_wp2_with fail
        refine (impldsk_eq _ _ _ exD _ [] 2 _ (stD (by simp)) (by decide) exD_all hEt (hide exD_is)).mono ?_
        rintro e9 wy ⟨v9, us9, rfl, _, hb9⟩
        go_wp2
        go_ret
        exact ⟨rfl, bel_trans (bel_alloc hBa _) hb9⟩
      · have hz2 : (n1 == 0) = false := by simp [hz]
        have hz3 : ((n1 : Int) == 0) = false := by simp [hz]
        obtain ⟨rs0, hrs0⟩ := lnAll_ex L0
        have HF := hide (dsk_fwd (Ls := Ls) (by rw [unhide HL0]; omega) (by rw [unhide HL0]; exact hrs0))
        have HR0 := hide hrs0
        clear hrs0
        go_wp2_with fail
        refine (impldsk_eq _ _ _ L0 rs0 Ls 0 _ (unhide HTa) (by omega) (unhide HR0) (hE.bel hBa) HF).mono ?_
        rintro e9 wy ⟨v9, us9, rfl, hO9, hb9⟩
        have HO9 := hide hO9
        have HOy := hide ((unhide HOa).bel hb9)
        have hBy := bel_trans hBa hb9
        clear hO9 hb9
        go_wp2_with fail
        refine (frlogs_any _ (unhide HO9) (unhide HOy) (fun l h9 => by have := unhide HLb l h9; omega) (by omega)).mono ?_
        rintro e9 wz ⟨rfl, hbz⟩
        go_wp2
        go_ret
        exact ⟨rfl, bel_trans hBy hbz⟩
    · have hc2 : (c == 0) = false := by simp [hc]
      by_cases hz : n1 = 0
      · subst hz
        have hEt := hE.bel (bel_alloc hB8 (.cells #[.string ⟨#[114, 101, 99, 32, 49, 32, 49, 32, 49]⟩, .string ⟨#[120]⟩] 9))
        go_wp2_with fail
        refine (impldsk_eq _ _ _ exD _ [] 2 _ (stD (by simp)) (by decide) exD_all hEt (hide exD_is)).mono ?_
        rintro e9 wy ⟨v9, us9, rfl, _, hb9⟩
        go_wp2
        go_ret
        exact ⟨rfl, bel_trans (bel_alloc hB8 _) hb9⟩
      · have hz2 : (n1 == 0) = false := by simp [hz]
        have hz3 : ((n1 : Int) == 0) = false := by simp [hz]
        obtain ⟨rs0, hrs0⟩ := lnAll_ex L0
        have HF := hide (dsk_fwd (Ls := Ls) (by rw [unhide HL0]; omega) (by rw [unhide HL0]; exact hrs0))
        have HR0 := hide hrs0
        clear hrs0
        go_wp2_with fail
        refine (impldsk_eq _ _ _ L0 rs0 Ls 0 _ (unhide HT8) (by omega) (unhide HR0) (hE.bel hB8) HF).mono ?_
        rintro e9 wy ⟨v9, us9, rfl, hO9, hb9⟩
        have HO9 := hide hO9
        have HOy := hide ((unhide HO8).bel hb9)
        have hBy := bel_trans hB8 hb9
        clear hO9 hb9
        go_wp2_with fail
        refine (frlogs_any _ (unhide HO9) (unhide HOy) (fun l h9 => by have := unhide HLb l h9; omega) (by omega)).mono ?_
        rintro e9 wz ⟨rfl, hbz⟩
        go_wp2
        go_ret
        exact ⟨rfl, bel_trans hBy hbz⟩
end Go.Proofs.YtcokdcehjibanaaGreatDoor
