/- Proved here: the law on the windows of a time returns true at every code. -/
import Derived.Test.YtijgbahmlldffaaWinStepP
import Derived.Test.YtijgbahmlldffaaWofMath
import Derived.Deep.RegionHeld3
namespace Go.Proofs.Ytijgbahmlldffaa
open Go.ChangeShapes Go.WideShapes Go.ChangeAt Go.RowKit
set_option linter.unusedVariables false

theorem winok_is (a b : Int) (w : World) {o : Bool} (h : Hid (okWin a b = o)) : Calls Try.prog 13 #[.agg #[.int .i64 a, .int .i64 b]] w fun e w' => e = .returned (.bool o) ∧ Below w.heap.size w w' := by
  rw [← unhide h]; exact implwinok_any a b w
theorem specwinof_is (s t k z q l e : Int) (b : Bool) (v r T : Int) (w : World) {xs : List WnR} (h : Hid (winsAll s t k z q l e v r T = xs)) : Calls Try.prog 9 #[.agg #[.int .i64 s, .int .i64 t, .int .i64 k, .int .i64 z, .int .i64 q, .int .i64 l, .int .i64 e, .bool b, .int .i64 v, .int .i64 r], .int .i64 T] w fun e' w' => ∃ v', e' = .returned v' ∧ OwnWn w' w.heap.size v' xs ∧ Below w.heap.size w w' := by
  rw [← unhide h]
  exact specwinof_any s t k z q l e b v r T w
set_option linter.unusedSimpArgs false in
set_option maxRecDepth 20000 in
set_option maxHeartbeats 8000000 in
theorem lawWinOfP (a : Option Addr) (len cap : Nat) (w : World) (hlc : len ≤ cap) (hm : len ≤ maxLen) (hb : BytesAt w a len) (hl : ∀ g o, a = some ⟨g, o, none⟩ → 0 < len → g < w.heap.size) (hn : a = none → cap = 0) : Calls Try.prog 3 #[.slice a len cap] w fun e w' => e = .returned (.bool true) ∧ Below w.heap.size w w' := by
  unfold maxLen at hm
  by_cases hlen : (len : Int) ≤ 1048576
  · go_enter Try.func3, Try.ntmps3
    go_wp2_with fail
    refine (drawwinof_any a len cap w hlc (by omega) hb hl hn).mono ?_
    rintro e' w1 ⟨s, t, k, z, q, l, e, b, v, r, T, rfl, kl, ku, hb1⟩
    clear hb hl hn
    cases hj : okJob s t k z q l e v r with
    | false =>
      obtain ⟨xs, hN0, hx0⟩ : ∃ xs, winsAll s t k z q l e v r T = xs ∧ xs.length = 0 := ⟨[], winsAll_f1 hj, rfl⟩; have hx1 : xs.length ≤ 61 := (by omega); have HX0 := hide hx0; clear hx0
      have hN := hide hN0
      clear hN0
      have hb1' : Below w1.heap.size w1 (w1.alloc (.cells #[.int .i64 s, .int .i64 t, .int .i64 k, .int .i64 z, .int .i64 q, .int .i64 l, .int .i64 e, .bool b, .int .i64 v, .int .i64 r] 24)) := bel_one _ _
      go_wp2_with fail
      refine (implwinof_is s t k z q l e b v r T _ hN).mono ?_
      rintro e' w2 ⟨v', rfl, hO, hb2⟩
      obtain ⟨a5, c5, rfl, hR5, _, _⟩ := holdWn hO (by omega)
      have z2 : w1.heap.size < w2.heap.size := by have h9 := hb2.size; simp at h9; omega
      have x0 : w2.cell? ⟨w1.heap.size, 0, none⟩ = some (.int .i64 s) := (hb2.cell (p := ⟨w1.heap.size, 0, none⟩) (by simp)).trans (by simp [go_sem])
      have x1 : w2.cell? ⟨w1.heap.size, 1, none⟩ = some (.int .i64 t) := (hb2.cell (p := ⟨w1.heap.size, 1, none⟩) (by simp)).trans (by simp [go_sem])
      have x2 : w2.cell? ⟨w1.heap.size, 2, none⟩ = some (.int .i64 k) := (hb2.cell (p := ⟨w1.heap.size, 2, none⟩) (by simp)).trans (by simp [go_sem])
      have x3 : w2.cell? ⟨w1.heap.size, 3, none⟩ = some (.int .i64 z) := (hb2.cell (p := ⟨w1.heap.size, 3, none⟩) (by simp)).trans (by simp [go_sem])
      have x4 : w2.cell? ⟨w1.heap.size, 4, none⟩ = some (.int .i64 q) := (hb2.cell (p := ⟨w1.heap.size, 4, none⟩) (by simp)).trans (by simp [go_sem])
      have x5 : w2.cell? ⟨w1.heap.size, 5, none⟩ = some (.int .i64 l) := (hb2.cell (p := ⟨w1.heap.size, 5, none⟩) (by simp)).trans (by simp [go_sem])
      have x6 : w2.cell? ⟨w1.heap.size, 6, none⟩ = some (.int .i64 e) := (hb2.cell (p := ⟨w1.heap.size, 6, none⟩) (by simp)).trans (by simp [go_sem])
      have x7 : w2.cell? ⟨w1.heap.size, 7, none⟩ = some (.bool b) := (hb2.cell (p := ⟨w1.heap.size, 7, none⟩) (by simp)).trans (by simp [go_sem])
      have x8 : w2.cell? ⟨w1.heap.size, 8, none⟩ = some (.int .i64 v) := (hb2.cell (p := ⟨w1.heap.size, 8, none⟩) (by simp)).trans (by simp [go_sem])
      have x9 : w2.cell? ⟨w1.heap.size, 9, none⟩ = some (.int .i64 r) := (hb2.cell (p := ⟨w1.heap.size, 9, none⟩) (by simp)).trans (by simp [go_sem])
      have HR5 := hide hR5
      clear hO hR5
      go_wp2_with fail
      refine wp_region_held_drew (S := (fun W => W.cell? ⟨w1.heap.size, 0, none⟩ = some (.int .i64 s) ∧ W.cell? ⟨w1.heap.size, 1, none⟩ = some (.int .i64 t) ∧ W.cell? ⟨w1.heap.size, 2, none⟩ = some (.int .i64 k) ∧ W.cell? ⟨w1.heap.size, 3, none⟩ = some (.int .i64 z) ∧ W.cell? ⟨w1.heap.size, 4, none⟩ = some (.int .i64 q) ∧ W.cell? ⟨w1.heap.size, 5, none⟩ = some (.int .i64 l) ∧ W.cell? ⟨w1.heap.size, 6, none⟩ = some (.int .i64 e) ∧ W.cell? ⟨w1.heap.size, 7, none⟩ = some (.bool b) ∧ W.cell? ⟨w1.heap.size, 8, none⟩ = some (.int .i64 v) ∧ W.cell? ⟨w1.heap.size, 9, none⟩ = some (.int .i64 r))) (by kernel_rfl) ?_ (fun hHeld => ?_)
      · (try dsimp only); exact ⟨by first | (with_reducible assumption) | (simp [go_sem, *]; done), by first | (with_reducible assumption) | (simp [go_sem, *]; done), by first | (with_reducible assumption) | (simp [go_sem, *]; done), by first | (with_reducible assumption) | (simp [go_sem, *]; done), by first | (with_reducible assumption) | (simp [go_sem, *]; done), by first | (with_reducible assumption) | (simp [go_sem, *]; done), by first | (with_reducible assumption) | (simp [go_sem, *]; done), by first | (with_reducible assumption) | (simp [go_sem, *]; done), by first | (with_reducible assumption) | (simp [go_sem, *]; done), by first | (with_reducible assumption) | (simp [go_sem, *]; done)⟩
      refine wpAnyH_take (i := 0) (v := ?_) (by simp only [List.getElem?_toArray, List.getElem?_cons_zero, List.getElem?_cons_succ]; rfl) (by kernel_rfl) (by kernel_rfl) (by kernel_rfl) (by intro _ _ _ h; exact h) (Or.inl ⟨by rfl, ?_⟩) (by assumption) ?_
      rotate_left
      · (intro w9 hSw; (try dsimp only at hSw); go_simp <;> with_reducible rfl)
      try simp only [Act.put, List.setIfInBounds_toArray, List.set_cons_zero, List.set_cons_succ]
      refine wpAnyH_take (i := 1) (v := ?_) (by simp only [List.getElem?_toArray, List.getElem?_cons_zero, List.getElem?_cons_succ]; rfl) (by kernel_rfl) (by kernel_rfl) (by kernel_rfl) (by intro _ _ _ h; exact h) (Or.inl ⟨by rfl, ?_⟩) (by assumption) ?_
      rotate_left
      · (intro w9 hSw; (try dsimp only at hSw); go_simp <;> with_reducible rfl)
      try simp only [Act.put, List.setIfInBounds_toArray, List.set_cons_zero, List.set_cons_succ]
      refine wpAnyH_take (i := 2) (v := ?_) (by simp only [List.getElem?_toArray, List.getElem?_cons_zero, List.getElem?_cons_succ]; rfl) (by kernel_rfl) (by kernel_rfl) (by kernel_rfl) (by intro _ _ _ h; exact h) (Or.inl ⟨by rfl, ?_⟩) (by assumption) ?_
      rotate_left
      · (intro w9 hSw; (try dsimp only at hSw); go_simp <;> with_reducible rfl)
      try simp only [Act.put, List.setIfInBounds_toArray, List.set_cons_zero, List.set_cons_succ]
      refine wpAnyH_ready (rs := [3]) (by kernel_rfl) (by simp) ?_
      refine AllReadyH.cons (by simp only [List.getElem?_toArray, List.getElem?_cons_zero, List.getElem?_cons_succ]; rfl) (fun K hK => ?_) AllReadyH.nil
      go_simp
      (go_at_call 9; refine (specwinof_is s t k z q l e b v r T _ hN).mono ?_; rintro e' w3 ⟨v3, rfl, hO3, hb3⟩; obtain ⟨a6, c6, rfl, hR6, _, _⟩ := holdWn hO3 (by omega); have HR6 := hide hR6; clear hO3 hR6; have z3 : w1.heap.size < w3.heap.size := Nat.lt_of_lt_of_le z2 hb3.size; have HR5b := hide ((unhide HR5).below (bel_trans (bel_drew (Below.refl _ _)) hb3)); have g0 : w3.cell? ⟨w1.heap.size, 0, none⟩ = some (.int .i64 s) := (hb3.cell (p := ⟨w1.heap.size, 0, none⟩) z2).trans x0; have g1 : w3.cell? ⟨w1.heap.size, 1, none⟩ = some (.int .i64 t) := (hb3.cell (p := ⟨w1.heap.size, 1, none⟩) z2).trans x1; have g2 : w3.cell? ⟨w1.heap.size, 2, none⟩ = some (.int .i64 k) := (hb3.cell (p := ⟨w1.heap.size, 2, none⟩) z2).trans x2; have g3 : w3.cell? ⟨w1.heap.size, 3, none⟩ = some (.int .i64 z) := (hb3.cell (p := ⟨w1.heap.size, 3, none⟩) z2).trans x3; have g4 : w3.cell? ⟨w1.heap.size, 4, none⟩ = some (.int .i64 q) := (hb3.cell (p := ⟨w1.heap.size, 4, none⟩) z2).trans x4; have g5 : w3.cell? ⟨w1.heap.size, 5, none⟩ = some (.int .i64 l) := (hb3.cell (p := ⟨w1.heap.size, 5, none⟩) z2).trans x5; have g6 : w3.cell? ⟨w1.heap.size, 6, none⟩ = some (.int .i64 e) := (hb3.cell (p := ⟨w1.heap.size, 6, none⟩) z2).trans x6; have g7 : w3.cell? ⟨w1.heap.size, 7, none⟩ = some (.bool b) := (hb3.cell (p := ⟨w1.heap.size, 7, none⟩) z2).trans x7; have g8 : w3.cell? ⟨w1.heap.size, 8, none⟩ = some (.int .i64 v) := (hb3.cell (p := ⟨w1.heap.size, 8, none⟩) z2).trans x8; have g9 : w3.cell? ⟨w1.heap.size, 9, none⟩ = some (.int .i64 r) := (hb3.cell (p := ⟨w1.heap.size, 9, none⟩) z2).trans x9)
      (try go_wp2_with fail)
      refine hK.out _ _ ?_ (fun hHeld2 => ?_)
      · (try dsimp only); exact ⟨by first | (with_reducible assumption) | (simp [go_sem, *]; done), by first | (with_reducible assumption) | (simp [go_sem, *]; done), by first | (with_reducible assumption) | (simp [go_sem, *]; done), by first | (with_reducible assumption) | (simp [go_sem, *]; done), by first | (with_reducible assumption) | (simp [go_sem, *]; done), by first | (with_reducible assumption) | (simp [go_sem, *]; done), by first | (with_reducible assumption) | (simp [go_sem, *]; done), by first | (with_reducible assumption) | (simp [go_sem, *]; done), by first | (with_reducible assumption) | (simp [go_sem, *]; done), by first | (with_reducible assumption) | (simp [go_sem, *]; done)⟩
      clear hK K hHeld
      have hHeld := hHeld2
      clear hHeld2
      try simp only [Act.put, List.setIfInBounds_toArray, List.set_cons_zero, List.set_cons_succ]
      refine wpAnyH_ready (rs := [4]) (by kernel_rfl) (by simp) ?_
      refine AllReadyH.cons (by simp only [List.getElem?_toArray, List.getElem?_cons_zero, List.getElem?_cons_succ]; rfl) (fun K hK => ?_) AllReadyH.nil
      go_simp
      (go_at_call 8; refine (frwins_any a5 a6 xs.length c5 c6 xs _ (unhide HR5b) (unhide HR6)).mono ?_; rintro e' w4 ⟨rfl, hb4⟩; have z4 : w1.heap.size < w4.heap.size := Nat.lt_of_lt_of_le z3 hb4.size; have p0 : w4.cell? ⟨w1.heap.size, 0, none⟩ = some (.int .i64 s) := (hb4.cell (p := ⟨w1.heap.size, 0, none⟩) z3).trans g0; have p1 : w4.cell? ⟨w1.heap.size, 1, none⟩ = some (.int .i64 t) := (hb4.cell (p := ⟨w1.heap.size, 1, none⟩) z3).trans g1; have p2 : w4.cell? ⟨w1.heap.size, 2, none⟩ = some (.int .i64 k) := (hb4.cell (p := ⟨w1.heap.size, 2, none⟩) z3).trans g2; have p3 : w4.cell? ⟨w1.heap.size, 3, none⟩ = some (.int .i64 z) := (hb4.cell (p := ⟨w1.heap.size, 3, none⟩) z3).trans g3; have p4 : w4.cell? ⟨w1.heap.size, 4, none⟩ = some (.int .i64 q) := (hb4.cell (p := ⟨w1.heap.size, 4, none⟩) z3).trans g4; have p5 : w4.cell? ⟨w1.heap.size, 5, none⟩ = some (.int .i64 l) := (hb4.cell (p := ⟨w1.heap.size, 5, none⟩) z3).trans g5; have p6 : w4.cell? ⟨w1.heap.size, 6, none⟩ = some (.int .i64 e) := (hb4.cell (p := ⟨w1.heap.size, 6, none⟩) z3).trans g6; have p7 : w4.cell? ⟨w1.heap.size, 7, none⟩ = some (.bool b) := (hb4.cell (p := ⟨w1.heap.size, 7, none⟩) z3).trans g7; have p8 : w4.cell? ⟨w1.heap.size, 8, none⟩ = some (.int .i64 v) := (hb4.cell (p := ⟨w1.heap.size, 8, none⟩) z3).trans g8; have p9 : w4.cell? ⟨w1.heap.size, 9, none⟩ = some (.int .i64 r) := (hb4.cell (p := ⟨w1.heap.size, 9, none⟩) z3).trans g9)
      (try go_wp2_with fail)
      refine hK.out _ _ ?_ (fun hHeld2 => ?_)
      · (try dsimp only); exact ⟨by first | (with_reducible assumption) | (simp [go_sem, *]; done), by first | (with_reducible assumption) | (simp [go_sem, *]; done), by first | (with_reducible assumption) | (simp [go_sem, *]; done), by first | (with_reducible assumption) | (simp [go_sem, *]; done), by first | (with_reducible assumption) | (simp [go_sem, *]; done), by first | (with_reducible assumption) | (simp [go_sem, *]; done), by first | (with_reducible assumption) | (simp [go_sem, *]; done), by first | (with_reducible assumption) | (simp [go_sem, *]; done), by first | (with_reducible assumption) | (simp [go_sem, *]; done), by first | (with_reducible assumption) | (simp [go_sem, *]; done)⟩
      clear hK K hHeld
      have hHeld := hHeld2
      clear hHeld2
      try simp only [Act.put, List.setIfInBounds_toArray, List.set_cons_zero, List.set_cons_succ]
      refine wpAnyH_take (i := 5) (v := ?_) (by simp only [List.getElem?_toArray, List.getElem?_cons_zero, List.getElem?_cons_succ]; rfl) (by kernel_rfl) (by kernel_rfl) (by kernel_rfl) (by intro _ _ _ h; exact h) (Or.inl ⟨by rfl, ?_⟩) (by assumption) ?_
      rotate_left
      · (intro w9 hSw; (try dsimp only at hSw); go_simp <;> with_reducible rfl)
      try simp only [Act.put, List.setIfInBounds_toArray, List.set_cons_zero, List.set_cons_succ]
      refine wpAnyH_take (i := 6) (v := ?_) (by simp only [List.getElem?_toArray, List.getElem?_cons_zero, List.getElem?_cons_succ]; rfl) (by kernel_rfl) (by kernel_rfl) (by kernel_rfl) (by intro _ _ _ h; exact h) (Or.inl ⟨by rfl, ?_⟩) (by assumption) ?_
      rotate_left
      · (intro w9 hSw; (try dsimp only at hSw); go_simp <;> with_reducible rfl)
      try simp only [Act.put, List.setIfInBounds_toArray, List.set_cons_zero, List.set_cons_succ]
      refine wpAnyH_take (i := 7) (v := ?_) (by simp only [List.getElem?_toArray, List.getElem?_cons_zero, List.getElem?_cons_succ]; rfl) (by kernel_rfl) (by kernel_rfl) (by kernel_rfl) (by intro _ _ _ h; exact h) (Or.inl ⟨by rfl, ?_⟩) (by assumption) ?_
      rotate_left
      · (intro w9 hSw; (try dsimp only at hSw); go_simp <;> with_reducible rfl)
      try simp only [Act.put, List.setIfInBounds_toArray, List.set_cons_zero, List.set_cons_succ]
      refine wpAnyH_take (i := 9) (v := ?_) (by simp only [List.getElem?_toArray, List.getElem?_cons_zero, List.getElem?_cons_succ]; rfl) (by kernel_rfl) (by kernel_rfl) (by kernel_rfl) (by intro _ _ _ h; exact h) (Or.inl ⟨by rfl, ?_⟩) (by assumption) ?_
      rotate_left
      · (intro w9 hSw; (try dsimp only at hSw); go_simp <;> with_reducible rfl)
      try simp only [Act.put, List.setIfInBounds_toArray, List.set_cons_zero, List.set_cons_succ]
      refine wpAnyH_ready (rs := [8]) (by kernel_rfl) (by simp) ?_
      refine AllReadyH.cons (by simp only [List.getElem?_toArray, List.getElem?_cons_zero, List.getElem?_cons_succ]; rfl) (fun K hK => ?_) AllReadyH.nil
      go_simp
      (go_at_call 10; refine (implok_is s t k z q l e b v r _ (hide hj)).mono ?_; rintro e' w5 ⟨rfl, hb5⟩; have z5 : w1.heap.size < w5.heap.size := Nat.lt_of_lt_of_le z4 hb5.size; have n0 : w5.cell? ⟨w1.heap.size, 0, none⟩ = some (.int .i64 s) := (hb5.cell (p := ⟨w1.heap.size, 0, none⟩) z4).trans p0; have n1 : w5.cell? ⟨w1.heap.size, 1, none⟩ = some (.int .i64 t) := (hb5.cell (p := ⟨w1.heap.size, 1, none⟩) z4).trans p1; have n2 : w5.cell? ⟨w1.heap.size, 2, none⟩ = some (.int .i64 k) := (hb5.cell (p := ⟨w1.heap.size, 2, none⟩) z4).trans p2; have n3 : w5.cell? ⟨w1.heap.size, 3, none⟩ = some (.int .i64 z) := (hb5.cell (p := ⟨w1.heap.size, 3, none⟩) z4).trans p3; have n4 : w5.cell? ⟨w1.heap.size, 4, none⟩ = some (.int .i64 q) := (hb5.cell (p := ⟨w1.heap.size, 4, none⟩) z4).trans p4; have n5 : w5.cell? ⟨w1.heap.size, 5, none⟩ = some (.int .i64 l) := (hb5.cell (p := ⟨w1.heap.size, 5, none⟩) z4).trans p5; have n6 : w5.cell? ⟨w1.heap.size, 6, none⟩ = some (.int .i64 e) := (hb5.cell (p := ⟨w1.heap.size, 6, none⟩) z4).trans p6; have n7 : w5.cell? ⟨w1.heap.size, 7, none⟩ = some (.bool b) := (hb5.cell (p := ⟨w1.heap.size, 7, none⟩) z4).trans p7; have n8 : w5.cell? ⟨w1.heap.size, 8, none⟩ = some (.int .i64 v) := (hb5.cell (p := ⟨w1.heap.size, 8, none⟩) z4).trans p8; have n9 : w5.cell? ⟨w1.heap.size, 9, none⟩ = some (.int .i64 r) := (hb5.cell (p := ⟨w1.heap.size, 9, none⟩) z4).trans p9)
      (try go_wp2_with fail)
      refine hK.out _ _ ?_ (fun hHeld2 => ?_)
      · (try dsimp only); exact ⟨by first | (with_reducible assumption) | (simp [go_sem, *]; done), by first | (with_reducible assumption) | (simp [go_sem, *]; done), by first | (with_reducible assumption) | (simp [go_sem, *]; done), by first | (with_reducible assumption) | (simp [go_sem, *]; done), by first | (with_reducible assumption) | (simp [go_sem, *]; done), by first | (with_reducible assumption) | (simp [go_sem, *]; done), by first | (with_reducible assumption) | (simp [go_sem, *]; done), by first | (with_reducible assumption) | (simp [go_sem, *]; done), by first | (with_reducible assumption) | (simp [go_sem, *]; done), by first | (with_reducible assumption) | (simp [go_sem, *]; done)⟩
      clear hK K hHeld
      have hHeld := hHeld2
      clear hHeld2
      try simp only [Act.put, List.setIfInBounds_toArray, List.set_cons_zero, List.set_cons_succ]
      refine wpAnyH_ready (rs := [10]) (by kernel_rfl) (by simp) ?_
      refine AllReadyH.cons (by simp only [List.getElem?_toArray, List.getElem?_cons_zero, List.getElem?_cons_succ]; rfl) (fun K hK => ?_) AllReadyH.nil
      go_simp
      (go_at_call 11; refine (specok_is s t k z q l e b v r _ (hide hj)).mono ?_; rintro e' w6 ⟨rfl, hb6⟩; have z6 : w1.heap.size < w6.heap.size := Nat.lt_of_lt_of_le z5 hb6.size; have m0 : w6.cell? ⟨w1.heap.size, 0, none⟩ = some (.int .i64 s) := (hb6.cell (p := ⟨w1.heap.size, 0, none⟩) z5).trans n0; have m1 : w6.cell? ⟨w1.heap.size, 1, none⟩ = some (.int .i64 t) := (hb6.cell (p := ⟨w1.heap.size, 1, none⟩) z5).trans n1; have m2 : w6.cell? ⟨w1.heap.size, 2, none⟩ = some (.int .i64 k) := (hb6.cell (p := ⟨w1.heap.size, 2, none⟩) z5).trans n2; have m3 : w6.cell? ⟨w1.heap.size, 3, none⟩ = some (.int .i64 z) := (hb6.cell (p := ⟨w1.heap.size, 3, none⟩) z5).trans n3; have m4 : w6.cell? ⟨w1.heap.size, 4, none⟩ = some (.int .i64 q) := (hb6.cell (p := ⟨w1.heap.size, 4, none⟩) z5).trans n4; have m5 : w6.cell? ⟨w1.heap.size, 5, none⟩ = some (.int .i64 l) := (hb6.cell (p := ⟨w1.heap.size, 5, none⟩) z5).trans n5; have m6 : w6.cell? ⟨w1.heap.size, 6, none⟩ = some (.int .i64 e) := (hb6.cell (p := ⟨w1.heap.size, 6, none⟩) z5).trans n6; have m7 : w6.cell? ⟨w1.heap.size, 7, none⟩ = some (.bool b) := (hb6.cell (p := ⟨w1.heap.size, 7, none⟩) z5).trans n7; have m8 : w6.cell? ⟨w1.heap.size, 8, none⟩ = some (.int .i64 v) := (hb6.cell (p := ⟨w1.heap.size, 8, none⟩) z5).trans n8; have m9 : w6.cell? ⟨w1.heap.size, 9, none⟩ = some (.int .i64 r) := (hb6.cell (p := ⟨w1.heap.size, 9, none⟩) z5).trans n9)
      (try go_wp2_with fail)
      refine hK.out _ _ ?_ (fun hHeld2 => ?_)
      · (try dsimp only); exact ⟨by first | (with_reducible assumption) | (simp [go_sem, *]; done), by first | (with_reducible assumption) | (simp [go_sem, *]; done), by first | (with_reducible assumption) | (simp [go_sem, *]; done), by first | (with_reducible assumption) | (simp [go_sem, *]; done), by first | (with_reducible assumption) | (simp [go_sem, *]; done), by first | (with_reducible assumption) | (simp [go_sem, *]; done), by first | (with_reducible assumption) | (simp [go_sem, *]; done), by first | (with_reducible assumption) | (simp [go_sem, *]; done), by first | (with_reducible assumption) | (simp [go_sem, *]; done), by first | (with_reducible assumption) | (simp [go_sem, *]; done)⟩
      clear hK K hHeld
      have hHeld := hHeld2
      clear hHeld2
      try simp only [Act.put, List.setIfInBounds_toArray, List.set_cons_zero, List.set_cons_succ]
      refine wpAnyH_take (i := 11) (v := ?_) (by simp only [List.getElem?_toArray, List.getElem?_cons_zero, List.getElem?_cons_succ]; rfl) (by kernel_rfl) (by kernel_rfl) (by kernel_rfl) (by intro _ _ _ h; exact h) (Or.inl ⟨by rfl, ?_⟩) (by assumption) ?_
      rotate_left
      · (intro w9 hSw; (try dsimp only at hSw); go_simp <;> with_reducible rfl)
      try simp only [Act.put, List.setIfInBounds_toArray, List.set_cons_zero, List.set_cons_succ]
      refine wpAnyH_take (i := 12) (v := ?_) (by simp only [List.getElem?_toArray, List.getElem?_cons_zero, List.getElem?_cons_succ]; rfl) (by kernel_rfl) (by kernel_rfl) (by kernel_rfl) (by intro _ _ _ h; exact h) (Or.inl ⟨by rfl, ?_⟩) (by assumption) ?_
      rotate_left
      · (intro w9 hSw; (try dsimp only at hSw); go_simp <;> with_reducible rfl)
      try simp only [Act.put, List.setIfInBounds_toArray, List.set_cons_zero, List.set_cons_succ]
      refine wpAnyH_done (by kernel_rfl) ?_ _
      clear hHeld x0 g0 p0 n0 x1 g1 p1 n1 x2 g2 p2 n2 x3 g3 p3 n3 x4 g4 p4 n4 x5 g5 p5 n5 x6 g6 p6 n6 x7 g7 p7 n7 x8 g8 p8 n8 x9 g9 p9 n9
      go_wp2_with fail
      refine (specok_is s t k z q l e b v r _ (hide hj)).mono ?_
      rintro e' w7 ⟨rfl, hb7⟩
      have z7 : w1.heap.size < w7.heap.size := Nat.lt_of_lt_of_le z6 hb7.size
      have x0 : w7.cell? ⟨w1.heap.size, 0, none⟩ = some (.int .i64 s) := (hb7.cell (p := ⟨w1.heap.size, 0, none⟩) z6).trans m0
      have x1 : w7.cell? ⟨w1.heap.size, 1, none⟩ = some (.int .i64 t) := (hb7.cell (p := ⟨w1.heap.size, 1, none⟩) z6).trans m1
      have x2 : w7.cell? ⟨w1.heap.size, 2, none⟩ = some (.int .i64 k) := (hb7.cell (p := ⟨w1.heap.size, 2, none⟩) z6).trans m2
      have x3 : w7.cell? ⟨w1.heap.size, 3, none⟩ = some (.int .i64 z) := (hb7.cell (p := ⟨w1.heap.size, 3, none⟩) z6).trans m3
      have x4 : w7.cell? ⟨w1.heap.size, 4, none⟩ = some (.int .i64 q) := (hb7.cell (p := ⟨w1.heap.size, 4, none⟩) z6).trans m4
      have x5 : w7.cell? ⟨w1.heap.size, 5, none⟩ = some (.int .i64 l) := (hb7.cell (p := ⟨w1.heap.size, 5, none⟩) z6).trans m5
      have x6 : w7.cell? ⟨w1.heap.size, 6, none⟩ = some (.int .i64 e) := (hb7.cell (p := ⟨w1.heap.size, 6, none⟩) z6).trans m6
      have x7 : w7.cell? ⟨w1.heap.size, 7, none⟩ = some (.bool b) := (hb7.cell (p := ⟨w1.heap.size, 7, none⟩) z6).trans m7
      have x8 : w7.cell? ⟨w1.heap.size, 8, none⟩ = some (.int .i64 v) := (hb7.cell (p := ⟨w1.heap.size, 8, none⟩) z6).trans m8
      have x9 : w7.cell? ⟨w1.heap.size, 9, none⟩ = some (.int .i64 r) := (hb7.cell (p := ⟨w1.heap.size, 9, none⟩) z6).trans m9
      have b37 : Below w3.heap.size w3 w7 := bel_trans hb4 (bel_trans hb5 (bel_trans hb6 hb7))
      have HR7 := hide ((unhide HR5b).below b37)
      have hbF : Below w.heap.size w w7 := bel_trans hb1 (bel_trans hb1' (bel_trans hb2 (bel_trans (bel_trans (bel_drew (Below.refl _ _)) hb3) b37)))
      clear m0 m1 m2 m3 m4 m5 m6 m7 m8 m9 HR5 HR6 HR5b b37 hb2 hb3 hb4 hb5 hb6 hb7 hb1'
      have hx0 := unhide HX0
      simp only [hx0]
      go_wp2_with fail
      refine (frok_any _).mono ?_
      rintro e' w8 ⟨rfl, hb8⟩
      go_wp2
      go_ret
      exact ⟨rfl, bel_trans hbF hb8⟩
    | true =>
      by_cases hk : T < 0
      · obtain ⟨xs, hN0, hx0⟩ : ∃ xs, winsAll s t k z q l e v r T = xs ∧ xs.length = 0 := ⟨[], winsAll_f2 (by simp [inB]; omega), rfl⟩; have hx1 : xs.length ≤ 61 := (by omega); have HX0 := hide hx0; clear hx0
        have hN := hide hN0
        clear hN0
        have hb1' : Below w1.heap.size w1 (w1.alloc (.cells #[.int .i64 s, .int .i64 t, .int .i64 k, .int .i64 z, .int .i64 q, .int .i64 l, .int .i64 e, .bool b, .int .i64 v, .int .i64 r] 24)) := bel_one _ _
        go_wp2_with fail
        refine (implwinof_is s t k z q l e b v r T _ hN).mono ?_
        rintro e' w2 ⟨v', rfl, hO, hb2⟩
        obtain ⟨a5, c5, rfl, hR5, _, _⟩ := holdWn hO (by omega)
        have z2 : w1.heap.size < w2.heap.size := by have h9 := hb2.size; simp at h9; omega
        have x0 : w2.cell? ⟨w1.heap.size, 0, none⟩ = some (.int .i64 s) := (hb2.cell (p := ⟨w1.heap.size, 0, none⟩) (by simp)).trans (by simp [go_sem])
        have x1 : w2.cell? ⟨w1.heap.size, 1, none⟩ = some (.int .i64 t) := (hb2.cell (p := ⟨w1.heap.size, 1, none⟩) (by simp)).trans (by simp [go_sem])
        have x2 : w2.cell? ⟨w1.heap.size, 2, none⟩ = some (.int .i64 k) := (hb2.cell (p := ⟨w1.heap.size, 2, none⟩) (by simp)).trans (by simp [go_sem])
        have x3 : w2.cell? ⟨w1.heap.size, 3, none⟩ = some (.int .i64 z) := (hb2.cell (p := ⟨w1.heap.size, 3, none⟩) (by simp)).trans (by simp [go_sem])
        have x4 : w2.cell? ⟨w1.heap.size, 4, none⟩ = some (.int .i64 q) := (hb2.cell (p := ⟨w1.heap.size, 4, none⟩) (by simp)).trans (by simp [go_sem])
        have x5 : w2.cell? ⟨w1.heap.size, 5, none⟩ = some (.int .i64 l) := (hb2.cell (p := ⟨w1.heap.size, 5, none⟩) (by simp)).trans (by simp [go_sem])
        have x6 : w2.cell? ⟨w1.heap.size, 6, none⟩ = some (.int .i64 e) := (hb2.cell (p := ⟨w1.heap.size, 6, none⟩) (by simp)).trans (by simp [go_sem])
        have x7 : w2.cell? ⟨w1.heap.size, 7, none⟩ = some (.bool b) := (hb2.cell (p := ⟨w1.heap.size, 7, none⟩) (by simp)).trans (by simp [go_sem])
        have x8 : w2.cell? ⟨w1.heap.size, 8, none⟩ = some (.int .i64 v) := (hb2.cell (p := ⟨w1.heap.size, 8, none⟩) (by simp)).trans (by simp [go_sem])
        have x9 : w2.cell? ⟨w1.heap.size, 9, none⟩ = some (.int .i64 r) := (hb2.cell (p := ⟨w1.heap.size, 9, none⟩) (by simp)).trans (by simp [go_sem])
        have HR5 := hide hR5
        clear hO hR5
        go_wp2_with fail
        refine wp_region_held_drew (S := (fun W => W.cell? ⟨w1.heap.size, 0, none⟩ = some (.int .i64 s) ∧ W.cell? ⟨w1.heap.size, 1, none⟩ = some (.int .i64 t) ∧ W.cell? ⟨w1.heap.size, 2, none⟩ = some (.int .i64 k) ∧ W.cell? ⟨w1.heap.size, 3, none⟩ = some (.int .i64 z) ∧ W.cell? ⟨w1.heap.size, 4, none⟩ = some (.int .i64 q) ∧ W.cell? ⟨w1.heap.size, 5, none⟩ = some (.int .i64 l) ∧ W.cell? ⟨w1.heap.size, 6, none⟩ = some (.int .i64 e) ∧ W.cell? ⟨w1.heap.size, 7, none⟩ = some (.bool b) ∧ W.cell? ⟨w1.heap.size, 8, none⟩ = some (.int .i64 v) ∧ W.cell? ⟨w1.heap.size, 9, none⟩ = some (.int .i64 r))) (by kernel_rfl) ?_ (fun hHeld => ?_)
        · (try dsimp only); exact ⟨by first | (with_reducible assumption) | (simp [go_sem, *]; done), by first | (with_reducible assumption) | (simp [go_sem, *]; done), by first | (with_reducible assumption) | (simp [go_sem, *]; done), by first | (with_reducible assumption) | (simp [go_sem, *]; done), by first | (with_reducible assumption) | (simp [go_sem, *]; done), by first | (with_reducible assumption) | (simp [go_sem, *]; done), by first | (with_reducible assumption) | (simp [go_sem, *]; done), by first | (with_reducible assumption) | (simp [go_sem, *]; done), by first | (with_reducible assumption) | (simp [go_sem, *]; done), by first | (with_reducible assumption) | (simp [go_sem, *]; done)⟩
        refine wpAnyH_take (i := 0) (v := ?_) (by simp only [List.getElem?_toArray, List.getElem?_cons_zero, List.getElem?_cons_succ]; rfl) (by kernel_rfl) (by kernel_rfl) (by kernel_rfl) (by intro _ _ _ h; exact h) (Or.inl ⟨by rfl, ?_⟩) (by assumption) ?_
        rotate_left
        · (intro w9 hSw; (try dsimp only at hSw); go_simp <;> with_reducible rfl)
        try simp only [Act.put, List.setIfInBounds_toArray, List.set_cons_zero, List.set_cons_succ]
        refine wpAnyH_take (i := 1) (v := ?_) (by simp only [List.getElem?_toArray, List.getElem?_cons_zero, List.getElem?_cons_succ]; rfl) (by kernel_rfl) (by kernel_rfl) (by kernel_rfl) (by intro _ _ _ h; exact h) (Or.inl ⟨by rfl, ?_⟩) (by assumption) ?_
        rotate_left
        · (intro w9 hSw; (try dsimp only at hSw); go_simp <;> with_reducible rfl)
        try simp only [Act.put, List.setIfInBounds_toArray, List.set_cons_zero, List.set_cons_succ]
        refine wpAnyH_take (i := 2) (v := ?_) (by simp only [List.getElem?_toArray, List.getElem?_cons_zero, List.getElem?_cons_succ]; rfl) (by kernel_rfl) (by kernel_rfl) (by kernel_rfl) (by intro _ _ _ h; exact h) (Or.inl ⟨by rfl, ?_⟩) (by assumption) ?_
        rotate_left
        · (intro w9 hSw; (try dsimp only at hSw); go_simp <;> with_reducible rfl)
        try simp only [Act.put, List.setIfInBounds_toArray, List.set_cons_zero, List.set_cons_succ]
        refine wpAnyH_ready (rs := [3]) (by kernel_rfl) (by simp) ?_
        refine AllReadyH.cons (by simp only [List.getElem?_toArray, List.getElem?_cons_zero, List.getElem?_cons_succ]; rfl) (fun K hK => ?_) AllReadyH.nil
        go_simp
        (go_at_call 9; refine (specwinof_is s t k z q l e b v r T _ hN).mono ?_; rintro e' w3 ⟨v3, rfl, hO3, hb3⟩; obtain ⟨a6, c6, rfl, hR6, _, _⟩ := holdWn hO3 (by omega); have HR6 := hide hR6; clear hO3 hR6; have z3 : w1.heap.size < w3.heap.size := Nat.lt_of_lt_of_le z2 hb3.size; have HR5b := hide ((unhide HR5).below (bel_trans (bel_drew (Below.refl _ _)) hb3)); have g0 : w3.cell? ⟨w1.heap.size, 0, none⟩ = some (.int .i64 s) := (hb3.cell (p := ⟨w1.heap.size, 0, none⟩) z2).trans x0; have g1 : w3.cell? ⟨w1.heap.size, 1, none⟩ = some (.int .i64 t) := (hb3.cell (p := ⟨w1.heap.size, 1, none⟩) z2).trans x1; have g2 : w3.cell? ⟨w1.heap.size, 2, none⟩ = some (.int .i64 k) := (hb3.cell (p := ⟨w1.heap.size, 2, none⟩) z2).trans x2; have g3 : w3.cell? ⟨w1.heap.size, 3, none⟩ = some (.int .i64 z) := (hb3.cell (p := ⟨w1.heap.size, 3, none⟩) z2).trans x3; have g4 : w3.cell? ⟨w1.heap.size, 4, none⟩ = some (.int .i64 q) := (hb3.cell (p := ⟨w1.heap.size, 4, none⟩) z2).trans x4; have g5 : w3.cell? ⟨w1.heap.size, 5, none⟩ = some (.int .i64 l) := (hb3.cell (p := ⟨w1.heap.size, 5, none⟩) z2).trans x5; have g6 : w3.cell? ⟨w1.heap.size, 6, none⟩ = some (.int .i64 e) := (hb3.cell (p := ⟨w1.heap.size, 6, none⟩) z2).trans x6; have g7 : w3.cell? ⟨w1.heap.size, 7, none⟩ = some (.bool b) := (hb3.cell (p := ⟨w1.heap.size, 7, none⟩) z2).trans x7; have g8 : w3.cell? ⟨w1.heap.size, 8, none⟩ = some (.int .i64 v) := (hb3.cell (p := ⟨w1.heap.size, 8, none⟩) z2).trans x8; have g9 : w3.cell? ⟨w1.heap.size, 9, none⟩ = some (.int .i64 r) := (hb3.cell (p := ⟨w1.heap.size, 9, none⟩) z2).trans x9)
        (try go_wp2_with fail)
        refine hK.out _ _ ?_ (fun hHeld2 => ?_)
        · (try dsimp only); exact ⟨by first | (with_reducible assumption) | (simp [go_sem, *]; done), by first | (with_reducible assumption) | (simp [go_sem, *]; done), by first | (with_reducible assumption) | (simp [go_sem, *]; done), by first | (with_reducible assumption) | (simp [go_sem, *]; done), by first | (with_reducible assumption) | (simp [go_sem, *]; done), by first | (with_reducible assumption) | (simp [go_sem, *]; done), by first | (with_reducible assumption) | (simp [go_sem, *]; done), by first | (with_reducible assumption) | (simp [go_sem, *]; done), by first | (with_reducible assumption) | (simp [go_sem, *]; done), by first | (with_reducible assumption) | (simp [go_sem, *]; done)⟩
        clear hK K hHeld
        have hHeld := hHeld2
        clear hHeld2
        try simp only [Act.put, List.setIfInBounds_toArray, List.set_cons_zero, List.set_cons_succ]
        refine wpAnyH_ready (rs := [4]) (by kernel_rfl) (by simp) ?_
        refine AllReadyH.cons (by simp only [List.getElem?_toArray, List.getElem?_cons_zero, List.getElem?_cons_succ]; rfl) (fun K hK => ?_) AllReadyH.nil
        go_simp
        (go_at_call 8; refine (frwins_any a5 a6 xs.length c5 c6 xs _ (unhide HR5b) (unhide HR6)).mono ?_; rintro e' w4 ⟨rfl, hb4⟩; have z4 : w1.heap.size < w4.heap.size := Nat.lt_of_lt_of_le z3 hb4.size; have p0 : w4.cell? ⟨w1.heap.size, 0, none⟩ = some (.int .i64 s) := (hb4.cell (p := ⟨w1.heap.size, 0, none⟩) z3).trans g0; have p1 : w4.cell? ⟨w1.heap.size, 1, none⟩ = some (.int .i64 t) := (hb4.cell (p := ⟨w1.heap.size, 1, none⟩) z3).trans g1; have p2 : w4.cell? ⟨w1.heap.size, 2, none⟩ = some (.int .i64 k) := (hb4.cell (p := ⟨w1.heap.size, 2, none⟩) z3).trans g2; have p3 : w4.cell? ⟨w1.heap.size, 3, none⟩ = some (.int .i64 z) := (hb4.cell (p := ⟨w1.heap.size, 3, none⟩) z3).trans g3; have p4 : w4.cell? ⟨w1.heap.size, 4, none⟩ = some (.int .i64 q) := (hb4.cell (p := ⟨w1.heap.size, 4, none⟩) z3).trans g4; have p5 : w4.cell? ⟨w1.heap.size, 5, none⟩ = some (.int .i64 l) := (hb4.cell (p := ⟨w1.heap.size, 5, none⟩) z3).trans g5; have p6 : w4.cell? ⟨w1.heap.size, 6, none⟩ = some (.int .i64 e) := (hb4.cell (p := ⟨w1.heap.size, 6, none⟩) z3).trans g6; have p7 : w4.cell? ⟨w1.heap.size, 7, none⟩ = some (.bool b) := (hb4.cell (p := ⟨w1.heap.size, 7, none⟩) z3).trans g7; have p8 : w4.cell? ⟨w1.heap.size, 8, none⟩ = some (.int .i64 v) := (hb4.cell (p := ⟨w1.heap.size, 8, none⟩) z3).trans g8; have p9 : w4.cell? ⟨w1.heap.size, 9, none⟩ = some (.int .i64 r) := (hb4.cell (p := ⟨w1.heap.size, 9, none⟩) z3).trans g9)
        (try go_wp2_with fail)
        refine hK.out _ _ ?_ (fun hHeld2 => ?_)
        · (try dsimp only); exact ⟨by first | (with_reducible assumption) | (simp [go_sem, *]; done), by first | (with_reducible assumption) | (simp [go_sem, *]; done), by first | (with_reducible assumption) | (simp [go_sem, *]; done), by first | (with_reducible assumption) | (simp [go_sem, *]; done), by first | (with_reducible assumption) | (simp [go_sem, *]; done), by first | (with_reducible assumption) | (simp [go_sem, *]; done), by first | (with_reducible assumption) | (simp [go_sem, *]; done), by first | (with_reducible assumption) | (simp [go_sem, *]; done), by first | (with_reducible assumption) | (simp [go_sem, *]; done), by first | (with_reducible assumption) | (simp [go_sem, *]; done)⟩
        clear hK K hHeld
        have hHeld := hHeld2
        clear hHeld2
        try simp only [Act.put, List.setIfInBounds_toArray, List.set_cons_zero, List.set_cons_succ]
        refine wpAnyH_take (i := 5) (v := ?_) (by simp only [List.getElem?_toArray, List.getElem?_cons_zero, List.getElem?_cons_succ]; rfl) (by kernel_rfl) (by kernel_rfl) (by kernel_rfl) (by intro _ _ _ h; exact h) (Or.inl ⟨by rfl, ?_⟩) (by assumption) ?_
        rotate_left
        · (intro w9 hSw; (try dsimp only at hSw); go_simp <;> with_reducible rfl)
        try simp only [Act.put, List.setIfInBounds_toArray, List.set_cons_zero, List.set_cons_succ]
        refine wpAnyH_take (i := 6) (v := ?_) (by simp only [List.getElem?_toArray, List.getElem?_cons_zero, List.getElem?_cons_succ]; rfl) (by kernel_rfl) (by kernel_rfl) (by kernel_rfl) (by intro _ _ _ h; exact h) (Or.inl ⟨by rfl, ?_⟩) (by assumption) ?_
        rotate_left
        · (intro w9 hSw; (try dsimp only at hSw); go_simp <;> with_reducible rfl)
        try simp only [Act.put, List.setIfInBounds_toArray, List.set_cons_zero, List.set_cons_succ]
        refine wpAnyH_take (i := 7) (v := ?_) (by simp only [List.getElem?_toArray, List.getElem?_cons_zero, List.getElem?_cons_succ]; rfl) (by kernel_rfl) (by kernel_rfl) (by kernel_rfl) (by intro _ _ _ h; exact h) (Or.inl ⟨by rfl, ?_⟩) (by assumption) ?_
        rotate_left
        · (intro w9 hSw; (try dsimp only at hSw); go_simp <;> with_reducible rfl)
        try simp only [Act.put, List.setIfInBounds_toArray, List.set_cons_zero, List.set_cons_succ]
        refine wpAnyH_take (i := 9) (v := ?_) (by simp only [List.getElem?_toArray, List.getElem?_cons_zero, List.getElem?_cons_succ]; rfl) (by kernel_rfl) (by kernel_rfl) (by kernel_rfl) (by intro _ _ _ h; exact h) (Or.inl ⟨by rfl, ?_⟩) (by assumption) ?_
        rotate_left
        · (intro w9 hSw; (try dsimp only at hSw); go_simp <;> with_reducible rfl)
        try simp only [Act.put, List.setIfInBounds_toArray, List.set_cons_zero, List.set_cons_succ]
        refine wpAnyH_ready (rs := [8]) (by kernel_rfl) (by simp) ?_
        refine AllReadyH.cons (by simp only [List.getElem?_toArray, List.getElem?_cons_zero, List.getElem?_cons_succ]; rfl) (fun K hK => ?_) AllReadyH.nil
        go_simp
        (go_at_call 10; refine (implok_is s t k z q l e b v r _ (hide hj)).mono ?_; rintro e' w5 ⟨rfl, hb5⟩; have z5 : w1.heap.size < w5.heap.size := Nat.lt_of_lt_of_le z4 hb5.size; have n0 : w5.cell? ⟨w1.heap.size, 0, none⟩ = some (.int .i64 s) := (hb5.cell (p := ⟨w1.heap.size, 0, none⟩) z4).trans p0; have n1 : w5.cell? ⟨w1.heap.size, 1, none⟩ = some (.int .i64 t) := (hb5.cell (p := ⟨w1.heap.size, 1, none⟩) z4).trans p1; have n2 : w5.cell? ⟨w1.heap.size, 2, none⟩ = some (.int .i64 k) := (hb5.cell (p := ⟨w1.heap.size, 2, none⟩) z4).trans p2; have n3 : w5.cell? ⟨w1.heap.size, 3, none⟩ = some (.int .i64 z) := (hb5.cell (p := ⟨w1.heap.size, 3, none⟩) z4).trans p3; have n4 : w5.cell? ⟨w1.heap.size, 4, none⟩ = some (.int .i64 q) := (hb5.cell (p := ⟨w1.heap.size, 4, none⟩) z4).trans p4; have n5 : w5.cell? ⟨w1.heap.size, 5, none⟩ = some (.int .i64 l) := (hb5.cell (p := ⟨w1.heap.size, 5, none⟩) z4).trans p5; have n6 : w5.cell? ⟨w1.heap.size, 6, none⟩ = some (.int .i64 e) := (hb5.cell (p := ⟨w1.heap.size, 6, none⟩) z4).trans p6; have n7 : w5.cell? ⟨w1.heap.size, 7, none⟩ = some (.bool b) := (hb5.cell (p := ⟨w1.heap.size, 7, none⟩) z4).trans p7; have n8 : w5.cell? ⟨w1.heap.size, 8, none⟩ = some (.int .i64 v) := (hb5.cell (p := ⟨w1.heap.size, 8, none⟩) z4).trans p8; have n9 : w5.cell? ⟨w1.heap.size, 9, none⟩ = some (.int .i64 r) := (hb5.cell (p := ⟨w1.heap.size, 9, none⟩) z4).trans p9)
        (try go_wp2_with fail)
        refine hK.out _ _ ?_ (fun hHeld2 => ?_)
        · (try dsimp only); exact ⟨by first | (with_reducible assumption) | (simp [go_sem, *]; done), by first | (with_reducible assumption) | (simp [go_sem, *]; done), by first | (with_reducible assumption) | (simp [go_sem, *]; done), by first | (with_reducible assumption) | (simp [go_sem, *]; done), by first | (with_reducible assumption) | (simp [go_sem, *]; done), by first | (with_reducible assumption) | (simp [go_sem, *]; done), by first | (with_reducible assumption) | (simp [go_sem, *]; done), by first | (with_reducible assumption) | (simp [go_sem, *]; done), by first | (with_reducible assumption) | (simp [go_sem, *]; done), by first | (with_reducible assumption) | (simp [go_sem, *]; done)⟩
        clear hK K hHeld
        have hHeld := hHeld2
        clear hHeld2
        try simp only [Act.put, List.setIfInBounds_toArray, List.set_cons_zero, List.set_cons_succ]
        refine wpAnyH_ready (rs := [10]) (by kernel_rfl) (by simp) ?_
        refine AllReadyH.cons (by simp only [List.getElem?_toArray, List.getElem?_cons_zero, List.getElem?_cons_succ]; rfl) (fun K hK => ?_) AllReadyH.nil
        go_simp
        (go_at_call 11; refine (specok_is s t k z q l e b v r _ (hide hj)).mono ?_; rintro e' w6 ⟨rfl, hb6⟩; have z6 : w1.heap.size < w6.heap.size := Nat.lt_of_lt_of_le z5 hb6.size; have m0 : w6.cell? ⟨w1.heap.size, 0, none⟩ = some (.int .i64 s) := (hb6.cell (p := ⟨w1.heap.size, 0, none⟩) z5).trans n0; have m1 : w6.cell? ⟨w1.heap.size, 1, none⟩ = some (.int .i64 t) := (hb6.cell (p := ⟨w1.heap.size, 1, none⟩) z5).trans n1; have m2 : w6.cell? ⟨w1.heap.size, 2, none⟩ = some (.int .i64 k) := (hb6.cell (p := ⟨w1.heap.size, 2, none⟩) z5).trans n2; have m3 : w6.cell? ⟨w1.heap.size, 3, none⟩ = some (.int .i64 z) := (hb6.cell (p := ⟨w1.heap.size, 3, none⟩) z5).trans n3; have m4 : w6.cell? ⟨w1.heap.size, 4, none⟩ = some (.int .i64 q) := (hb6.cell (p := ⟨w1.heap.size, 4, none⟩) z5).trans n4; have m5 : w6.cell? ⟨w1.heap.size, 5, none⟩ = some (.int .i64 l) := (hb6.cell (p := ⟨w1.heap.size, 5, none⟩) z5).trans n5; have m6 : w6.cell? ⟨w1.heap.size, 6, none⟩ = some (.int .i64 e) := (hb6.cell (p := ⟨w1.heap.size, 6, none⟩) z5).trans n6; have m7 : w6.cell? ⟨w1.heap.size, 7, none⟩ = some (.bool b) := (hb6.cell (p := ⟨w1.heap.size, 7, none⟩) z5).trans n7; have m8 : w6.cell? ⟨w1.heap.size, 8, none⟩ = some (.int .i64 v) := (hb6.cell (p := ⟨w1.heap.size, 8, none⟩) z5).trans n8; have m9 : w6.cell? ⟨w1.heap.size, 9, none⟩ = some (.int .i64 r) := (hb6.cell (p := ⟨w1.heap.size, 9, none⟩) z5).trans n9)
        (try go_wp2_with fail)
        refine hK.out _ _ ?_ (fun hHeld2 => ?_)
        · (try dsimp only); exact ⟨by first | (with_reducible assumption) | (simp [go_sem, *]; done), by first | (with_reducible assumption) | (simp [go_sem, *]; done), by first | (with_reducible assumption) | (simp [go_sem, *]; done), by first | (with_reducible assumption) | (simp [go_sem, *]; done), by first | (with_reducible assumption) | (simp [go_sem, *]; done), by first | (with_reducible assumption) | (simp [go_sem, *]; done), by first | (with_reducible assumption) | (simp [go_sem, *]; done), by first | (with_reducible assumption) | (simp [go_sem, *]; done), by first | (with_reducible assumption) | (simp [go_sem, *]; done), by first | (with_reducible assumption) | (simp [go_sem, *]; done)⟩
        clear hK K hHeld
        have hHeld := hHeld2
        clear hHeld2
        try simp only [Act.put, List.setIfInBounds_toArray, List.set_cons_zero, List.set_cons_succ]
        refine wpAnyH_take (i := 11) (v := ?_) (by simp only [List.getElem?_toArray, List.getElem?_cons_zero, List.getElem?_cons_succ]; rfl) (by kernel_rfl) (by kernel_rfl) (by kernel_rfl) (by intro _ _ _ h; exact h) (Or.inl ⟨by rfl, ?_⟩) (by assumption) ?_
        rotate_left
        · (intro w9 hSw; (try dsimp only at hSw); go_simp <;> with_reducible rfl)
        try simp only [Act.put, List.setIfInBounds_toArray, List.set_cons_zero, List.set_cons_succ]
        refine wpAnyH_take (i := 12) (v := ?_) (by simp only [List.getElem?_toArray, List.getElem?_cons_zero, List.getElem?_cons_succ]; rfl) (by kernel_rfl) (by kernel_rfl) (by kernel_rfl) (by intro _ _ _ h; exact h) (Or.inl ⟨by rfl, ?_⟩) (by assumption) ?_
        rotate_left
        · (intro w9 hSw; (try dsimp only at hSw); go_simp <;> with_reducible rfl)
        try simp only [Act.put, List.setIfInBounds_toArray, List.set_cons_zero, List.set_cons_succ]
        refine wpAnyH_done (by kernel_rfl) ?_ _
        clear hHeld x0 g0 p0 n0 x1 g1 p1 n1 x2 g2 p2 n2 x3 g3 p3 n3 x4 g4 p4 n4 x5 g5 p5 n5 x6 g6 p6 n6 x7 g7 p7 n7 x8 g8 p8 n8 x9 g9 p9 n9
        go_wp2_with fail
        refine (specok_is s t k z q l e b v r _ (hide hj)).mono ?_
        rintro e' w7 ⟨rfl, hb7⟩
        have z7 : w1.heap.size < w7.heap.size := Nat.lt_of_lt_of_le z6 hb7.size
        have x0 : w7.cell? ⟨w1.heap.size, 0, none⟩ = some (.int .i64 s) := (hb7.cell (p := ⟨w1.heap.size, 0, none⟩) z6).trans m0
        have x1 : w7.cell? ⟨w1.heap.size, 1, none⟩ = some (.int .i64 t) := (hb7.cell (p := ⟨w1.heap.size, 1, none⟩) z6).trans m1
        have x2 : w7.cell? ⟨w1.heap.size, 2, none⟩ = some (.int .i64 k) := (hb7.cell (p := ⟨w1.heap.size, 2, none⟩) z6).trans m2
        have x3 : w7.cell? ⟨w1.heap.size, 3, none⟩ = some (.int .i64 z) := (hb7.cell (p := ⟨w1.heap.size, 3, none⟩) z6).trans m3
        have x4 : w7.cell? ⟨w1.heap.size, 4, none⟩ = some (.int .i64 q) := (hb7.cell (p := ⟨w1.heap.size, 4, none⟩) z6).trans m4
        have x5 : w7.cell? ⟨w1.heap.size, 5, none⟩ = some (.int .i64 l) := (hb7.cell (p := ⟨w1.heap.size, 5, none⟩) z6).trans m5
        have x6 : w7.cell? ⟨w1.heap.size, 6, none⟩ = some (.int .i64 e) := (hb7.cell (p := ⟨w1.heap.size, 6, none⟩) z6).trans m6
        have x7 : w7.cell? ⟨w1.heap.size, 7, none⟩ = some (.bool b) := (hb7.cell (p := ⟨w1.heap.size, 7, none⟩) z6).trans m7
        have x8 : w7.cell? ⟨w1.heap.size, 8, none⟩ = some (.int .i64 v) := (hb7.cell (p := ⟨w1.heap.size, 8, none⟩) z6).trans m8
        have x9 : w7.cell? ⟨w1.heap.size, 9, none⟩ = some (.int .i64 r) := (hb7.cell (p := ⟨w1.heap.size, 9, none⟩) z6).trans m9
        have b37 : Below w3.heap.size w3 w7 := bel_trans hb4 (bel_trans hb5 (bel_trans hb6 hb7))
        have HR7 := hide ((unhide HR5b).below b37)
        have hbF : Below w.heap.size w w7 := bel_trans hb1 (bel_trans hb1' (bel_trans hb2 (bel_trans (bel_trans (bel_drew (Below.refl _ _)) hb3) b37)))
        clear m0 m1 m2 m3 m4 m5 m6 m7 m8 m9 HR5 HR6 HR5b b37 hb2 hb3 hb4 hb5 hb6 hb7 hb1'
        have hx0 := unhide HX0
        simp only [hx0]
        go_wp2_with fail
        refine (frok_any _).mono ?_
        rintro e' w8 ⟨rfl, hb8⟩
        go_wp2
        go_ret
        exact ⟨rfl, bel_trans hbF hb8⟩
      by_cases hk2 : 60 < T
      · obtain ⟨xs, hN0, hx0⟩ : ∃ xs, winsAll s t k z q l e v r T = xs ∧ xs.length = 0 := ⟨[], winsAll_f2 (by simp [inB]; omega), rfl⟩; have hx1 : xs.length ≤ 61 := (by omega); have HX0 := hide hx0; clear hx0
        have hN := hide hN0
        clear hN0
        have hb1' : Below w1.heap.size w1 (w1.alloc (.cells #[.int .i64 s, .int .i64 t, .int .i64 k, .int .i64 z, .int .i64 q, .int .i64 l, .int .i64 e, .bool b, .int .i64 v, .int .i64 r] 24)) := bel_one _ _
        go_wp2_with fail
        refine (implwinof_is s t k z q l e b v r T _ hN).mono ?_
        rintro e' w2 ⟨v', rfl, hO, hb2⟩
        obtain ⟨a5, c5, rfl, hR5, _, _⟩ := holdWn hO (by omega)
        have z2 : w1.heap.size < w2.heap.size := by have h9 := hb2.size; simp at h9; omega
        have x0 : w2.cell? ⟨w1.heap.size, 0, none⟩ = some (.int .i64 s) := (hb2.cell (p := ⟨w1.heap.size, 0, none⟩) (by simp)).trans (by simp [go_sem])
        have x1 : w2.cell? ⟨w1.heap.size, 1, none⟩ = some (.int .i64 t) := (hb2.cell (p := ⟨w1.heap.size, 1, none⟩) (by simp)).trans (by simp [go_sem])
        have x2 : w2.cell? ⟨w1.heap.size, 2, none⟩ = some (.int .i64 k) := (hb2.cell (p := ⟨w1.heap.size, 2, none⟩) (by simp)).trans (by simp [go_sem])
        have x3 : w2.cell? ⟨w1.heap.size, 3, none⟩ = some (.int .i64 z) := (hb2.cell (p := ⟨w1.heap.size, 3, none⟩) (by simp)).trans (by simp [go_sem])
        have x4 : w2.cell? ⟨w1.heap.size, 4, none⟩ = some (.int .i64 q) := (hb2.cell (p := ⟨w1.heap.size, 4, none⟩) (by simp)).trans (by simp [go_sem])
        have x5 : w2.cell? ⟨w1.heap.size, 5, none⟩ = some (.int .i64 l) := (hb2.cell (p := ⟨w1.heap.size, 5, none⟩) (by simp)).trans (by simp [go_sem])
        have x6 : w2.cell? ⟨w1.heap.size, 6, none⟩ = some (.int .i64 e) := (hb2.cell (p := ⟨w1.heap.size, 6, none⟩) (by simp)).trans (by simp [go_sem])
        have x7 : w2.cell? ⟨w1.heap.size, 7, none⟩ = some (.bool b) := (hb2.cell (p := ⟨w1.heap.size, 7, none⟩) (by simp)).trans (by simp [go_sem])
        have x8 : w2.cell? ⟨w1.heap.size, 8, none⟩ = some (.int .i64 v) := (hb2.cell (p := ⟨w1.heap.size, 8, none⟩) (by simp)).trans (by simp [go_sem])
        have x9 : w2.cell? ⟨w1.heap.size, 9, none⟩ = some (.int .i64 r) := (hb2.cell (p := ⟨w1.heap.size, 9, none⟩) (by simp)).trans (by simp [go_sem])
        have HR5 := hide hR5
        clear hO hR5
        go_wp2_with fail
        refine wp_region_held_drew (S := (fun W => W.cell? ⟨w1.heap.size, 0, none⟩ = some (.int .i64 s) ∧ W.cell? ⟨w1.heap.size, 1, none⟩ = some (.int .i64 t) ∧ W.cell? ⟨w1.heap.size, 2, none⟩ = some (.int .i64 k) ∧ W.cell? ⟨w1.heap.size, 3, none⟩ = some (.int .i64 z) ∧ W.cell? ⟨w1.heap.size, 4, none⟩ = some (.int .i64 q) ∧ W.cell? ⟨w1.heap.size, 5, none⟩ = some (.int .i64 l) ∧ W.cell? ⟨w1.heap.size, 6, none⟩ = some (.int .i64 e) ∧ W.cell? ⟨w1.heap.size, 7, none⟩ = some (.bool b) ∧ W.cell? ⟨w1.heap.size, 8, none⟩ = some (.int .i64 v) ∧ W.cell? ⟨w1.heap.size, 9, none⟩ = some (.int .i64 r))) (by kernel_rfl) ?_ (fun hHeld => ?_)
        · (try dsimp only); exact ⟨by first | (with_reducible assumption) | (simp [go_sem, *]; done), by first | (with_reducible assumption) | (simp [go_sem, *]; done), by first | (with_reducible assumption) | (simp [go_sem, *]; done), by first | (with_reducible assumption) | (simp [go_sem, *]; done), by first | (with_reducible assumption) | (simp [go_sem, *]; done), by first | (with_reducible assumption) | (simp [go_sem, *]; done), by first | (with_reducible assumption) | (simp [go_sem, *]; done), by first | (with_reducible assumption) | (simp [go_sem, *]; done), by first | (with_reducible assumption) | (simp [go_sem, *]; done), by first | (with_reducible assumption) | (simp [go_sem, *]; done)⟩
        refine wpAnyH_take (i := 0) (v := ?_) (by simp only [List.getElem?_toArray, List.getElem?_cons_zero, List.getElem?_cons_succ]; rfl) (by kernel_rfl) (by kernel_rfl) (by kernel_rfl) (by intro _ _ _ h; exact h) (Or.inl ⟨by rfl, ?_⟩) (by assumption) ?_
        rotate_left
        · (intro w9 hSw; (try dsimp only at hSw); go_simp <;> with_reducible rfl)
        try simp only [Act.put, List.setIfInBounds_toArray, List.set_cons_zero, List.set_cons_succ]
        refine wpAnyH_take (i := 1) (v := ?_) (by simp only [List.getElem?_toArray, List.getElem?_cons_zero, List.getElem?_cons_succ]; rfl) (by kernel_rfl) (by kernel_rfl) (by kernel_rfl) (by intro _ _ _ h; exact h) (Or.inl ⟨by rfl, ?_⟩) (by assumption) ?_
        rotate_left
        · (intro w9 hSw; (try dsimp only at hSw); go_simp <;> with_reducible rfl)
        try simp only [Act.put, List.setIfInBounds_toArray, List.set_cons_zero, List.set_cons_succ]
        refine wpAnyH_take (i := 2) (v := ?_) (by simp only [List.getElem?_toArray, List.getElem?_cons_zero, List.getElem?_cons_succ]; rfl) (by kernel_rfl) (by kernel_rfl) (by kernel_rfl) (by intro _ _ _ h; exact h) (Or.inl ⟨by rfl, ?_⟩) (by assumption) ?_
        rotate_left
        · (intro w9 hSw; (try dsimp only at hSw); go_simp <;> with_reducible rfl)
        try simp only [Act.put, List.setIfInBounds_toArray, List.set_cons_zero, List.set_cons_succ]
        refine wpAnyH_ready (rs := [3]) (by kernel_rfl) (by simp) ?_
        refine AllReadyH.cons (by simp only [List.getElem?_toArray, List.getElem?_cons_zero, List.getElem?_cons_succ]; rfl) (fun K hK => ?_) AllReadyH.nil
        go_simp
        (go_at_call 9; refine (specwinof_is s t k z q l e b v r T _ hN).mono ?_; rintro e' w3 ⟨v3, rfl, hO3, hb3⟩; obtain ⟨a6, c6, rfl, hR6, _, _⟩ := holdWn hO3 (by omega); have HR6 := hide hR6; clear hO3 hR6; have z3 : w1.heap.size < w3.heap.size := Nat.lt_of_lt_of_le z2 hb3.size; have HR5b := hide ((unhide HR5).below (bel_trans (bel_drew (Below.refl _ _)) hb3)); have g0 : w3.cell? ⟨w1.heap.size, 0, none⟩ = some (.int .i64 s) := (hb3.cell (p := ⟨w1.heap.size, 0, none⟩) z2).trans x0; have g1 : w3.cell? ⟨w1.heap.size, 1, none⟩ = some (.int .i64 t) := (hb3.cell (p := ⟨w1.heap.size, 1, none⟩) z2).trans x1; have g2 : w3.cell? ⟨w1.heap.size, 2, none⟩ = some (.int .i64 k) := (hb3.cell (p := ⟨w1.heap.size, 2, none⟩) z2).trans x2; have g3 : w3.cell? ⟨w1.heap.size, 3, none⟩ = some (.int .i64 z) := (hb3.cell (p := ⟨w1.heap.size, 3, none⟩) z2).trans x3; have g4 : w3.cell? ⟨w1.heap.size, 4, none⟩ = some (.int .i64 q) := (hb3.cell (p := ⟨w1.heap.size, 4, none⟩) z2).trans x4; have g5 : w3.cell? ⟨w1.heap.size, 5, none⟩ = some (.int .i64 l) := (hb3.cell (p := ⟨w1.heap.size, 5, none⟩) z2).trans x5; have g6 : w3.cell? ⟨w1.heap.size, 6, none⟩ = some (.int .i64 e) := (hb3.cell (p := ⟨w1.heap.size, 6, none⟩) z2).trans x6; have g7 : w3.cell? ⟨w1.heap.size, 7, none⟩ = some (.bool b) := (hb3.cell (p := ⟨w1.heap.size, 7, none⟩) z2).trans x7; have g8 : w3.cell? ⟨w1.heap.size, 8, none⟩ = some (.int .i64 v) := (hb3.cell (p := ⟨w1.heap.size, 8, none⟩) z2).trans x8; have g9 : w3.cell? ⟨w1.heap.size, 9, none⟩ = some (.int .i64 r) := (hb3.cell (p := ⟨w1.heap.size, 9, none⟩) z2).trans x9)
        (try go_wp2_with fail)
        refine hK.out _ _ ?_ (fun hHeld2 => ?_)
        · (try dsimp only); exact ⟨by first | (with_reducible assumption) | (simp [go_sem, *]; done), by first | (with_reducible assumption) | (simp [go_sem, *]; done), by first | (with_reducible assumption) | (simp [go_sem, *]; done), by first | (with_reducible assumption) | (simp [go_sem, *]; done), by first | (with_reducible assumption) | (simp [go_sem, *]; done), by first | (with_reducible assumption) | (simp [go_sem, *]; done), by first | (with_reducible assumption) | (simp [go_sem, *]; done), by first | (with_reducible assumption) | (simp [go_sem, *]; done), by first | (with_reducible assumption) | (simp [go_sem, *]; done), by first | (with_reducible assumption) | (simp [go_sem, *]; done)⟩
        clear hK K hHeld
        have hHeld := hHeld2
        clear hHeld2
        try simp only [Act.put, List.setIfInBounds_toArray, List.set_cons_zero, List.set_cons_succ]
        refine wpAnyH_ready (rs := [4]) (by kernel_rfl) (by simp) ?_
        refine AllReadyH.cons (by simp only [List.getElem?_toArray, List.getElem?_cons_zero, List.getElem?_cons_succ]; rfl) (fun K hK => ?_) AllReadyH.nil
        go_simp
        (go_at_call 8; refine (frwins_any a5 a6 xs.length c5 c6 xs _ (unhide HR5b) (unhide HR6)).mono ?_; rintro e' w4 ⟨rfl, hb4⟩; have z4 : w1.heap.size < w4.heap.size := Nat.lt_of_lt_of_le z3 hb4.size; have p0 : w4.cell? ⟨w1.heap.size, 0, none⟩ = some (.int .i64 s) := (hb4.cell (p := ⟨w1.heap.size, 0, none⟩) z3).trans g0; have p1 : w4.cell? ⟨w1.heap.size, 1, none⟩ = some (.int .i64 t) := (hb4.cell (p := ⟨w1.heap.size, 1, none⟩) z3).trans g1; have p2 : w4.cell? ⟨w1.heap.size, 2, none⟩ = some (.int .i64 k) := (hb4.cell (p := ⟨w1.heap.size, 2, none⟩) z3).trans g2; have p3 : w4.cell? ⟨w1.heap.size, 3, none⟩ = some (.int .i64 z) := (hb4.cell (p := ⟨w1.heap.size, 3, none⟩) z3).trans g3; have p4 : w4.cell? ⟨w1.heap.size, 4, none⟩ = some (.int .i64 q) := (hb4.cell (p := ⟨w1.heap.size, 4, none⟩) z3).trans g4; have p5 : w4.cell? ⟨w1.heap.size, 5, none⟩ = some (.int .i64 l) := (hb4.cell (p := ⟨w1.heap.size, 5, none⟩) z3).trans g5; have p6 : w4.cell? ⟨w1.heap.size, 6, none⟩ = some (.int .i64 e) := (hb4.cell (p := ⟨w1.heap.size, 6, none⟩) z3).trans g6; have p7 : w4.cell? ⟨w1.heap.size, 7, none⟩ = some (.bool b) := (hb4.cell (p := ⟨w1.heap.size, 7, none⟩) z3).trans g7; have p8 : w4.cell? ⟨w1.heap.size, 8, none⟩ = some (.int .i64 v) := (hb4.cell (p := ⟨w1.heap.size, 8, none⟩) z3).trans g8; have p9 : w4.cell? ⟨w1.heap.size, 9, none⟩ = some (.int .i64 r) := (hb4.cell (p := ⟨w1.heap.size, 9, none⟩) z3).trans g9)
        (try go_wp2_with fail)
        refine hK.out _ _ ?_ (fun hHeld2 => ?_)
        · (try dsimp only); exact ⟨by first | (with_reducible assumption) | (simp [go_sem, *]; done), by first | (with_reducible assumption) | (simp [go_sem, *]; done), by first | (with_reducible assumption) | (simp [go_sem, *]; done), by first | (with_reducible assumption) | (simp [go_sem, *]; done), by first | (with_reducible assumption) | (simp [go_sem, *]; done), by first | (with_reducible assumption) | (simp [go_sem, *]; done), by first | (with_reducible assumption) | (simp [go_sem, *]; done), by first | (with_reducible assumption) | (simp [go_sem, *]; done), by first | (with_reducible assumption) | (simp [go_sem, *]; done), by first | (with_reducible assumption) | (simp [go_sem, *]; done)⟩
        clear hK K hHeld
        have hHeld := hHeld2
        clear hHeld2
        try simp only [Act.put, List.setIfInBounds_toArray, List.set_cons_zero, List.set_cons_succ]
        refine wpAnyH_take (i := 5) (v := ?_) (by simp only [List.getElem?_toArray, List.getElem?_cons_zero, List.getElem?_cons_succ]; rfl) (by kernel_rfl) (by kernel_rfl) (by kernel_rfl) (by intro _ _ _ h; exact h) (Or.inl ⟨by rfl, ?_⟩) (by assumption) ?_
        rotate_left
        · (intro w9 hSw; (try dsimp only at hSw); go_simp <;> with_reducible rfl)
        try simp only [Act.put, List.setIfInBounds_toArray, List.set_cons_zero, List.set_cons_succ]
        refine wpAnyH_take (i := 6) (v := ?_) (by simp only [List.getElem?_toArray, List.getElem?_cons_zero, List.getElem?_cons_succ]; rfl) (by kernel_rfl) (by kernel_rfl) (by kernel_rfl) (by intro _ _ _ h; exact h) (Or.inl ⟨by rfl, ?_⟩) (by assumption) ?_
        rotate_left
        · (intro w9 hSw; (try dsimp only at hSw); go_simp <;> with_reducible rfl)
        try simp only [Act.put, List.setIfInBounds_toArray, List.set_cons_zero, List.set_cons_succ]
        refine wpAnyH_take (i := 7) (v := ?_) (by simp only [List.getElem?_toArray, List.getElem?_cons_zero, List.getElem?_cons_succ]; rfl) (by kernel_rfl) (by kernel_rfl) (by kernel_rfl) (by intro _ _ _ h; exact h) (Or.inl ⟨by rfl, ?_⟩) (by assumption) ?_
        rotate_left
        · (intro w9 hSw; (try dsimp only at hSw); go_simp <;> with_reducible rfl)
        try simp only [Act.put, List.setIfInBounds_toArray, List.set_cons_zero, List.set_cons_succ]
        refine wpAnyH_take (i := 9) (v := ?_) (by simp only [List.getElem?_toArray, List.getElem?_cons_zero, List.getElem?_cons_succ]; rfl) (by kernel_rfl) (by kernel_rfl) (by kernel_rfl) (by intro _ _ _ h; exact h) (Or.inl ⟨by rfl, ?_⟩) (by assumption) ?_
        rotate_left
        · (intro w9 hSw; (try dsimp only at hSw); go_simp <;> with_reducible rfl)
        try simp only [Act.put, List.setIfInBounds_toArray, List.set_cons_zero, List.set_cons_succ]
        refine wpAnyH_ready (rs := [8]) (by kernel_rfl) (by simp) ?_
        refine AllReadyH.cons (by simp only [List.getElem?_toArray, List.getElem?_cons_zero, List.getElem?_cons_succ]; rfl) (fun K hK => ?_) AllReadyH.nil
        go_simp
        (go_at_call 10; refine (implok_is s t k z q l e b v r _ (hide hj)).mono ?_; rintro e' w5 ⟨rfl, hb5⟩; have z5 : w1.heap.size < w5.heap.size := Nat.lt_of_lt_of_le z4 hb5.size; have n0 : w5.cell? ⟨w1.heap.size, 0, none⟩ = some (.int .i64 s) := (hb5.cell (p := ⟨w1.heap.size, 0, none⟩) z4).trans p0; have n1 : w5.cell? ⟨w1.heap.size, 1, none⟩ = some (.int .i64 t) := (hb5.cell (p := ⟨w1.heap.size, 1, none⟩) z4).trans p1; have n2 : w5.cell? ⟨w1.heap.size, 2, none⟩ = some (.int .i64 k) := (hb5.cell (p := ⟨w1.heap.size, 2, none⟩) z4).trans p2; have n3 : w5.cell? ⟨w1.heap.size, 3, none⟩ = some (.int .i64 z) := (hb5.cell (p := ⟨w1.heap.size, 3, none⟩) z4).trans p3; have n4 : w5.cell? ⟨w1.heap.size, 4, none⟩ = some (.int .i64 q) := (hb5.cell (p := ⟨w1.heap.size, 4, none⟩) z4).trans p4; have n5 : w5.cell? ⟨w1.heap.size, 5, none⟩ = some (.int .i64 l) := (hb5.cell (p := ⟨w1.heap.size, 5, none⟩) z4).trans p5; have n6 : w5.cell? ⟨w1.heap.size, 6, none⟩ = some (.int .i64 e) := (hb5.cell (p := ⟨w1.heap.size, 6, none⟩) z4).trans p6; have n7 : w5.cell? ⟨w1.heap.size, 7, none⟩ = some (.bool b) := (hb5.cell (p := ⟨w1.heap.size, 7, none⟩) z4).trans p7; have n8 : w5.cell? ⟨w1.heap.size, 8, none⟩ = some (.int .i64 v) := (hb5.cell (p := ⟨w1.heap.size, 8, none⟩) z4).trans p8; have n9 : w5.cell? ⟨w1.heap.size, 9, none⟩ = some (.int .i64 r) := (hb5.cell (p := ⟨w1.heap.size, 9, none⟩) z4).trans p9)
        (try go_wp2_with fail)
        refine hK.out _ _ ?_ (fun hHeld2 => ?_)
        · (try dsimp only); exact ⟨by first | (with_reducible assumption) | (simp [go_sem, *]; done), by first | (with_reducible assumption) | (simp [go_sem, *]; done), by first | (with_reducible assumption) | (simp [go_sem, *]; done), by first | (with_reducible assumption) | (simp [go_sem, *]; done), by first | (with_reducible assumption) | (simp [go_sem, *]; done), by first | (with_reducible assumption) | (simp [go_sem, *]; done), by first | (with_reducible assumption) | (simp [go_sem, *]; done), by first | (with_reducible assumption) | (simp [go_sem, *]; done), by first | (with_reducible assumption) | (simp [go_sem, *]; done), by first | (with_reducible assumption) | (simp [go_sem, *]; done)⟩
        clear hK K hHeld
        have hHeld := hHeld2
        clear hHeld2
        try simp only [Act.put, List.setIfInBounds_toArray, List.set_cons_zero, List.set_cons_succ]
        refine wpAnyH_ready (rs := [10]) (by kernel_rfl) (by simp) ?_
        refine AllReadyH.cons (by simp only [List.getElem?_toArray, List.getElem?_cons_zero, List.getElem?_cons_succ]; rfl) (fun K hK => ?_) AllReadyH.nil
        go_simp
        (go_at_call 11; refine (specok_is s t k z q l e b v r _ (hide hj)).mono ?_; rintro e' w6 ⟨rfl, hb6⟩; have z6 : w1.heap.size < w6.heap.size := Nat.lt_of_lt_of_le z5 hb6.size; have m0 : w6.cell? ⟨w1.heap.size, 0, none⟩ = some (.int .i64 s) := (hb6.cell (p := ⟨w1.heap.size, 0, none⟩) z5).trans n0; have m1 : w6.cell? ⟨w1.heap.size, 1, none⟩ = some (.int .i64 t) := (hb6.cell (p := ⟨w1.heap.size, 1, none⟩) z5).trans n1; have m2 : w6.cell? ⟨w1.heap.size, 2, none⟩ = some (.int .i64 k) := (hb6.cell (p := ⟨w1.heap.size, 2, none⟩) z5).trans n2; have m3 : w6.cell? ⟨w1.heap.size, 3, none⟩ = some (.int .i64 z) := (hb6.cell (p := ⟨w1.heap.size, 3, none⟩) z5).trans n3; have m4 : w6.cell? ⟨w1.heap.size, 4, none⟩ = some (.int .i64 q) := (hb6.cell (p := ⟨w1.heap.size, 4, none⟩) z5).trans n4; have m5 : w6.cell? ⟨w1.heap.size, 5, none⟩ = some (.int .i64 l) := (hb6.cell (p := ⟨w1.heap.size, 5, none⟩) z5).trans n5; have m6 : w6.cell? ⟨w1.heap.size, 6, none⟩ = some (.int .i64 e) := (hb6.cell (p := ⟨w1.heap.size, 6, none⟩) z5).trans n6; have m7 : w6.cell? ⟨w1.heap.size, 7, none⟩ = some (.bool b) := (hb6.cell (p := ⟨w1.heap.size, 7, none⟩) z5).trans n7; have m8 : w6.cell? ⟨w1.heap.size, 8, none⟩ = some (.int .i64 v) := (hb6.cell (p := ⟨w1.heap.size, 8, none⟩) z5).trans n8; have m9 : w6.cell? ⟨w1.heap.size, 9, none⟩ = some (.int .i64 r) := (hb6.cell (p := ⟨w1.heap.size, 9, none⟩) z5).trans n9)
        (try go_wp2_with fail)
        refine hK.out _ _ ?_ (fun hHeld2 => ?_)
        · (try dsimp only); exact ⟨by first | (with_reducible assumption) | (simp [go_sem, *]; done), by first | (with_reducible assumption) | (simp [go_sem, *]; done), by first | (with_reducible assumption) | (simp [go_sem, *]; done), by first | (with_reducible assumption) | (simp [go_sem, *]; done), by first | (with_reducible assumption) | (simp [go_sem, *]; done), by first | (with_reducible assumption) | (simp [go_sem, *]; done), by first | (with_reducible assumption) | (simp [go_sem, *]; done), by first | (with_reducible assumption) | (simp [go_sem, *]; done), by first | (with_reducible assumption) | (simp [go_sem, *]; done), by first | (with_reducible assumption) | (simp [go_sem, *]; done)⟩
        clear hK K hHeld
        have hHeld := hHeld2
        clear hHeld2
        try simp only [Act.put, List.setIfInBounds_toArray, List.set_cons_zero, List.set_cons_succ]
        refine wpAnyH_take (i := 11) (v := ?_) (by simp only [List.getElem?_toArray, List.getElem?_cons_zero, List.getElem?_cons_succ]; rfl) (by kernel_rfl) (by kernel_rfl) (by kernel_rfl) (by intro _ _ _ h; exact h) (Or.inl ⟨by rfl, ?_⟩) (by assumption) ?_
        rotate_left
        · (intro w9 hSw; (try dsimp only at hSw); go_simp <;> with_reducible rfl)
        try simp only [Act.put, List.setIfInBounds_toArray, List.set_cons_zero, List.set_cons_succ]
        refine wpAnyH_take (i := 12) (v := ?_) (by simp only [List.getElem?_toArray, List.getElem?_cons_zero, List.getElem?_cons_succ]; rfl) (by kernel_rfl) (by kernel_rfl) (by kernel_rfl) (by intro _ _ _ h; exact h) (Or.inl ⟨by rfl, ?_⟩) (by assumption) ?_
        rotate_left
        · (intro w9 hSw; (try dsimp only at hSw); go_simp <;> with_reducible rfl)
        try simp only [Act.put, List.setIfInBounds_toArray, List.set_cons_zero, List.set_cons_succ]
        refine wpAnyH_done (by kernel_rfl) ?_ _
        clear hHeld x0 g0 p0 n0 x1 g1 p1 n1 x2 g2 p2 n2 x3 g3 p3 n3 x4 g4 p4 n4 x5 g5 p5 n5 x6 g6 p6 n6 x7 g7 p7 n7 x8 g8 p8 n8 x9 g9 p9 n9
        go_wp2_with fail
        refine (specok_is s t k z q l e b v r _ (hide hj)).mono ?_
        rintro e' w7 ⟨rfl, hb7⟩
        have z7 : w1.heap.size < w7.heap.size := Nat.lt_of_lt_of_le z6 hb7.size
        have x0 : w7.cell? ⟨w1.heap.size, 0, none⟩ = some (.int .i64 s) := (hb7.cell (p := ⟨w1.heap.size, 0, none⟩) z6).trans m0
        have x1 : w7.cell? ⟨w1.heap.size, 1, none⟩ = some (.int .i64 t) := (hb7.cell (p := ⟨w1.heap.size, 1, none⟩) z6).trans m1
        have x2 : w7.cell? ⟨w1.heap.size, 2, none⟩ = some (.int .i64 k) := (hb7.cell (p := ⟨w1.heap.size, 2, none⟩) z6).trans m2
        have x3 : w7.cell? ⟨w1.heap.size, 3, none⟩ = some (.int .i64 z) := (hb7.cell (p := ⟨w1.heap.size, 3, none⟩) z6).trans m3
        have x4 : w7.cell? ⟨w1.heap.size, 4, none⟩ = some (.int .i64 q) := (hb7.cell (p := ⟨w1.heap.size, 4, none⟩) z6).trans m4
        have x5 : w7.cell? ⟨w1.heap.size, 5, none⟩ = some (.int .i64 l) := (hb7.cell (p := ⟨w1.heap.size, 5, none⟩) z6).trans m5
        have x6 : w7.cell? ⟨w1.heap.size, 6, none⟩ = some (.int .i64 e) := (hb7.cell (p := ⟨w1.heap.size, 6, none⟩) z6).trans m6
        have x7 : w7.cell? ⟨w1.heap.size, 7, none⟩ = some (.bool b) := (hb7.cell (p := ⟨w1.heap.size, 7, none⟩) z6).trans m7
        have x8 : w7.cell? ⟨w1.heap.size, 8, none⟩ = some (.int .i64 v) := (hb7.cell (p := ⟨w1.heap.size, 8, none⟩) z6).trans m8
        have x9 : w7.cell? ⟨w1.heap.size, 9, none⟩ = some (.int .i64 r) := (hb7.cell (p := ⟨w1.heap.size, 9, none⟩) z6).trans m9
        have b37 : Below w3.heap.size w3 w7 := bel_trans hb4 (bel_trans hb5 (bel_trans hb6 hb7))
        have HR7 := hide ((unhide HR5b).below b37)
        have hbF : Below w.heap.size w w7 := bel_trans hb1 (bel_trans hb1' (bel_trans hb2 (bel_trans (bel_trans (bel_drew (Below.refl _ _)) hb3) b37)))
        clear m0 m1 m2 m3 m4 m5 m6 m7 m8 m9 HR5 HR6 HR5b b37 hb2 hb3 hb4 hb5 hb6 hb7 hb1'
        have hx0 := unhide HX0
        simp only [hx0]
        go_wp2_with fail
        refine (frok_any _).mono ?_
        rintro e' w8 ⟨rfl, hb8⟩
        go_wp2
        go_ret
        exact ⟨rfl, bel_trans hbF hb8⟩
      obtain ⟨xs, hN0, hIs, hRise, hL1, hL2, hlo, hhi⟩ := wins_are hj (T := T) ⟨by omega, by omega⟩
      have HIs := hide (And.intro hIs (And.intro hRise (And.intro hL1 hL2)))
      have hN := hide hN0
      clear hN0 hIs hRise hL1 hL2
      have hb1' : Below w1.heap.size w1 (w1.alloc (.cells #[.int .i64 s, .int .i64 t, .int .i64 k, .int .i64 z, .int .i64 q, .int .i64 l, .int .i64 e, .bool b, .int .i64 v, .int .i64 r] 24)) := bel_one _ _
      go_wp2_with fail
      refine (implwinof_is s t k z q l e b v r T _ hN).mono ?_
      rintro e' w2 ⟨v', rfl, hO, hb2⟩
      obtain ⟨a5, c5, rfl, hR5, _, _⟩ := holdWn hO (by omega)
      have z2 : w1.heap.size < w2.heap.size := by have h9 := hb2.size; simp at h9; omega
      have x0 : w2.cell? ⟨w1.heap.size, 0, none⟩ = some (.int .i64 s) := (hb2.cell (p := ⟨w1.heap.size, 0, none⟩) (by simp)).trans (by simp [go_sem])
      have x1 : w2.cell? ⟨w1.heap.size, 1, none⟩ = some (.int .i64 t) := (hb2.cell (p := ⟨w1.heap.size, 1, none⟩) (by simp)).trans (by simp [go_sem])
      have x2 : w2.cell? ⟨w1.heap.size, 2, none⟩ = some (.int .i64 k) := (hb2.cell (p := ⟨w1.heap.size, 2, none⟩) (by simp)).trans (by simp [go_sem])
      have x3 : w2.cell? ⟨w1.heap.size, 3, none⟩ = some (.int .i64 z) := (hb2.cell (p := ⟨w1.heap.size, 3, none⟩) (by simp)).trans (by simp [go_sem])
      have x4 : w2.cell? ⟨w1.heap.size, 4, none⟩ = some (.int .i64 q) := (hb2.cell (p := ⟨w1.heap.size, 4, none⟩) (by simp)).trans (by simp [go_sem])
      have x5 : w2.cell? ⟨w1.heap.size, 5, none⟩ = some (.int .i64 l) := (hb2.cell (p := ⟨w1.heap.size, 5, none⟩) (by simp)).trans (by simp [go_sem])
      have x6 : w2.cell? ⟨w1.heap.size, 6, none⟩ = some (.int .i64 e) := (hb2.cell (p := ⟨w1.heap.size, 6, none⟩) (by simp)).trans (by simp [go_sem])
      have x7 : w2.cell? ⟨w1.heap.size, 7, none⟩ = some (.bool b) := (hb2.cell (p := ⟨w1.heap.size, 7, none⟩) (by simp)).trans (by simp [go_sem])
      have x8 : w2.cell? ⟨w1.heap.size, 8, none⟩ = some (.int .i64 v) := (hb2.cell (p := ⟨w1.heap.size, 8, none⟩) (by simp)).trans (by simp [go_sem])
      have x9 : w2.cell? ⟨w1.heap.size, 9, none⟩ = some (.int .i64 r) := (hb2.cell (p := ⟨w1.heap.size, 9, none⟩) (by simp)).trans (by simp [go_sem])
      have HR5 := hide hR5
      clear hO hR5
      go_wp2_with fail
      refine wp_region_held_drew (S := (fun W => W.cell? ⟨w1.heap.size, 0, none⟩ = some (.int .i64 s) ∧ W.cell? ⟨w1.heap.size, 1, none⟩ = some (.int .i64 t) ∧ W.cell? ⟨w1.heap.size, 2, none⟩ = some (.int .i64 k) ∧ W.cell? ⟨w1.heap.size, 3, none⟩ = some (.int .i64 z) ∧ W.cell? ⟨w1.heap.size, 4, none⟩ = some (.int .i64 q) ∧ W.cell? ⟨w1.heap.size, 5, none⟩ = some (.int .i64 l) ∧ W.cell? ⟨w1.heap.size, 6, none⟩ = some (.int .i64 e) ∧ W.cell? ⟨w1.heap.size, 7, none⟩ = some (.bool b) ∧ W.cell? ⟨w1.heap.size, 8, none⟩ = some (.int .i64 v) ∧ W.cell? ⟨w1.heap.size, 9, none⟩ = some (.int .i64 r))) (by kernel_rfl) ?_ (fun hHeld => ?_)
      · (try dsimp only); exact ⟨by first | (with_reducible assumption) | (simp [go_sem, *]; done), by first | (with_reducible assumption) | (simp [go_sem, *]; done), by first | (with_reducible assumption) | (simp [go_sem, *]; done), by first | (with_reducible assumption) | (simp [go_sem, *]; done), by first | (with_reducible assumption) | (simp [go_sem, *]; done), by first | (with_reducible assumption) | (simp [go_sem, *]; done), by first | (with_reducible assumption) | (simp [go_sem, *]; done), by first | (with_reducible assumption) | (simp [go_sem, *]; done), by first | (with_reducible assumption) | (simp [go_sem, *]; done), by first | (with_reducible assumption) | (simp [go_sem, *]; done)⟩
      refine wpAnyH_take (i := 0) (v := ?_) (by simp only [List.getElem?_toArray, List.getElem?_cons_zero, List.getElem?_cons_succ]; rfl) (by kernel_rfl) (by kernel_rfl) (by kernel_rfl) (by intro _ _ _ h; exact h) (Or.inl ⟨by rfl, ?_⟩) (by assumption) ?_
      rotate_left
      · (intro w9 hSw; (try dsimp only at hSw); go_simp <;> with_reducible rfl)
      try simp only [Act.put, List.setIfInBounds_toArray, List.set_cons_zero, List.set_cons_succ]
      refine wpAnyH_take (i := 1) (v := ?_) (by simp only [List.getElem?_toArray, List.getElem?_cons_zero, List.getElem?_cons_succ]; rfl) (by kernel_rfl) (by kernel_rfl) (by kernel_rfl) (by intro _ _ _ h; exact h) (Or.inl ⟨by rfl, ?_⟩) (by assumption) ?_
      rotate_left
      · (intro w9 hSw; (try dsimp only at hSw); go_simp <;> with_reducible rfl)
      try simp only [Act.put, List.setIfInBounds_toArray, List.set_cons_zero, List.set_cons_succ]
      refine wpAnyH_take (i := 2) (v := ?_) (by simp only [List.getElem?_toArray, List.getElem?_cons_zero, List.getElem?_cons_succ]; rfl) (by kernel_rfl) (by kernel_rfl) (by kernel_rfl) (by intro _ _ _ h; exact h) (Or.inl ⟨by rfl, ?_⟩) (by assumption) ?_
      rotate_left
      · (intro w9 hSw; (try dsimp only at hSw); go_simp <;> with_reducible rfl)
      try simp only [Act.put, List.setIfInBounds_toArray, List.set_cons_zero, List.set_cons_succ]
      refine wpAnyH_ready (rs := [3]) (by kernel_rfl) (by simp) ?_
      refine AllReadyH.cons (by simp only [List.getElem?_toArray, List.getElem?_cons_zero, List.getElem?_cons_succ]; rfl) (fun K hK => ?_) AllReadyH.nil
      go_simp
      (go_at_call 9; refine (specwinof_is s t k z q l e b v r T _ hN).mono ?_; rintro e' w3 ⟨v3, rfl, hO3, hb3⟩; obtain ⟨a6, c6, rfl, hR6, _, _⟩ := holdWn hO3 (by omega); have HR6 := hide hR6; clear hO3 hR6; have z3 : w1.heap.size < w3.heap.size := Nat.lt_of_lt_of_le z2 hb3.size; have HR5b := hide ((unhide HR5).below (bel_trans (bel_drew (Below.refl _ _)) hb3)); have g0 : w3.cell? ⟨w1.heap.size, 0, none⟩ = some (.int .i64 s) := (hb3.cell (p := ⟨w1.heap.size, 0, none⟩) z2).trans x0; have g1 : w3.cell? ⟨w1.heap.size, 1, none⟩ = some (.int .i64 t) := (hb3.cell (p := ⟨w1.heap.size, 1, none⟩) z2).trans x1; have g2 : w3.cell? ⟨w1.heap.size, 2, none⟩ = some (.int .i64 k) := (hb3.cell (p := ⟨w1.heap.size, 2, none⟩) z2).trans x2; have g3 : w3.cell? ⟨w1.heap.size, 3, none⟩ = some (.int .i64 z) := (hb3.cell (p := ⟨w1.heap.size, 3, none⟩) z2).trans x3; have g4 : w3.cell? ⟨w1.heap.size, 4, none⟩ = some (.int .i64 q) := (hb3.cell (p := ⟨w1.heap.size, 4, none⟩) z2).trans x4; have g5 : w3.cell? ⟨w1.heap.size, 5, none⟩ = some (.int .i64 l) := (hb3.cell (p := ⟨w1.heap.size, 5, none⟩) z2).trans x5; have g6 : w3.cell? ⟨w1.heap.size, 6, none⟩ = some (.int .i64 e) := (hb3.cell (p := ⟨w1.heap.size, 6, none⟩) z2).trans x6; have g7 : w3.cell? ⟨w1.heap.size, 7, none⟩ = some (.bool b) := (hb3.cell (p := ⟨w1.heap.size, 7, none⟩) z2).trans x7; have g8 : w3.cell? ⟨w1.heap.size, 8, none⟩ = some (.int .i64 v) := (hb3.cell (p := ⟨w1.heap.size, 8, none⟩) z2).trans x8; have g9 : w3.cell? ⟨w1.heap.size, 9, none⟩ = some (.int .i64 r) := (hb3.cell (p := ⟨w1.heap.size, 9, none⟩) z2).trans x9)
      (try go_wp2_with fail)
      refine hK.out _ _ ?_ (fun hHeld2 => ?_)
      · (try dsimp only); exact ⟨by first | (with_reducible assumption) | (simp [go_sem, *]; done), by first | (with_reducible assumption) | (simp [go_sem, *]; done), by first | (with_reducible assumption) | (simp [go_sem, *]; done), by first | (with_reducible assumption) | (simp [go_sem, *]; done), by first | (with_reducible assumption) | (simp [go_sem, *]; done), by first | (with_reducible assumption) | (simp [go_sem, *]; done), by first | (with_reducible assumption) | (simp [go_sem, *]; done), by first | (with_reducible assumption) | (simp [go_sem, *]; done), by first | (with_reducible assumption) | (simp [go_sem, *]; done), by first | (with_reducible assumption) | (simp [go_sem, *]; done)⟩
      clear hK K hHeld
      have hHeld := hHeld2
      clear hHeld2
      try simp only [Act.put, List.setIfInBounds_toArray, List.set_cons_zero, List.set_cons_succ]
      refine wpAnyH_ready (rs := [4]) (by kernel_rfl) (by simp) ?_
      refine AllReadyH.cons (by simp only [List.getElem?_toArray, List.getElem?_cons_zero, List.getElem?_cons_succ]; rfl) (fun K hK => ?_) AllReadyH.nil
      go_simp
      (go_at_call 8; refine (frwins_any a5 a6 xs.length c5 c6 xs _ (unhide HR5b) (unhide HR6)).mono ?_; rintro e' w4 ⟨rfl, hb4⟩; have z4 : w1.heap.size < w4.heap.size := Nat.lt_of_lt_of_le z3 hb4.size; have p0 : w4.cell? ⟨w1.heap.size, 0, none⟩ = some (.int .i64 s) := (hb4.cell (p := ⟨w1.heap.size, 0, none⟩) z3).trans g0; have p1 : w4.cell? ⟨w1.heap.size, 1, none⟩ = some (.int .i64 t) := (hb4.cell (p := ⟨w1.heap.size, 1, none⟩) z3).trans g1; have p2 : w4.cell? ⟨w1.heap.size, 2, none⟩ = some (.int .i64 k) := (hb4.cell (p := ⟨w1.heap.size, 2, none⟩) z3).trans g2; have p3 : w4.cell? ⟨w1.heap.size, 3, none⟩ = some (.int .i64 z) := (hb4.cell (p := ⟨w1.heap.size, 3, none⟩) z3).trans g3; have p4 : w4.cell? ⟨w1.heap.size, 4, none⟩ = some (.int .i64 q) := (hb4.cell (p := ⟨w1.heap.size, 4, none⟩) z3).trans g4; have p5 : w4.cell? ⟨w1.heap.size, 5, none⟩ = some (.int .i64 l) := (hb4.cell (p := ⟨w1.heap.size, 5, none⟩) z3).trans g5; have p6 : w4.cell? ⟨w1.heap.size, 6, none⟩ = some (.int .i64 e) := (hb4.cell (p := ⟨w1.heap.size, 6, none⟩) z3).trans g6; have p7 : w4.cell? ⟨w1.heap.size, 7, none⟩ = some (.bool b) := (hb4.cell (p := ⟨w1.heap.size, 7, none⟩) z3).trans g7; have p8 : w4.cell? ⟨w1.heap.size, 8, none⟩ = some (.int .i64 v) := (hb4.cell (p := ⟨w1.heap.size, 8, none⟩) z3).trans g8; have p9 : w4.cell? ⟨w1.heap.size, 9, none⟩ = some (.int .i64 r) := (hb4.cell (p := ⟨w1.heap.size, 9, none⟩) z3).trans g9)
      (try go_wp2_with fail)
      refine hK.out _ _ ?_ (fun hHeld2 => ?_)
      · (try dsimp only); exact ⟨by first | (with_reducible assumption) | (simp [go_sem, *]; done), by first | (with_reducible assumption) | (simp [go_sem, *]; done), by first | (with_reducible assumption) | (simp [go_sem, *]; done), by first | (with_reducible assumption) | (simp [go_sem, *]; done), by first | (with_reducible assumption) | (simp [go_sem, *]; done), by first | (with_reducible assumption) | (simp [go_sem, *]; done), by first | (with_reducible assumption) | (simp [go_sem, *]; done), by first | (with_reducible assumption) | (simp [go_sem, *]; done), by first | (with_reducible assumption) | (simp [go_sem, *]; done), by first | (with_reducible assumption) | (simp [go_sem, *]; done)⟩
      clear hK K hHeld
      have hHeld := hHeld2
      clear hHeld2
      try simp only [Act.put, List.setIfInBounds_toArray, List.set_cons_zero, List.set_cons_succ]
      refine wpAnyH_take (i := 5) (v := ?_) (by simp only [List.getElem?_toArray, List.getElem?_cons_zero, List.getElem?_cons_succ]; rfl) (by kernel_rfl) (by kernel_rfl) (by kernel_rfl) (by intro _ _ _ h; exact h) (Or.inl ⟨by rfl, ?_⟩) (by assumption) ?_
      rotate_left
      · (intro w9 hSw; (try dsimp only at hSw); go_simp <;> with_reducible rfl)
      try simp only [Act.put, List.setIfInBounds_toArray, List.set_cons_zero, List.set_cons_succ]
      refine wpAnyH_take (i := 6) (v := ?_) (by simp only [List.getElem?_toArray, List.getElem?_cons_zero, List.getElem?_cons_succ]; rfl) (by kernel_rfl) (by kernel_rfl) (by kernel_rfl) (by intro _ _ _ h; exact h) (Or.inl ⟨by rfl, ?_⟩) (by assumption) ?_
      rotate_left
      · (intro w9 hSw; (try dsimp only at hSw); go_simp <;> with_reducible rfl)
      try simp only [Act.put, List.setIfInBounds_toArray, List.set_cons_zero, List.set_cons_succ]
      refine wpAnyH_take (i := 7) (v := ?_) (by simp only [List.getElem?_toArray, List.getElem?_cons_zero, List.getElem?_cons_succ]; rfl) (by kernel_rfl) (by kernel_rfl) (by kernel_rfl) (by intro _ _ _ h; exact h) (Or.inl ⟨by rfl, ?_⟩) (by assumption) ?_
      rotate_left
      · (intro w9 hSw; (try dsimp only at hSw); go_simp <;> with_reducible rfl)
      try simp only [Act.put, List.setIfInBounds_toArray, List.set_cons_zero, List.set_cons_succ]
      refine wpAnyH_take (i := 9) (v := ?_) (by simp only [List.getElem?_toArray, List.getElem?_cons_zero, List.getElem?_cons_succ]; rfl) (by kernel_rfl) (by kernel_rfl) (by kernel_rfl) (by intro _ _ _ h; exact h) (Or.inl ⟨by rfl, ?_⟩) (by assumption) ?_
      rotate_left
      · (intro w9 hSw; (try dsimp only at hSw); go_simp <;> with_reducible rfl)
      try simp only [Act.put, List.setIfInBounds_toArray, List.set_cons_zero, List.set_cons_succ]
      refine wpAnyH_ready (rs := [8]) (by kernel_rfl) (by simp) ?_
      refine AllReadyH.cons (by simp only [List.getElem?_toArray, List.getElem?_cons_zero, List.getElem?_cons_succ]; rfl) (fun K hK => ?_) AllReadyH.nil
      go_simp
      (go_at_call 10; refine (implok_is s t k z q l e b v r _ (hide hj)).mono ?_; rintro e' w5 ⟨rfl, hb5⟩; have z5 : w1.heap.size < w5.heap.size := Nat.lt_of_lt_of_le z4 hb5.size; have n0 : w5.cell? ⟨w1.heap.size, 0, none⟩ = some (.int .i64 s) := (hb5.cell (p := ⟨w1.heap.size, 0, none⟩) z4).trans p0; have n1 : w5.cell? ⟨w1.heap.size, 1, none⟩ = some (.int .i64 t) := (hb5.cell (p := ⟨w1.heap.size, 1, none⟩) z4).trans p1; have n2 : w5.cell? ⟨w1.heap.size, 2, none⟩ = some (.int .i64 k) := (hb5.cell (p := ⟨w1.heap.size, 2, none⟩) z4).trans p2; have n3 : w5.cell? ⟨w1.heap.size, 3, none⟩ = some (.int .i64 z) := (hb5.cell (p := ⟨w1.heap.size, 3, none⟩) z4).trans p3; have n4 : w5.cell? ⟨w1.heap.size, 4, none⟩ = some (.int .i64 q) := (hb5.cell (p := ⟨w1.heap.size, 4, none⟩) z4).trans p4; have n5 : w5.cell? ⟨w1.heap.size, 5, none⟩ = some (.int .i64 l) := (hb5.cell (p := ⟨w1.heap.size, 5, none⟩) z4).trans p5; have n6 : w5.cell? ⟨w1.heap.size, 6, none⟩ = some (.int .i64 e) := (hb5.cell (p := ⟨w1.heap.size, 6, none⟩) z4).trans p6; have n7 : w5.cell? ⟨w1.heap.size, 7, none⟩ = some (.bool b) := (hb5.cell (p := ⟨w1.heap.size, 7, none⟩) z4).trans p7; have n8 : w5.cell? ⟨w1.heap.size, 8, none⟩ = some (.int .i64 v) := (hb5.cell (p := ⟨w1.heap.size, 8, none⟩) z4).trans p8; have n9 : w5.cell? ⟨w1.heap.size, 9, none⟩ = some (.int .i64 r) := (hb5.cell (p := ⟨w1.heap.size, 9, none⟩) z4).trans p9)
      (try go_wp2_with fail)
      refine hK.out _ _ ?_ (fun hHeld2 => ?_)
      · (try dsimp only); exact ⟨by first | (with_reducible assumption) | (simp [go_sem, *]; done), by first | (with_reducible assumption) | (simp [go_sem, *]; done), by first | (with_reducible assumption) | (simp [go_sem, *]; done), by first | (with_reducible assumption) | (simp [go_sem, *]; done), by first | (with_reducible assumption) | (simp [go_sem, *]; done), by first | (with_reducible assumption) | (simp [go_sem, *]; done), by first | (with_reducible assumption) | (simp [go_sem, *]; done), by first | (with_reducible assumption) | (simp [go_sem, *]; done), by first | (with_reducible assumption) | (simp [go_sem, *]; done), by first | (with_reducible assumption) | (simp [go_sem, *]; done)⟩
      clear hK K hHeld
      have hHeld := hHeld2
      clear hHeld2
      try simp only [Act.put, List.setIfInBounds_toArray, List.set_cons_zero, List.set_cons_succ]
      refine wpAnyH_ready (rs := [10]) (by kernel_rfl) (by simp) ?_
      refine AllReadyH.cons (by simp only [List.getElem?_toArray, List.getElem?_cons_zero, List.getElem?_cons_succ]; rfl) (fun K hK => ?_) AllReadyH.nil
      go_simp
      (go_at_call 11; refine (specok_is s t k z q l e b v r _ (hide hj)).mono ?_; rintro e' w6 ⟨rfl, hb6⟩; have z6 : w1.heap.size < w6.heap.size := Nat.lt_of_lt_of_le z5 hb6.size; have m0 : w6.cell? ⟨w1.heap.size, 0, none⟩ = some (.int .i64 s) := (hb6.cell (p := ⟨w1.heap.size, 0, none⟩) z5).trans n0; have m1 : w6.cell? ⟨w1.heap.size, 1, none⟩ = some (.int .i64 t) := (hb6.cell (p := ⟨w1.heap.size, 1, none⟩) z5).trans n1; have m2 : w6.cell? ⟨w1.heap.size, 2, none⟩ = some (.int .i64 k) := (hb6.cell (p := ⟨w1.heap.size, 2, none⟩) z5).trans n2; have m3 : w6.cell? ⟨w1.heap.size, 3, none⟩ = some (.int .i64 z) := (hb6.cell (p := ⟨w1.heap.size, 3, none⟩) z5).trans n3; have m4 : w6.cell? ⟨w1.heap.size, 4, none⟩ = some (.int .i64 q) := (hb6.cell (p := ⟨w1.heap.size, 4, none⟩) z5).trans n4; have m5 : w6.cell? ⟨w1.heap.size, 5, none⟩ = some (.int .i64 l) := (hb6.cell (p := ⟨w1.heap.size, 5, none⟩) z5).trans n5; have m6 : w6.cell? ⟨w1.heap.size, 6, none⟩ = some (.int .i64 e) := (hb6.cell (p := ⟨w1.heap.size, 6, none⟩) z5).trans n6; have m7 : w6.cell? ⟨w1.heap.size, 7, none⟩ = some (.bool b) := (hb6.cell (p := ⟨w1.heap.size, 7, none⟩) z5).trans n7; have m8 : w6.cell? ⟨w1.heap.size, 8, none⟩ = some (.int .i64 v) := (hb6.cell (p := ⟨w1.heap.size, 8, none⟩) z5).trans n8; have m9 : w6.cell? ⟨w1.heap.size, 9, none⟩ = some (.int .i64 r) := (hb6.cell (p := ⟨w1.heap.size, 9, none⟩) z5).trans n9)
      (try go_wp2_with fail)
      refine hK.out _ _ ?_ (fun hHeld2 => ?_)
      · (try dsimp only); exact ⟨by first | (with_reducible assumption) | (simp [go_sem, *]; done), by first | (with_reducible assumption) | (simp [go_sem, *]; done), by first | (with_reducible assumption) | (simp [go_sem, *]; done), by first | (with_reducible assumption) | (simp [go_sem, *]; done), by first | (with_reducible assumption) | (simp [go_sem, *]; done), by first | (with_reducible assumption) | (simp [go_sem, *]; done), by first | (with_reducible assumption) | (simp [go_sem, *]; done), by first | (with_reducible assumption) | (simp [go_sem, *]; done), by first | (with_reducible assumption) | (simp [go_sem, *]; done), by first | (with_reducible assumption) | (simp [go_sem, *]; done)⟩
      clear hK K hHeld
      have hHeld := hHeld2
      clear hHeld2
      try simp only [Act.put, List.setIfInBounds_toArray, List.set_cons_zero, List.set_cons_succ]
      refine wpAnyH_take (i := 11) (v := ?_) (by simp only [List.getElem?_toArray, List.getElem?_cons_zero, List.getElem?_cons_succ]; rfl) (by kernel_rfl) (by kernel_rfl) (by kernel_rfl) (by intro _ _ _ h; exact h) (Or.inl ⟨by rfl, ?_⟩) (by assumption) ?_
      rotate_left
      · (intro w9 hSw; (try dsimp only at hSw); go_simp <;> with_reducible rfl)
      try simp only [Act.put, List.setIfInBounds_toArray, List.set_cons_zero, List.set_cons_succ]
      refine wpAnyH_take (i := 12) (v := ?_) (by simp only [List.getElem?_toArray, List.getElem?_cons_zero, List.getElem?_cons_succ]; rfl) (by kernel_rfl) (by kernel_rfl) (by kernel_rfl) (by intro _ _ _ h; exact h) (Or.inl ⟨by rfl, ?_⟩) (by assumption) ?_
      rotate_left
      · (intro w9 hSw; (try dsimp only at hSw); go_simp <;> with_reducible rfl)
      try simp only [Act.put, List.setIfInBounds_toArray, List.set_cons_zero, List.set_cons_succ]
      refine wpAnyH_done (by kernel_rfl) ?_ _
      clear hHeld x0 g0 p0 n0 x1 g1 p1 n1 x2 g2 p2 n2 x3 g3 p3 n3 x4 g4 p4 n4 x5 g5 p5 n5 x6 g6 p6 n6 x7 g7 p7 n7 x8 g8 p8 n8 x9 g9 p9 n9
      go_wp2_with fail
      refine (specok_is s t k z q l e b v r _ (hide hj)).mono ?_
      rintro e' w7 ⟨rfl, hb7⟩
      have z7 : w1.heap.size < w7.heap.size := Nat.lt_of_lt_of_le z6 hb7.size
      have x0 : w7.cell? ⟨w1.heap.size, 0, none⟩ = some (.int .i64 s) := (hb7.cell (p := ⟨w1.heap.size, 0, none⟩) z6).trans m0
      have x1 : w7.cell? ⟨w1.heap.size, 1, none⟩ = some (.int .i64 t) := (hb7.cell (p := ⟨w1.heap.size, 1, none⟩) z6).trans m1
      have x2 : w7.cell? ⟨w1.heap.size, 2, none⟩ = some (.int .i64 k) := (hb7.cell (p := ⟨w1.heap.size, 2, none⟩) z6).trans m2
      have x3 : w7.cell? ⟨w1.heap.size, 3, none⟩ = some (.int .i64 z) := (hb7.cell (p := ⟨w1.heap.size, 3, none⟩) z6).trans m3
      have x4 : w7.cell? ⟨w1.heap.size, 4, none⟩ = some (.int .i64 q) := (hb7.cell (p := ⟨w1.heap.size, 4, none⟩) z6).trans m4
      have x5 : w7.cell? ⟨w1.heap.size, 5, none⟩ = some (.int .i64 l) := (hb7.cell (p := ⟨w1.heap.size, 5, none⟩) z6).trans m5
      have x6 : w7.cell? ⟨w1.heap.size, 6, none⟩ = some (.int .i64 e) := (hb7.cell (p := ⟨w1.heap.size, 6, none⟩) z6).trans m6
      have x7 : w7.cell? ⟨w1.heap.size, 7, none⟩ = some (.bool b) := (hb7.cell (p := ⟨w1.heap.size, 7, none⟩) z6).trans m7
      have x8 : w7.cell? ⟨w1.heap.size, 8, none⟩ = some (.int .i64 v) := (hb7.cell (p := ⟨w1.heap.size, 8, none⟩) z6).trans m8
      have x9 : w7.cell? ⟨w1.heap.size, 9, none⟩ = some (.int .i64 r) := (hb7.cell (p := ⟨w1.heap.size, 9, none⟩) z6).trans m9
      have b37 : Below w3.heap.size w3 w7 := bel_trans hb4 (bel_trans hb5 (bel_trans hb6 hb7))
      have HR7 := hide ((unhide HR5b).below b37)
      have hbF : Below w.heap.size w w7 := bel_trans hb1 (bel_trans hb1' (bel_trans hb2 (bel_trans (bel_trans (bel_drew (Below.refl _ _)) hb3) b37)))
      clear m0 m1 m2 m3 m4 m5 m6 m7 m8 m9 HR5 HR6 HR5b b37 hb2 hb3 hb4 hb5 hb6 hb7 hb1'
      go_wp2
      go_loopw [6] (fun iv wr => ∃ i : Nat, iv = .int .i64 i ∧ i ≤ xs.length ∧ Below w7.heap.size w7 wr) (fun iv _ => xs.length - (intOf iv).toNat)
      case atStart => exact ⟨0, rfl, Nat.zero_le _, Below.refl _ _⟩
      case round =>
        obtain ⟨ix, rfl, hi, hbw⟩ := hrel
        have zr : w7.heap.size ≤ wr.heap.size := hbw.size
        have zr1 : w1.heap.size < wr.heap.size := by omega
        have y2 : wr.cell? ⟨w1.heap.size, 2, none⟩ = some (.int .i64 k) := (hbw.cell (p := ⟨w1.heap.size, 2, none⟩) z7).trans x2
        have y3 : wr.cell? ⟨w1.heap.size, 3, none⟩ = some (.int .i64 z) := (hbw.cell (p := ⟨w1.heap.size, 3, none⟩) z7).trans x3
        have y4 : wr.cell? ⟨w1.heap.size, 4, none⟩ = some (.int .i64 q) := (hbw.cell (p := ⟨w1.heap.size, 4, none⟩) z7).trans x4
        have hzz := okJob_z hj
        obtain ⟨hkk, hkp⟩ := okJob_kp hj
        by_cases hlt : ix < xs.length
        · obtain ⟨x, hx⟩ : ∃ x, xs[ix]? = some x := ⟨_, List.getElem?_eq_getElem hlt⟩
          have hW := (unhide HIs).1 ix x hx
          obtain ⟨_, _, h3⟩ := unhide HR7
          obtain ⟨g, o, rfl, hat⟩ := h3.resolve_left (by omega)
          obtain ⟨c0, c1⟩ := hat ix x hx
          have hg : g < w7.heap.size := World.block_lt_of_cell? w7 ⟨g, _, none⟩ c0
          have hgr : g < wr.heap.size := by omega
          replace c0 := (hbw.cell (p := ⟨g, _, none⟩) hg).trans c0
          replace c1 := (hbw.cell (p := ⟨g, _, none⟩) hg).trans c1
          obtain ⟨A, B⟩ := x
          obtain ⟨wlo, wle, wlt, wsz, wk1, wk3, wk2⟩ := hW
          simp only at wlo wle wlt wsz wk1 wk3 wk2 c0 c1
          subst wsz
          have hltI : (ix : Int) < (xs.length : Int) := by omega
          have hok : okWin A (A + z) = true := by simp [okWin, inB]; omega
          have d1 : decide (T < A) = false := decide_eq_false (by omega)
          have d2 : decide (A + z ≤ T) = false := decide_eq_false (by omega)
          have d3 : A + z - A = z := by omega
          have d6 : IntKind.i64.wrap z = z := by rw [IntKind.wrap_i64]; omega
          have d8 : ¬ z = 0 := by omega
          have neg1 : wr.heap.size ≠ g := by omega
          have neg2 : wr.heap.size ≠ w1.heap.size := by omega
          cases ix with
          | zero =>
            clear hat h3 hx
            simp only [Nat.zero_mul, Nat.add_zero] at c0 c1
            rcases hkk with rfl | rfl | rfl
            · have m1 : A.tmod z = 0 := by rw [Int.tmod_eq_emod_of_nonneg wlo]; exact wk1 rfl
              have m2 : A % z = 0 := wk1 rfl
              go_wp2_with fail
              refine wp_region_held_drew (S := (fun W => W.cell? ⟨wr.heap.size, 0, none⟩ = some (.int .i64 A) ∧ W.cell? ⟨wr.heap.size, 1, none⟩ = some (.int .i64 (A + z)) ∧ W.cell? ⟨w1.heap.size, 3, none⟩ = some (.int .i64 z))) (by kernel_rfl) ?_ (fun hHeld => ?_)
              · (try dsimp only); exact ⟨by first | (with_reducible assumption) | (simp [go_sem, *]; done), by first | (with_reducible assumption) | (simp [go_sem, *]; done), by first | (with_reducible assumption) | (simp [go_sem, *]; done)⟩
              refine wpAnyH_take (i := 0) (v := ?_) (by simp only [List.getElem?_toArray, List.getElem?_cons_zero, List.getElem?_cons_succ]; rfl) (by kernel_rfl) (by kernel_rfl) (by kernel_rfl) (by intro _ _ _ h; exact h) (Or.inl ⟨by rfl, ?_⟩) (by assumption) ?_
              rotate_left
              · (intro w9 hSw; (try dsimp only at hSw); go_simp <;> with_reducible rfl)
              try simp only [Act.put, List.setIfInBounds_toArray, List.set_cons_zero, List.set_cons_succ]
              refine wpAnyH_ready (rs := [1]) (by kernel_rfl) (by simp) ?_
              refine AllReadyH.cons (by simp only [List.getElem?_toArray, List.getElem?_cons_zero, List.getElem?_cons_succ]; rfl) (fun K hK => ?_) AllReadyH.nil
              go_simp
              (go_at_call 13; refine (winok_is A (A + z) _ (hide hok)).mono ?_; rintro e' w8 ⟨rfl, hb8⟩; have z8 : wr.heap.size < w8.heap.size := (by have h9 := hb8.size; (try simp at h9); omega); have s0 : w8.cell? ⟨wr.heap.size, 0, none⟩ = some (.int .i64 A) := (hb8.cell (p := ⟨wr.heap.size, 0, none⟩) (by first | (simp; done) | (simp; omega))).trans (by first | (with_reducible assumption) | (simp [go_sem, *]; done)); have s1 : w8.cell? ⟨wr.heap.size, 1, none⟩ = some (.int .i64 (A + z)) := (hb8.cell (p := ⟨wr.heap.size, 1, none⟩) (by first | (simp; done) | (simp; omega))).trans (by first | (with_reducible assumption) | (simp [go_sem, *]; done)); have s2 : w8.cell? ⟨w1.heap.size, 3, none⟩ = some (.int .i64 z) := (hb8.cell (p := ⟨w1.heap.size, 3, none⟩) (by first | (simp; done) | (simp; omega))).trans (by first | (with_reducible assumption) | (simp [go_sem, *]; done)))
              (try go_wp2_with fail)
              refine hK.out _ _ ?_ (fun hHeld2 => ?_)
              · (try dsimp only); exact ⟨by first | (with_reducible assumption) | (simp [go_sem, *]; done), by first | (with_reducible assumption) | (simp [go_sem, *]; done), by first | (with_reducible assumption) | (simp [go_sem, *]; done)⟩
              clear hK K hHeld
              have hHeld := hHeld2
              clear hHeld2
              try simp only [Act.put, List.setIfInBounds_toArray, List.set_cons_zero, List.set_cons_succ]
              refine wpAnyH_take (i := 2) (v := ?_) (by simp only [List.getElem?_toArray, List.getElem?_cons_zero, List.getElem?_cons_succ]; rfl) (by kernel_rfl) (by kernel_rfl) (by kernel_rfl) (by intro _ _ _ h; exact h) (Or.inl ⟨by rfl, ?_⟩) (by assumption) ?_
              rotate_left
              · (intro w9 hSw; (try dsimp only at hSw); go_simp <;> with_reducible rfl)
              try simp only [Act.put, List.setIfInBounds_toArray, List.set_cons_zero, List.set_cons_succ]
              refine wpAnyH_take (i := 3) (v := ?_) (by simp only [List.getElem?_toArray, List.getElem?_cons_zero, List.getElem?_cons_succ]; rfl) (by kernel_rfl) (by kernel_rfl) (by kernel_rfl) (by intro _ _ _ h; exact h) (Or.inl ⟨by rfl, ?_⟩) (by assumption) ?_
              rotate_left
              · (intro w9 hSw; (try dsimp only at hSw); go_simp <;> with_reducible rfl)
              try simp only [Act.put, List.setIfInBounds_toArray, List.set_cons_zero, List.set_cons_succ]
              refine wpAnyH_take (i := 4) (v := ?_) (by simp only [List.getElem?_toArray, List.getElem?_cons_zero, List.getElem?_cons_succ]; rfl) (by kernel_rfl) (by kernel_rfl) (by kernel_rfl) (by intro _ _ _ h; exact h) (Or.inl ⟨by rfl, ?_⟩) (by assumption) ?_
              rotate_left
              · (intro w9 hSw; (try dsimp only at hSw); go_simp <;> with_reducible rfl)
              try simp only [Act.put, List.setIfInBounds_toArray, List.set_cons_zero, List.set_cons_succ]
              refine wpAnyH_take (i := 5) (v := ?_) (by simp only [List.getElem?_toArray, List.getElem?_cons_zero, List.getElem?_cons_succ]; rfl) (by kernel_rfl) (by kernel_rfl) (by kernel_rfl) (by intro _ _ _ h; exact h) (Or.inl ⟨by rfl, ?_⟩) (by assumption) ?_
              rotate_left
              · (intro w9 hSw; (try dsimp only at hSw); go_simp <;> with_reducible rfl)
              try simp only [Act.put, List.setIfInBounds_toArray, List.set_cons_zero, List.set_cons_succ]
              refine wpAnyH_take (i := 6) (v := ?_) (by simp only [List.getElem?_toArray, List.getElem?_cons_zero, List.getElem?_cons_succ]; rfl) (by kernel_rfl) (by kernel_rfl) (by kernel_rfl) (by intro _ _ _ h; exact h) (Or.inl ⟨by rfl, ?_⟩) (by assumption) ?_
              rotate_left
              · (intro w9 hSw; (try dsimp only at hSw); go_simp <;> with_reducible rfl)
              try simp only [Act.put, List.setIfInBounds_toArray, List.set_cons_zero, List.set_cons_succ]
              refine wpAnyH_take (i := 7) (v := ?_) (by simp only [List.getElem?_toArray, List.getElem?_cons_zero, List.getElem?_cons_succ]; rfl) (by kernel_rfl) (by kernel_rfl) (by kernel_rfl) (by intro _ _ _ h; exact h) (Or.inl ⟨by rfl, ?_⟩) (by assumption) ?_
              rotate_left
              · (intro w9 hSw; (try dsimp only at hSw); go_simp <;> with_reducible rfl)
              try simp only [Act.put, List.setIfInBounds_toArray, List.set_cons_zero, List.set_cons_succ]
              refine wpAnyH_take (i := 8) (v := ?_) (by simp only [List.getElem?_toArray, List.getElem?_cons_zero, List.getElem?_cons_succ]; rfl) (by kernel_rfl) (by kernel_rfl) (by kernel_rfl) (by intro _ _ _ h; exact h) (Or.inl ⟨by rfl, ?_⟩) (by assumption) ?_
              rotate_left
              · (intro w9 hSw; (try dsimp only at hSw); go_simp <;> with_reducible rfl)
              try simp only [Act.put, List.setIfInBounds_toArray, List.set_cons_zero, List.set_cons_succ]
              refine wpAnyH_take (i := 9) (v := ?_) (by simp only [List.getElem?_toArray, List.getElem?_cons_zero, List.getElem?_cons_succ]; rfl) (by kernel_rfl) (by kernel_rfl) (by kernel_rfl) (by intro _ _ _ h; exact h) (Or.inl ⟨by rfl, ?_⟩) (by assumption) ?_
              rotate_left
              · (intro w9 hSw; (try dsimp only at hSw); go_simp <;> with_reducible rfl)
              try simp only [Act.put, List.setIfInBounds_toArray, List.set_cons_zero, List.set_cons_succ]
              refine wpAnyH_take (i := 10) (v := ?_) (by simp only [List.getElem?_toArray, List.getElem?_cons_zero, List.getElem?_cons_succ]; rfl) (by kernel_rfl) (by kernel_rfl) (by kernel_rfl) (by intro _ _ _ h; exact h) (Or.inl ⟨by rfl, ?_⟩) (by assumption) ?_
              rotate_left
              · (intro w9 hSw; (try dsimp only at hSw); go_simp <;> with_reducible rfl)
              try simp only [Act.put, List.setIfInBounds_toArray, List.set_cons_zero, List.set_cons_succ]
              refine wpAnyH_take (i := 11) (v := ?_) (by simp only [List.getElem?_toArray, List.getElem?_cons_zero, List.getElem?_cons_succ]; rfl) (by kernel_rfl) (by kernel_rfl) (by kernel_rfl) (by intro _ _ _ h; exact h) (Or.inl ⟨by rfl, ?_⟩) (by assumption) ?_
              rotate_left
              · (intro w9 hSw; (try dsimp only at hSw); go_simp <;> with_reducible rfl)
              try simp only [Act.put, List.setIfInBounds_toArray, List.set_cons_zero, List.set_cons_succ]
              refine wpAnyH_take (i := 12) (v := ?_) (by simp only [List.getElem?_toArray, List.getElem?_cons_zero, List.getElem?_cons_succ]; rfl) (by kernel_rfl) (by kernel_rfl) (by kernel_rfl) (by intro _ _ _ h; exact h) (Or.inl ⟨by rfl, ?_⟩) (by assumption) ?_
              rotate_left
              · (intro w9 hSw; (try dsimp only at hSw); go_simp <;> with_reducible rfl)
              try simp only [Act.put, List.setIfInBounds_toArray, List.set_cons_zero, List.set_cons_succ]
              refine wpAnyH_take (i := 13) (v := ?_) (by simp only [List.getElem?_toArray, List.getElem?_cons_zero, List.getElem?_cons_succ]; rfl) (by kernel_rfl) (by kernel_rfl) (by kernel_rfl) (by intro _ _ _ h; exact h) (Or.inl ⟨by rfl, ?_⟩) (by assumption) ?_
              rotate_left
              · (intro w9 hSw; (try dsimp only at hSw); go_simp <;> with_reducible rfl)
              try simp only [Act.put, List.setIfInBounds_toArray, List.set_cons_zero, List.set_cons_succ]
              refine wpAnyH_take (i := 14) (v := ?_) (by simp only [List.getElem?_toArray, List.getElem?_cons_zero, List.getElem?_cons_succ]; rfl) (by kernel_rfl) (by kernel_rfl) (by kernel_rfl) (by intro _ _ _ h; exact h) (Or.inl ⟨by rfl, ?_⟩) (by assumption) ?_
              rotate_left
              · (intro w9 hSw; (try dsimp only at hSw); go_simp <;> with_reducible rfl)
              try simp only [Act.put, List.setIfInBounds_toArray, List.set_cons_zero, List.set_cons_succ]
              refine wpAnyH_take (i := 15) (v := ?_) (by simp only [List.getElem?_toArray, List.getElem?_cons_zero, List.getElem?_cons_succ]; rfl) (by kernel_rfl) (by kernel_rfl) (by kernel_rfl) (by intro _ _ _ h; exact h) (Or.inl ⟨by rfl, ?_⟩) (by assumption) ?_
              rotate_left
              · (intro w9 hSw; (try dsimp only at hSw); go_simp <;> with_reducible rfl)
              try simp only [Act.put, List.setIfInBounds_toArray, List.set_cons_zero, List.set_cons_succ]
              refine wpAnyH_take (i := 16) (v := ?_) (by simp only [List.getElem?_toArray, List.getElem?_cons_zero, List.getElem?_cons_succ]; rfl) (by kernel_rfl) (by kernel_rfl) (by kernel_rfl) (by intro _ _ _ h; exact h) (Or.inl ⟨by rfl, ?_⟩) (by assumption) ?_
              rotate_left
              · (intro w9 hSw; (try dsimp only at hSw); go_simp <;> with_reducible rfl)
              try simp only [Act.put, List.setIfInBounds_toArray, List.set_cons_zero, List.set_cons_succ]
              refine wpAnyH_take (i := 17) (v := ?_) (by simp only [List.getElem?_toArray, List.getElem?_cons_zero, List.getElem?_cons_succ]; rfl) (by kernel_rfl) (by kernel_rfl) (by kernel_rfl) (by intro _ _ _ h; exact h) (Or.inl ⟨by rfl, ?_⟩) (by assumption) ?_
              rotate_left
              · (intro w9 hSw; (try dsimp only at hSw); go_simp <;> with_reducible rfl)
              try simp only [Act.put, List.setIfInBounds_toArray, List.set_cons_zero, List.set_cons_succ]
              refine wpAnyH_take (i := 18) (v := ?_) (by simp only [List.getElem?_toArray, List.getElem?_cons_zero, List.getElem?_cons_succ]; rfl) (by kernel_rfl) (by kernel_rfl) (by kernel_rfl) (by intro _ _ _ h; exact h) (Or.inl ⟨by rfl, ?_⟩) (by assumption) ?_
              rotate_left
              · (intro w9 hSw; (try dsimp only at hSw); go_simp <;> with_reducible rfl)
              try simp only [Act.put, List.setIfInBounds_toArray, List.set_cons_zero, List.set_cons_succ]
              refine wpAnyH_take (i := 19) (v := ?_) (by simp only [List.getElem?_toArray, List.getElem?_cons_zero, List.getElem?_cons_succ]; rfl) (by kernel_rfl) (by kernel_rfl) (by kernel_rfl) (by intro _ _ _ h; exact h) (Or.inl ⟨by rfl, ?_⟩) (by assumption) ?_
              rotate_left
              · (intro w9 hSw; (try dsimp only at hSw); go_simp <;> with_reducible rfl)
              try simp only [Act.put, List.setIfInBounds_toArray, List.set_cons_zero, List.set_cons_succ]
              refine wpAnyH_take (i := 20) (v := ?_) (by simp only [List.getElem?_toArray, List.getElem?_cons_zero, List.getElem?_cons_succ]; rfl) (by kernel_rfl) (by kernel_rfl) (by kernel_rfl) (by intro _ _ _ h; exact h) (Or.inl ⟨by rfl, ?_⟩) (by assumption) ?_
              rotate_left
              · (intro w9 hSw; (try dsimp only at hSw); go_simp <;> with_reducible rfl)
              try simp only [Act.put, List.setIfInBounds_toArray, List.set_cons_zero, List.set_cons_succ]
              refine wpAnyH_take (i := 21) (v := ?_) (by simp only [List.getElem?_toArray, List.getElem?_cons_zero, List.getElem?_cons_succ]; rfl) (by kernel_rfl) (by kernel_rfl) (by kernel_rfl) (by intro _ _ _ h; exact h) (Or.inl ⟨by rfl, ?_⟩) (by assumption) ?_
              rotate_left
              · (intro w9 hSw; (try dsimp only at hSw); go_simp <;> with_reducible rfl)
              try simp only [Act.put, List.setIfInBounds_toArray, List.set_cons_zero, List.set_cons_succ]
              refine wpAnyH_take (i := 22) (v := ?_) (by simp only [List.getElem?_toArray, List.getElem?_cons_zero, List.getElem?_cons_succ]; rfl) (by kernel_rfl) (by kernel_rfl) (by kernel_rfl) (by intro _ _ _ h; exact h) (Or.inl ⟨by rfl, ?_⟩) (by assumption) ?_
              rotate_left
              · (intro w9 hSw; (try dsimp only at hSw); go_simp <;> with_reducible rfl)
              try simp only [Act.put, List.setIfInBounds_toArray, List.set_cons_zero, List.set_cons_succ]
              refine wpAnyH_take (i := 23) (v := ?_) (by simp only [List.getElem?_toArray, List.getElem?_cons_zero, List.getElem?_cons_succ]; rfl) (by kernel_rfl) (by kernel_rfl) (by kernel_rfl) (by intro _ _ _ h; exact h) (Or.inl ⟨by rfl, ?_⟩) (by assumption) ?_
              rotate_left
              · (intro w9 hSw; (try dsimp only at hSw); go_simp <;> with_reducible rfl)
              try simp only [Act.put, List.setIfInBounds_toArray, List.set_cons_zero, List.set_cons_succ]
              refine wpAnyH_take (i := 24) (v := ?_) (by simp only [List.getElem?_toArray, List.getElem?_cons_zero, List.getElem?_cons_succ]; rfl) (by kernel_rfl) (by kernel_rfl) (by kernel_rfl) (by intro _ _ _ h; exact h) (Or.inl ⟨by rfl, ?_⟩) (by assumption) ?_
              rotate_left
              · (intro w9 hSw; (try dsimp only at hSw); go_simp <;> with_reducible rfl)
              try simp only [Act.put, List.setIfInBounds_toArray, List.set_cons_zero, List.set_cons_succ]
              refine wpAnyH_take (i := 25) (v := ?_) (by simp only [List.getElem?_toArray, List.getElem?_cons_zero, List.getElem?_cons_succ]; rfl) (by kernel_rfl) (by kernel_rfl) (by kernel_rfl) (by intro _ _ _ h; exact h) (Or.inl ⟨by rfl, ?_⟩) (by assumption) ?_
              rotate_left
              · (intro w9 hSw; (try dsimp only at hSw); go_simp <;> with_reducible rfl)
              try simp only [Act.put, List.setIfInBounds_toArray, List.set_cons_zero, List.set_cons_succ]
              refine wpAnyH_take (i := 26) (v := ?_) (by simp only [List.getElem?_toArray, List.getElem?_cons_zero, List.getElem?_cons_succ]; rfl) (by kernel_rfl) (by kernel_rfl) (by kernel_rfl) (by intro _ _ _ h; exact h) (Or.inl ⟨by rfl, ?_⟩) (by assumption) ?_
              rotate_left
              · (intro w9 hSw; (try dsimp only at hSw); go_simp <;> with_reducible rfl)
              try simp only [Act.put, List.setIfInBounds_toArray, List.set_cons_zero, List.set_cons_succ]
              refine wpAnyH_take (i := 27) (v := ?_) (by simp only [List.getElem?_toArray, List.getElem?_cons_zero, List.getElem?_cons_succ]; rfl) (by kernel_rfl) (by kernel_rfl) (by kernel_rfl) (by intro _ _ _ h; exact h) (Or.inl ⟨by rfl, ?_⟩) (by assumption) ?_
              rotate_left
              · (intro w9 hSw; (try dsimp only at hSw); go_simp <;> with_reducible rfl)
              try simp only [Act.put, List.setIfInBounds_toArray, List.set_cons_zero, List.set_cons_succ]
              refine wpAnyH_take (i := 28) (v := ?_) (by simp only [List.getElem?_toArray, List.getElem?_cons_zero, List.getElem?_cons_succ]; rfl) (by kernel_rfl) (by kernel_rfl) (by kernel_rfl) (by intro _ _ _ h; exact h) (Or.inl ⟨by rfl, ?_⟩) (by assumption) ?_
              rotate_left
              · (intro w9 hSw; (try dsimp only at hSw); go_simp <;> with_reducible rfl)
              try simp only [Act.put, List.setIfInBounds_toArray, List.set_cons_zero, List.set_cons_succ]
              refine wpAnyH_take (i := 29) (v := undef) (by simp only [List.getElem?_toArray, List.getElem?_cons_zero, List.getElem?_cons_succ]; rfl) (by kernel_rfl) (by kernel_rfl) (by kernel_rfl) (by intro _ _ _ h; exact h) (Or.inr ⟨by rfl, rfl⟩) (by assumption) ?_
              try simp only [Act.put, List.setIfInBounds_toArray, List.set_cons_zero, List.set_cons_succ]
              refine wpAnyH_take (i := 30) (v := undef) (by simp only [List.getElem?_toArray, List.getElem?_cons_zero, List.getElem?_cons_succ]; rfl) (by kernel_rfl) (by kernel_rfl) (by kernel_rfl) (by intro _ _ _ h; exact h) (Or.inr ⟨by rfl, rfl⟩) (by assumption) ?_
              try simp only [Act.put, List.setIfInBounds_toArray, List.set_cons_zero, List.set_cons_succ]
              refine wpAnyH_take (i := 31) (v := undef) (by simp only [List.getElem?_toArray, List.getElem?_cons_zero, List.getElem?_cons_succ]; rfl) (by kernel_rfl) (by kernel_rfl) (by kernel_rfl) (by intro _ _ _ h; exact h) (Or.inr ⟨by rfl, rfl⟩) (by assumption) ?_
              try simp only [Act.put, List.setIfInBounds_toArray, List.set_cons_zero, List.set_cons_succ]
              refine wpAnyH_take (i := 32) (v := undef) (by simp only [List.getElem?_toArray, List.getElem?_cons_zero, List.getElem?_cons_succ]; rfl) (by kernel_rfl) (by kernel_rfl) (by kernel_rfl) (by intro _ _ _ h; exact h) (Or.inr ⟨by rfl, rfl⟩) (by assumption) ?_
              try simp only [Act.put, List.setIfInBounds_toArray, List.set_cons_zero, List.set_cons_succ]
              refine wpAnyH_take (i := 33) (v := undef) (by simp only [List.getElem?_toArray, List.getElem?_cons_zero, List.getElem?_cons_succ]; rfl) (by kernel_rfl) (by kernel_rfl) (by kernel_rfl) (by intro _ _ _ h; exact h) (Or.inr ⟨by rfl, rfl⟩) (by assumption) ?_
              try simp only [Act.put, List.setIfInBounds_toArray, List.set_cons_zero, List.set_cons_succ]
              refine wpAnyH_take (i := 34) (v := undef) (by simp only [List.getElem?_toArray, List.getElem?_cons_zero, List.getElem?_cons_succ]; rfl) (by kernel_rfl) (by kernel_rfl) (by kernel_rfl) (by intro _ _ _ h; exact h) (Or.inr ⟨by rfl, rfl⟩) (by assumption) ?_
              try simp only [Act.put, List.setIfInBounds_toArray, List.set_cons_zero, List.set_cons_succ]
              refine wpAnyH_take (i := 35) (v := undef) (by simp only [List.getElem?_toArray, List.getElem?_cons_zero, List.getElem?_cons_succ]; rfl) (by kernel_rfl) (by kernel_rfl) (by kernel_rfl) (by intro _ _ _ h; exact h) (Or.inr ⟨by rfl, rfl⟩) (by assumption) ?_
              try simp only [Act.put, List.setIfInBounds_toArray, List.set_cons_zero, List.set_cons_succ]
              refine wpAnyH_take (i := 36) (v := undef) (by simp only [List.getElem?_toArray, List.getElem?_cons_zero, List.getElem?_cons_succ]; rfl) (by kernel_rfl) (by kernel_rfl) (by kernel_rfl) (by intro _ _ _ h; exact h) (Or.inr ⟨by rfl, rfl⟩) (by assumption) ?_
              try simp only [Act.put, List.setIfInBounds_toArray, List.set_cons_zero, List.set_cons_succ]
              refine wpAnyH_take (i := 37) (v := undef) (by simp only [List.getElem?_toArray, List.getElem?_cons_zero, List.getElem?_cons_succ]; rfl) (by kernel_rfl) (by kernel_rfl) (by kernel_rfl) (by intro _ _ _ h; exact h) (Or.inr ⟨by rfl, rfl⟩) (by assumption) ?_
              try simp only [Act.put, List.setIfInBounds_toArray, List.set_cons_zero, List.set_cons_succ]
              refine wpAnyH_take (i := 38) (v := ?_) (by simp only [List.getElem?_toArray, List.getElem?_cons_zero, List.getElem?_cons_succ]; rfl) (by kernel_rfl) (by kernel_rfl) (by kernel_rfl) (by intro _ _ _ h; exact h) (Or.inl ⟨by rfl, ?_⟩) (by assumption) ?_
              rotate_left
              · (intro w9 hSw; (try dsimp only at hSw); go_simp <;> with_reducible rfl)
              try simp only [Act.put, List.setIfInBounds_toArray, List.set_cons_zero, List.set_cons_succ]
              refine wpAnyH_take (i := 39) (v := ?_) (by simp only [List.getElem?_toArray, List.getElem?_cons_zero, List.getElem?_cons_succ]; rfl) (by kernel_rfl) (by kernel_rfl) (by kernel_rfl) (by intro _ _ _ h; exact h) (Or.inl ⟨by rfl, ?_⟩) (by assumption) ?_
              rotate_left
              · (intro w9 hSw; (try dsimp only at hSw); go_simp <;> with_reducible rfl)
              try simp only [Act.put, List.setIfInBounds_toArray, List.set_cons_zero, List.set_cons_succ]
              refine wpAnyH_done (by kernel_rfl) ?_ _
              have b8 : Below w7.heap.size w7 w8 := bel_trans (bel_alloc hbw (.cells #[.int .i64 A, .int .i64 (A + z)] 33)) (bel_trans (bel_drew (Below.refl _ _)) hb8)
              have t2 : w8.cell? ⟨w1.heap.size, 2, none⟩ = some (.int .i64 1) := (b8.cell (p := ⟨w1.heap.size, 2, none⟩) z7).trans x2
              have t4 : w8.cell? ⟨w1.heap.size, 4, none⟩ = some (.int .i64 q) := (b8.cell (p := ⟨w1.heap.size, 4, none⟩) z7).trans x4
              clear hHeld
              go_wp2
              go_roundw
              case rel => exact ⟨0 + 1, by go_num, by omega, (by repeat (first | (with_reducible exact Below.refl _ _) | (with_reducible assumption) | (with_reducible refine bel_set ?_ (by first | (simp; done) | (simp; omega)) _) | (with_reducible refine bel_alloc ?_ _) | (with_reducible refine bel_drew ?_)))⟩
              case measure => simp [intOf]; omega
            · have m1 : A = T := wk3 rfl
              subst m1
              go_wp2_with fail
              refine wp_region_held_drew (S := (fun W => W.cell? ⟨wr.heap.size, 0, none⟩ = some (.int .i64 A) ∧ W.cell? ⟨wr.heap.size, 1, none⟩ = some (.int .i64 (A + z)) ∧ W.cell? ⟨w1.heap.size, 3, none⟩ = some (.int .i64 z))) (by kernel_rfl) ?_ (fun hHeld => ?_)
              · (try dsimp only); exact ⟨by first | (with_reducible assumption) | (simp [go_sem, *]; done), by first | (with_reducible assumption) | (simp [go_sem, *]; done), by first | (with_reducible assumption) | (simp [go_sem, *]; done)⟩
              refine wpAnyH_take (i := 0) (v := ?_) (by simp only [List.getElem?_toArray, List.getElem?_cons_zero, List.getElem?_cons_succ]; rfl) (by kernel_rfl) (by kernel_rfl) (by kernel_rfl) (by intro _ _ _ h; exact h) (Or.inl ⟨by rfl, ?_⟩) (by assumption) ?_
              rotate_left
              · (intro w9 hSw; (try dsimp only at hSw); go_simp <;> with_reducible rfl)
              try simp only [Act.put, List.setIfInBounds_toArray, List.set_cons_zero, List.set_cons_succ]
              refine wpAnyH_ready (rs := [1]) (by kernel_rfl) (by simp) ?_
              refine AllReadyH.cons (by simp only [List.getElem?_toArray, List.getElem?_cons_zero, List.getElem?_cons_succ]; rfl) (fun K hK => ?_) AllReadyH.nil
              go_simp
              (go_at_call 13; refine (winok_is A (A + z) _ (hide hok)).mono ?_; rintro e' w8 ⟨rfl, hb8⟩; have z8 : wr.heap.size < w8.heap.size := (by have h9 := hb8.size; (try simp at h9); omega); have s0 : w8.cell? ⟨wr.heap.size, 0, none⟩ = some (.int .i64 A) := (hb8.cell (p := ⟨wr.heap.size, 0, none⟩) (by first | (simp; done) | (simp; omega))).trans (by first | (with_reducible assumption) | (simp [go_sem, *]; done)); have s1 : w8.cell? ⟨wr.heap.size, 1, none⟩ = some (.int .i64 (A + z)) := (hb8.cell (p := ⟨wr.heap.size, 1, none⟩) (by first | (simp; done) | (simp; omega))).trans (by first | (with_reducible assumption) | (simp [go_sem, *]; done)); have s2 : w8.cell? ⟨w1.heap.size, 3, none⟩ = some (.int .i64 z) := (hb8.cell (p := ⟨w1.heap.size, 3, none⟩) (by first | (simp; done) | (simp; omega))).trans (by first | (with_reducible assumption) | (simp [go_sem, *]; done)))
              (try go_wp2_with fail)
              refine hK.out _ _ ?_ (fun hHeld2 => ?_)
              · (try dsimp only); exact ⟨by first | (with_reducible assumption) | (simp [go_sem, *]; done), by first | (with_reducible assumption) | (simp [go_sem, *]; done), by first | (with_reducible assumption) | (simp [go_sem, *]; done)⟩
              clear hK K hHeld
              have hHeld := hHeld2
              clear hHeld2
              try simp only [Act.put, List.setIfInBounds_toArray, List.set_cons_zero, List.set_cons_succ]
              refine wpAnyH_take (i := 2) (v := ?_) (by simp only [List.getElem?_toArray, List.getElem?_cons_zero, List.getElem?_cons_succ]; rfl) (by kernel_rfl) (by kernel_rfl) (by kernel_rfl) (by intro _ _ _ h; exact h) (Or.inl ⟨by rfl, ?_⟩) (by assumption) ?_
              rotate_left
              · (intro w9 hSw; (try dsimp only at hSw); go_simp <;> with_reducible rfl)
              try simp only [Act.put, List.setIfInBounds_toArray, List.set_cons_zero, List.set_cons_succ]
              refine wpAnyH_take (i := 3) (v := ?_) (by simp only [List.getElem?_toArray, List.getElem?_cons_zero, List.getElem?_cons_succ]; rfl) (by kernel_rfl) (by kernel_rfl) (by kernel_rfl) (by intro _ _ _ h; exact h) (Or.inl ⟨by rfl, ?_⟩) (by assumption) ?_
              rotate_left
              · (intro w9 hSw; (try dsimp only at hSw); go_simp <;> with_reducible rfl)
              try simp only [Act.put, List.setIfInBounds_toArray, List.set_cons_zero, List.set_cons_succ]
              refine wpAnyH_take (i := 4) (v := ?_) (by simp only [List.getElem?_toArray, List.getElem?_cons_zero, List.getElem?_cons_succ]; rfl) (by kernel_rfl) (by kernel_rfl) (by kernel_rfl) (by intro _ _ _ h; exact h) (Or.inl ⟨by rfl, ?_⟩) (by assumption) ?_
              rotate_left
              · (intro w9 hSw; (try dsimp only at hSw); go_simp <;> with_reducible rfl)
              try simp only [Act.put, List.setIfInBounds_toArray, List.set_cons_zero, List.set_cons_succ]
              refine wpAnyH_take (i := 5) (v := ?_) (by simp only [List.getElem?_toArray, List.getElem?_cons_zero, List.getElem?_cons_succ]; rfl) (by kernel_rfl) (by kernel_rfl) (by kernel_rfl) (by intro _ _ _ h; exact h) (Or.inl ⟨by rfl, ?_⟩) (by assumption) ?_
              rotate_left
              · (intro w9 hSw; (try dsimp only at hSw); go_simp <;> with_reducible rfl)
              try simp only [Act.put, List.setIfInBounds_toArray, List.set_cons_zero, List.set_cons_succ]
              refine wpAnyH_take (i := 6) (v := ?_) (by simp only [List.getElem?_toArray, List.getElem?_cons_zero, List.getElem?_cons_succ]; rfl) (by kernel_rfl) (by kernel_rfl) (by kernel_rfl) (by intro _ _ _ h; exact h) (Or.inl ⟨by rfl, ?_⟩) (by assumption) ?_
              rotate_left
              · (intro w9 hSw; (try dsimp only at hSw); go_simp <;> with_reducible rfl)
              try simp only [Act.put, List.setIfInBounds_toArray, List.set_cons_zero, List.set_cons_succ]
              refine wpAnyH_take (i := 7) (v := ?_) (by simp only [List.getElem?_toArray, List.getElem?_cons_zero, List.getElem?_cons_succ]; rfl) (by kernel_rfl) (by kernel_rfl) (by kernel_rfl) (by intro _ _ _ h; exact h) (Or.inl ⟨by rfl, ?_⟩) (by assumption) ?_
              rotate_left
              · (intro w9 hSw; (try dsimp only at hSw); go_simp <;> with_reducible rfl)
              try simp only [Act.put, List.setIfInBounds_toArray, List.set_cons_zero, List.set_cons_succ]
              refine wpAnyH_take (i := 8) (v := ?_) (by simp only [List.getElem?_toArray, List.getElem?_cons_zero, List.getElem?_cons_succ]; rfl) (by kernel_rfl) (by kernel_rfl) (by kernel_rfl) (by intro _ _ _ h; exact h) (Or.inl ⟨by rfl, ?_⟩) (by assumption) ?_
              rotate_left
              · (intro w9 hSw; (try dsimp only at hSw); go_simp <;> with_reducible rfl)
              try simp only [Act.put, List.setIfInBounds_toArray, List.set_cons_zero, List.set_cons_succ]
              refine wpAnyH_take (i := 9) (v := ?_) (by simp only [List.getElem?_toArray, List.getElem?_cons_zero, List.getElem?_cons_succ]; rfl) (by kernel_rfl) (by kernel_rfl) (by kernel_rfl) (by intro _ _ _ h; exact h) (Or.inl ⟨by rfl, ?_⟩) (by assumption) ?_
              rotate_left
              · (intro w9 hSw; (try dsimp only at hSw); go_simp <;> with_reducible rfl)
              try simp only [Act.put, List.setIfInBounds_toArray, List.set_cons_zero, List.set_cons_succ]
              refine wpAnyH_take (i := 10) (v := ?_) (by simp only [List.getElem?_toArray, List.getElem?_cons_zero, List.getElem?_cons_succ]; rfl) (by kernel_rfl) (by kernel_rfl) (by kernel_rfl) (by intro _ _ _ h; exact h) (Or.inl ⟨by rfl, ?_⟩) (by assumption) ?_
              rotate_left
              · (intro w9 hSw; (try dsimp only at hSw); go_simp <;> with_reducible rfl)
              try simp only [Act.put, List.setIfInBounds_toArray, List.set_cons_zero, List.set_cons_succ]
              refine wpAnyH_take (i := 11) (v := ?_) (by simp only [List.getElem?_toArray, List.getElem?_cons_zero, List.getElem?_cons_succ]; rfl) (by kernel_rfl) (by kernel_rfl) (by kernel_rfl) (by intro _ _ _ h; exact h) (Or.inl ⟨by rfl, ?_⟩) (by assumption) ?_
              rotate_left
              · (intro w9 hSw; (try dsimp only at hSw); go_simp <;> with_reducible rfl)
              try simp only [Act.put, List.setIfInBounds_toArray, List.set_cons_zero, List.set_cons_succ]
              refine wpAnyH_take (i := 12) (v := ?_) (by simp only [List.getElem?_toArray, List.getElem?_cons_zero, List.getElem?_cons_succ]; rfl) (by kernel_rfl) (by kernel_rfl) (by kernel_rfl) (by intro _ _ _ h; exact h) (Or.inl ⟨by rfl, ?_⟩) (by assumption) ?_
              rotate_left
              · (intro w9 hSw; (try dsimp only at hSw); go_simp <;> with_reducible rfl)
              try simp only [Act.put, List.setIfInBounds_toArray, List.set_cons_zero, List.set_cons_succ]
              refine wpAnyH_take (i := 13) (v := ?_) (by simp only [List.getElem?_toArray, List.getElem?_cons_zero, List.getElem?_cons_succ]; rfl) (by kernel_rfl) (by kernel_rfl) (by kernel_rfl) (by intro _ _ _ h; exact h) (Or.inl ⟨by rfl, ?_⟩) (by assumption) ?_
              rotate_left
              · (intro w9 hSw; (try dsimp only at hSw); go_simp <;> with_reducible rfl)
              try simp only [Act.put, List.setIfInBounds_toArray, List.set_cons_zero, List.set_cons_succ]
              refine wpAnyH_take (i := 14) (v := ?_) (by simp only [List.getElem?_toArray, List.getElem?_cons_zero, List.getElem?_cons_succ]; rfl) (by kernel_rfl) (by kernel_rfl) (by kernel_rfl) (by intro _ _ _ h; exact h) (Or.inl ⟨by rfl, ?_⟩) (by assumption) ?_
              rotate_left
              · (intro w9 hSw; (try dsimp only at hSw); go_simp <;> with_reducible rfl)
              try simp only [Act.put, List.setIfInBounds_toArray, List.set_cons_zero, List.set_cons_succ]
              refine wpAnyH_take (i := 15) (v := ?_) (by simp only [List.getElem?_toArray, List.getElem?_cons_zero, List.getElem?_cons_succ]; rfl) (by kernel_rfl) (by kernel_rfl) (by kernel_rfl) (by intro _ _ _ h; exact h) (Or.inl ⟨by rfl, ?_⟩) (by assumption) ?_
              rotate_left
              · (intro w9 hSw; (try dsimp only at hSw); go_simp <;> with_reducible rfl)
              try simp only [Act.put, List.setIfInBounds_toArray, List.set_cons_zero, List.set_cons_succ]
              refine wpAnyH_take (i := 16) (v := ?_) (by simp only [List.getElem?_toArray, List.getElem?_cons_zero, List.getElem?_cons_succ]; rfl) (by kernel_rfl) (by kernel_rfl) (by kernel_rfl) (by intro _ _ _ h; exact h) (Or.inl ⟨by rfl, ?_⟩) (by assumption) ?_
              rotate_left
              · (intro w9 hSw; (try dsimp only at hSw); go_simp <;> with_reducible rfl)
              try simp only [Act.put, List.setIfInBounds_toArray, List.set_cons_zero, List.set_cons_succ]
              refine wpAnyH_take (i := 17) (v := ?_) (by simp only [List.getElem?_toArray, List.getElem?_cons_zero, List.getElem?_cons_succ]; rfl) (by kernel_rfl) (by kernel_rfl) (by kernel_rfl) (by intro _ _ _ h; exact h) (Or.inl ⟨by rfl, ?_⟩) (by assumption) ?_
              rotate_left
              · (intro w9 hSw; (try dsimp only at hSw); go_simp <;> with_reducible rfl)
              try simp only [Act.put, List.setIfInBounds_toArray, List.set_cons_zero, List.set_cons_succ]
              refine wpAnyH_take (i := 18) (v := ?_) (by simp only [List.getElem?_toArray, List.getElem?_cons_zero, List.getElem?_cons_succ]; rfl) (by kernel_rfl) (by kernel_rfl) (by kernel_rfl) (by intro _ _ _ h; exact h) (Or.inl ⟨by rfl, ?_⟩) (by assumption) ?_
              rotate_left
              · (intro w9 hSw; (try dsimp only at hSw); go_simp <;> with_reducible rfl)
              try simp only [Act.put, List.setIfInBounds_toArray, List.set_cons_zero, List.set_cons_succ]
              refine wpAnyH_take (i := 19) (v := ?_) (by simp only [List.getElem?_toArray, List.getElem?_cons_zero, List.getElem?_cons_succ]; rfl) (by kernel_rfl) (by kernel_rfl) (by kernel_rfl) (by intro _ _ _ h; exact h) (Or.inl ⟨by rfl, ?_⟩) (by assumption) ?_
              rotate_left
              · (intro w9 hSw; (try dsimp only at hSw); go_simp <;> with_reducible rfl)
              try simp only [Act.put, List.setIfInBounds_toArray, List.set_cons_zero, List.set_cons_succ]
              refine wpAnyH_take (i := 20) (v := ?_) (by simp only [List.getElem?_toArray, List.getElem?_cons_zero, List.getElem?_cons_succ]; rfl) (by kernel_rfl) (by kernel_rfl) (by kernel_rfl) (by intro _ _ _ h; exact h) (Or.inl ⟨by rfl, ?_⟩) (by assumption) ?_
              rotate_left
              · (intro w9 hSw; (try dsimp only at hSw); go_simp <;> with_reducible rfl)
              try simp only [Act.put, List.setIfInBounds_toArray, List.set_cons_zero, List.set_cons_succ]
              refine wpAnyH_take (i := 21) (v := ?_) (by simp only [List.getElem?_toArray, List.getElem?_cons_zero, List.getElem?_cons_succ]; rfl) (by kernel_rfl) (by kernel_rfl) (by kernel_rfl) (by intro _ _ _ h; exact h) (Or.inl ⟨by rfl, ?_⟩) (by assumption) ?_
              rotate_left
              · (intro w9 hSw; (try dsimp only at hSw); go_simp <;> with_reducible rfl)
              try simp only [Act.put, List.setIfInBounds_toArray, List.set_cons_zero, List.set_cons_succ]
              refine wpAnyH_take (i := 22) (v := ?_) (by simp only [List.getElem?_toArray, List.getElem?_cons_zero, List.getElem?_cons_succ]; rfl) (by kernel_rfl) (by kernel_rfl) (by kernel_rfl) (by intro _ _ _ h; exact h) (Or.inl ⟨by rfl, ?_⟩) (by assumption) ?_
              rotate_left
              · (intro w9 hSw; (try dsimp only at hSw); go_simp <;> with_reducible rfl)
              try simp only [Act.put, List.setIfInBounds_toArray, List.set_cons_zero, List.set_cons_succ]
              refine wpAnyH_take (i := 23) (v := ?_) (by simp only [List.getElem?_toArray, List.getElem?_cons_zero, List.getElem?_cons_succ]; rfl) (by kernel_rfl) (by kernel_rfl) (by kernel_rfl) (by intro _ _ _ h; exact h) (Or.inl ⟨by rfl, ?_⟩) (by assumption) ?_
              rotate_left
              · (intro w9 hSw; (try dsimp only at hSw); go_simp <;> with_reducible rfl)
              try simp only [Act.put, List.setIfInBounds_toArray, List.set_cons_zero, List.set_cons_succ]
              refine wpAnyH_take (i := 24) (v := ?_) (by simp only [List.getElem?_toArray, List.getElem?_cons_zero, List.getElem?_cons_succ]; rfl) (by kernel_rfl) (by kernel_rfl) (by kernel_rfl) (by intro _ _ _ h; exact h) (Or.inl ⟨by rfl, ?_⟩) (by assumption) ?_
              rotate_left
              · (intro w9 hSw; (try dsimp only at hSw); go_simp <;> with_reducible rfl)
              try simp only [Act.put, List.setIfInBounds_toArray, List.set_cons_zero, List.set_cons_succ]
              refine wpAnyH_take (i := 25) (v := ?_) (by simp only [List.getElem?_toArray, List.getElem?_cons_zero, List.getElem?_cons_succ]; rfl) (by kernel_rfl) (by kernel_rfl) (by kernel_rfl) (by intro _ _ _ h; exact h) (Or.inl ⟨by rfl, ?_⟩) (by assumption) ?_
              rotate_left
              · (intro w9 hSw; (try dsimp only at hSw); go_simp <;> with_reducible rfl)
              try simp only [Act.put, List.setIfInBounds_toArray, List.set_cons_zero, List.set_cons_succ]
              refine wpAnyH_take (i := 26) (v := ?_) (by simp only [List.getElem?_toArray, List.getElem?_cons_zero, List.getElem?_cons_succ]; rfl) (by kernel_rfl) (by kernel_rfl) (by kernel_rfl) (by intro _ _ _ h; exact h) (Or.inl ⟨by rfl, ?_⟩) (by assumption) ?_
              rotate_left
              · (intro w9 hSw; (try dsimp only at hSw); go_simp <;> with_reducible rfl)
              try simp only [Act.put, List.setIfInBounds_toArray, List.set_cons_zero, List.set_cons_succ]
              refine wpAnyH_take (i := 27) (v := ?_) (by simp only [List.getElem?_toArray, List.getElem?_cons_zero, List.getElem?_cons_succ]; rfl) (by kernel_rfl) (by kernel_rfl) (by kernel_rfl) (by intro _ _ _ h; exact h) (Or.inl ⟨by rfl, ?_⟩) (by assumption) ?_
              rotate_left
              · (intro w9 hSw; (try dsimp only at hSw); go_simp <;> with_reducible rfl)
              try simp only [Act.put, List.setIfInBounds_toArray, List.set_cons_zero, List.set_cons_succ]
              refine wpAnyH_take (i := 28) (v := ?_) (by simp only [List.getElem?_toArray, List.getElem?_cons_zero, List.getElem?_cons_succ]; rfl) (by kernel_rfl) (by kernel_rfl) (by kernel_rfl) (by intro _ _ _ h; exact h) (Or.inl ⟨by rfl, ?_⟩) (by assumption) ?_
              rotate_left
              · (intro w9 hSw; (try dsimp only at hSw); go_simp <;> with_reducible rfl)
              try simp only [Act.put, List.setIfInBounds_toArray, List.set_cons_zero, List.set_cons_succ]
              refine wpAnyH_take (i := 29) (v := undef) (by simp only [List.getElem?_toArray, List.getElem?_cons_zero, List.getElem?_cons_succ]; rfl) (by kernel_rfl) (by kernel_rfl) (by kernel_rfl) (by intro _ _ _ h; exact h) (Or.inr ⟨by rfl, rfl⟩) (by assumption) ?_
              try simp only [Act.put, List.setIfInBounds_toArray, List.set_cons_zero, List.set_cons_succ]
              refine wpAnyH_take (i := 30) (v := undef) (by simp only [List.getElem?_toArray, List.getElem?_cons_zero, List.getElem?_cons_succ]; rfl) (by kernel_rfl) (by kernel_rfl) (by kernel_rfl) (by intro _ _ _ h; exact h) (Or.inr ⟨by rfl, rfl⟩) (by assumption) ?_
              try simp only [Act.put, List.setIfInBounds_toArray, List.set_cons_zero, List.set_cons_succ]
              refine wpAnyH_take (i := 31) (v := undef) (by simp only [List.getElem?_toArray, List.getElem?_cons_zero, List.getElem?_cons_succ]; rfl) (by kernel_rfl) (by kernel_rfl) (by kernel_rfl) (by intro _ _ _ h; exact h) (Or.inr ⟨by rfl, rfl⟩) (by assumption) ?_
              try simp only [Act.put, List.setIfInBounds_toArray, List.set_cons_zero, List.set_cons_succ]
              refine wpAnyH_take (i := 32) (v := undef) (by simp only [List.getElem?_toArray, List.getElem?_cons_zero, List.getElem?_cons_succ]; rfl) (by kernel_rfl) (by kernel_rfl) (by kernel_rfl) (by intro _ _ _ h; exact h) (Or.inr ⟨by rfl, rfl⟩) (by assumption) ?_
              try simp only [Act.put, List.setIfInBounds_toArray, List.set_cons_zero, List.set_cons_succ]
              refine wpAnyH_take (i := 33) (v := undef) (by simp only [List.getElem?_toArray, List.getElem?_cons_zero, List.getElem?_cons_succ]; rfl) (by kernel_rfl) (by kernel_rfl) (by kernel_rfl) (by intro _ _ _ h; exact h) (Or.inr ⟨by rfl, rfl⟩) (by assumption) ?_
              try simp only [Act.put, List.setIfInBounds_toArray, List.set_cons_zero, List.set_cons_succ]
              refine wpAnyH_take (i := 34) (v := undef) (by simp only [List.getElem?_toArray, List.getElem?_cons_zero, List.getElem?_cons_succ]; rfl) (by kernel_rfl) (by kernel_rfl) (by kernel_rfl) (by intro _ _ _ h; exact h) (Or.inr ⟨by rfl, rfl⟩) (by assumption) ?_
              try simp only [Act.put, List.setIfInBounds_toArray, List.set_cons_zero, List.set_cons_succ]
              refine wpAnyH_take (i := 35) (v := undef) (by simp only [List.getElem?_toArray, List.getElem?_cons_zero, List.getElem?_cons_succ]; rfl) (by kernel_rfl) (by kernel_rfl) (by kernel_rfl) (by intro _ _ _ h; exact h) (Or.inr ⟨by rfl, rfl⟩) (by assumption) ?_
              try simp only [Act.put, List.setIfInBounds_toArray, List.set_cons_zero, List.set_cons_succ]
              refine wpAnyH_take (i := 36) (v := undef) (by simp only [List.getElem?_toArray, List.getElem?_cons_zero, List.getElem?_cons_succ]; rfl) (by kernel_rfl) (by kernel_rfl) (by kernel_rfl) (by intro _ _ _ h; exact h) (Or.inr ⟨by rfl, rfl⟩) (by assumption) ?_
              try simp only [Act.put, List.setIfInBounds_toArray, List.set_cons_zero, List.set_cons_succ]
              refine wpAnyH_take (i := 37) (v := undef) (by simp only [List.getElem?_toArray, List.getElem?_cons_zero, List.getElem?_cons_succ]; rfl) (by kernel_rfl) (by kernel_rfl) (by kernel_rfl) (by intro _ _ _ h; exact h) (Or.inr ⟨by rfl, rfl⟩) (by assumption) ?_
              try simp only [Act.put, List.setIfInBounds_toArray, List.set_cons_zero, List.set_cons_succ]
              refine wpAnyH_take (i := 38) (v := ?_) (by simp only [List.getElem?_toArray, List.getElem?_cons_zero, List.getElem?_cons_succ]; rfl) (by kernel_rfl) (by kernel_rfl) (by kernel_rfl) (by intro _ _ _ h; exact h) (Or.inl ⟨by rfl, ?_⟩) (by assumption) ?_
              rotate_left
              · (intro w9 hSw; (try dsimp only at hSw); go_simp <;> with_reducible rfl)
              try simp only [Act.put, List.setIfInBounds_toArray, List.set_cons_zero, List.set_cons_succ]
              refine wpAnyH_take (i := 39) (v := ?_) (by simp only [List.getElem?_toArray, List.getElem?_cons_zero, List.getElem?_cons_succ]; rfl) (by kernel_rfl) (by kernel_rfl) (by kernel_rfl) (by intro _ _ _ h; exact h) (Or.inl ⟨by rfl, ?_⟩) (by assumption) ?_
              rotate_left
              · (intro w9 hSw; (try dsimp only at hSw); go_simp <;> with_reducible rfl)
              try simp only [Act.put, List.setIfInBounds_toArray, List.set_cons_zero, List.set_cons_succ]
              refine wpAnyH_done (by kernel_rfl) ?_ _
              have b8 : Below w7.heap.size w7 w8 := bel_trans (bel_alloc hbw (.cells #[.int .i64 A, .int .i64 (A + z)] 33)) (bel_trans (bel_drew (Below.refl _ _)) hb8)
              have t2 : w8.cell? ⟨w1.heap.size, 2, none⟩ = some (.int .i64 3) := (b8.cell (p := ⟨w1.heap.size, 2, none⟩) z7).trans x2
              have t4 : w8.cell? ⟨w1.heap.size, 4, none⟩ = some (.int .i64 q) := (b8.cell (p := ⟨w1.heap.size, 4, none⟩) z7).trans x4
              clear hHeld
              go_wp2
              go_roundw
              case rel => exact ⟨0 + 1, by go_num, by omega, (by repeat (first | (with_reducible exact Below.refl _ _) | (with_reducible assumption) | (with_reducible refine bel_set ?_ (by first | (simp; done) | (simp; omega)) _) | (with_reducible refine bel_alloc ?_ _) | (with_reducible refine bel_drew ?_)))⟩
              case measure => simp [intOf]; omega
            · have m1 : A.tmod q = 0 := by rw [Int.tmod_eq_emod_of_nonneg wlo]; exact wk2 rfl
              have m2 : A % q = 0 := wk2 rfl
              obtain ⟨q1, q2, q3⟩ := hkp rfl
              have m3 : ¬ q = 0 := by omega
              go_wp2_with fail
              refine wp_region_held_drew (S := (fun W => W.cell? ⟨wr.heap.size, 0, none⟩ = some (.int .i64 A) ∧ W.cell? ⟨wr.heap.size, 1, none⟩ = some (.int .i64 (A + z)) ∧ W.cell? ⟨w1.heap.size, 3, none⟩ = some (.int .i64 z))) (by kernel_rfl) ?_ (fun hHeld => ?_)
              · (try dsimp only); exact ⟨by first | (with_reducible assumption) | (simp [go_sem, *]; done), by first | (with_reducible assumption) | (simp [go_sem, *]; done), by first | (with_reducible assumption) | (simp [go_sem, *]; done)⟩
              refine wpAnyH_take (i := 0) (v := ?_) (by simp only [List.getElem?_toArray, List.getElem?_cons_zero, List.getElem?_cons_succ]; rfl) (by kernel_rfl) (by kernel_rfl) (by kernel_rfl) (by intro _ _ _ h; exact h) (Or.inl ⟨by rfl, ?_⟩) (by assumption) ?_
              rotate_left
              · (intro w9 hSw; (try dsimp only at hSw); go_simp <;> with_reducible rfl)
              try simp only [Act.put, List.setIfInBounds_toArray, List.set_cons_zero, List.set_cons_succ]
              refine wpAnyH_ready (rs := [1]) (by kernel_rfl) (by simp) ?_
              refine AllReadyH.cons (by simp only [List.getElem?_toArray, List.getElem?_cons_zero, List.getElem?_cons_succ]; rfl) (fun K hK => ?_) AllReadyH.nil
              go_simp
              (go_at_call 13; refine (winok_is A (A + z) _ (hide hok)).mono ?_; rintro e' w8 ⟨rfl, hb8⟩; have z8 : wr.heap.size < w8.heap.size := (by have h9 := hb8.size; (try simp at h9); omega); have s0 : w8.cell? ⟨wr.heap.size, 0, none⟩ = some (.int .i64 A) := (hb8.cell (p := ⟨wr.heap.size, 0, none⟩) (by first | (simp; done) | (simp; omega))).trans (by first | (with_reducible assumption) | (simp [go_sem, *]; done)); have s1 : w8.cell? ⟨wr.heap.size, 1, none⟩ = some (.int .i64 (A + z)) := (hb8.cell (p := ⟨wr.heap.size, 1, none⟩) (by first | (simp; done) | (simp; omega))).trans (by first | (with_reducible assumption) | (simp [go_sem, *]; done)); have s2 : w8.cell? ⟨w1.heap.size, 3, none⟩ = some (.int .i64 z) := (hb8.cell (p := ⟨w1.heap.size, 3, none⟩) (by first | (simp; done) | (simp; omega))).trans (by first | (with_reducible assumption) | (simp [go_sem, *]; done)))
              (try go_wp2_with fail)
              refine hK.out _ _ ?_ (fun hHeld2 => ?_)
              · (try dsimp only); exact ⟨by first | (with_reducible assumption) | (simp [go_sem, *]; done), by first | (with_reducible assumption) | (simp [go_sem, *]; done), by first | (with_reducible assumption) | (simp [go_sem, *]; done)⟩
              clear hK K hHeld
              have hHeld := hHeld2
              clear hHeld2
              try simp only [Act.put, List.setIfInBounds_toArray, List.set_cons_zero, List.set_cons_succ]
              refine wpAnyH_take (i := 2) (v := ?_) (by simp only [List.getElem?_toArray, List.getElem?_cons_zero, List.getElem?_cons_succ]; rfl) (by kernel_rfl) (by kernel_rfl) (by kernel_rfl) (by intro _ _ _ h; exact h) (Or.inl ⟨by rfl, ?_⟩) (by assumption) ?_
              rotate_left
              · (intro w9 hSw; (try dsimp only at hSw); go_simp <;> with_reducible rfl)
              try simp only [Act.put, List.setIfInBounds_toArray, List.set_cons_zero, List.set_cons_succ]
              refine wpAnyH_take (i := 3) (v := ?_) (by simp only [List.getElem?_toArray, List.getElem?_cons_zero, List.getElem?_cons_succ]; rfl) (by kernel_rfl) (by kernel_rfl) (by kernel_rfl) (by intro _ _ _ h; exact h) (Or.inl ⟨by rfl, ?_⟩) (by assumption) ?_
              rotate_left
              · (intro w9 hSw; (try dsimp only at hSw); go_simp <;> with_reducible rfl)
              try simp only [Act.put, List.setIfInBounds_toArray, List.set_cons_zero, List.set_cons_succ]
              refine wpAnyH_take (i := 4) (v := ?_) (by simp only [List.getElem?_toArray, List.getElem?_cons_zero, List.getElem?_cons_succ]; rfl) (by kernel_rfl) (by kernel_rfl) (by kernel_rfl) (by intro _ _ _ h; exact h) (Or.inl ⟨by rfl, ?_⟩) (by assumption) ?_
              rotate_left
              · (intro w9 hSw; (try dsimp only at hSw); go_simp <;> with_reducible rfl)
              try simp only [Act.put, List.setIfInBounds_toArray, List.set_cons_zero, List.set_cons_succ]
              refine wpAnyH_take (i := 5) (v := ?_) (by simp only [List.getElem?_toArray, List.getElem?_cons_zero, List.getElem?_cons_succ]; rfl) (by kernel_rfl) (by kernel_rfl) (by kernel_rfl) (by intro _ _ _ h; exact h) (Or.inl ⟨by rfl, ?_⟩) (by assumption) ?_
              rotate_left
              · (intro w9 hSw; (try dsimp only at hSw); go_simp <;> with_reducible rfl)
              try simp only [Act.put, List.setIfInBounds_toArray, List.set_cons_zero, List.set_cons_succ]
              refine wpAnyH_take (i := 6) (v := ?_) (by simp only [List.getElem?_toArray, List.getElem?_cons_zero, List.getElem?_cons_succ]; rfl) (by kernel_rfl) (by kernel_rfl) (by kernel_rfl) (by intro _ _ _ h; exact h) (Or.inl ⟨by rfl, ?_⟩) (by assumption) ?_
              rotate_left
              · (intro w9 hSw; (try dsimp only at hSw); go_simp <;> with_reducible rfl)
              try simp only [Act.put, List.setIfInBounds_toArray, List.set_cons_zero, List.set_cons_succ]
              refine wpAnyH_take (i := 7) (v := ?_) (by simp only [List.getElem?_toArray, List.getElem?_cons_zero, List.getElem?_cons_succ]; rfl) (by kernel_rfl) (by kernel_rfl) (by kernel_rfl) (by intro _ _ _ h; exact h) (Or.inl ⟨by rfl, ?_⟩) (by assumption) ?_
              rotate_left
              · (intro w9 hSw; (try dsimp only at hSw); go_simp <;> with_reducible rfl)
              try simp only [Act.put, List.setIfInBounds_toArray, List.set_cons_zero, List.set_cons_succ]
              refine wpAnyH_take (i := 8) (v := ?_) (by simp only [List.getElem?_toArray, List.getElem?_cons_zero, List.getElem?_cons_succ]; rfl) (by kernel_rfl) (by kernel_rfl) (by kernel_rfl) (by intro _ _ _ h; exact h) (Or.inl ⟨by rfl, ?_⟩) (by assumption) ?_
              rotate_left
              · (intro w9 hSw; (try dsimp only at hSw); go_simp <;> with_reducible rfl)
              try simp only [Act.put, List.setIfInBounds_toArray, List.set_cons_zero, List.set_cons_succ]
              refine wpAnyH_take (i := 9) (v := ?_) (by simp only [List.getElem?_toArray, List.getElem?_cons_zero, List.getElem?_cons_succ]; rfl) (by kernel_rfl) (by kernel_rfl) (by kernel_rfl) (by intro _ _ _ h; exact h) (Or.inl ⟨by rfl, ?_⟩) (by assumption) ?_
              rotate_left
              · (intro w9 hSw; (try dsimp only at hSw); go_simp <;> with_reducible rfl)
              try simp only [Act.put, List.setIfInBounds_toArray, List.set_cons_zero, List.set_cons_succ]
              refine wpAnyH_take (i := 10) (v := ?_) (by simp only [List.getElem?_toArray, List.getElem?_cons_zero, List.getElem?_cons_succ]; rfl) (by kernel_rfl) (by kernel_rfl) (by kernel_rfl) (by intro _ _ _ h; exact h) (Or.inl ⟨by rfl, ?_⟩) (by assumption) ?_
              rotate_left
              · (intro w9 hSw; (try dsimp only at hSw); go_simp <;> with_reducible rfl)
              try simp only [Act.put, List.setIfInBounds_toArray, List.set_cons_zero, List.set_cons_succ]
              refine wpAnyH_take (i := 11) (v := ?_) (by simp only [List.getElem?_toArray, List.getElem?_cons_zero, List.getElem?_cons_succ]; rfl) (by kernel_rfl) (by kernel_rfl) (by kernel_rfl) (by intro _ _ _ h; exact h) (Or.inl ⟨by rfl, ?_⟩) (by assumption) ?_
              rotate_left
              · (intro w9 hSw; (try dsimp only at hSw); go_simp <;> with_reducible rfl)
              try simp only [Act.put, List.setIfInBounds_toArray, List.set_cons_zero, List.set_cons_succ]
              refine wpAnyH_take (i := 12) (v := ?_) (by simp only [List.getElem?_toArray, List.getElem?_cons_zero, List.getElem?_cons_succ]; rfl) (by kernel_rfl) (by kernel_rfl) (by kernel_rfl) (by intro _ _ _ h; exact h) (Or.inl ⟨by rfl, ?_⟩) (by assumption) ?_
              rotate_left
              · (intro w9 hSw; (try dsimp only at hSw); go_simp <;> with_reducible rfl)
              try simp only [Act.put, List.setIfInBounds_toArray, List.set_cons_zero, List.set_cons_succ]
              refine wpAnyH_take (i := 13) (v := ?_) (by simp only [List.getElem?_toArray, List.getElem?_cons_zero, List.getElem?_cons_succ]; rfl) (by kernel_rfl) (by kernel_rfl) (by kernel_rfl) (by intro _ _ _ h; exact h) (Or.inl ⟨by rfl, ?_⟩) (by assumption) ?_
              rotate_left
              · (intro w9 hSw; (try dsimp only at hSw); go_simp <;> with_reducible rfl)
              try simp only [Act.put, List.setIfInBounds_toArray, List.set_cons_zero, List.set_cons_succ]
              refine wpAnyH_take (i := 14) (v := ?_) (by simp only [List.getElem?_toArray, List.getElem?_cons_zero, List.getElem?_cons_succ]; rfl) (by kernel_rfl) (by kernel_rfl) (by kernel_rfl) (by intro _ _ _ h; exact h) (Or.inl ⟨by rfl, ?_⟩) (by assumption) ?_
              rotate_left
              · (intro w9 hSw; (try dsimp only at hSw); go_simp <;> with_reducible rfl)
              try simp only [Act.put, List.setIfInBounds_toArray, List.set_cons_zero, List.set_cons_succ]
              refine wpAnyH_take (i := 15) (v := ?_) (by simp only [List.getElem?_toArray, List.getElem?_cons_zero, List.getElem?_cons_succ]; rfl) (by kernel_rfl) (by kernel_rfl) (by kernel_rfl) (by intro _ _ _ h; exact h) (Or.inl ⟨by rfl, ?_⟩) (by assumption) ?_
              rotate_left
              · (intro w9 hSw; (try dsimp only at hSw); go_simp <;> with_reducible rfl)
              try simp only [Act.put, List.setIfInBounds_toArray, List.set_cons_zero, List.set_cons_succ]
              refine wpAnyH_take (i := 16) (v := ?_) (by simp only [List.getElem?_toArray, List.getElem?_cons_zero, List.getElem?_cons_succ]; rfl) (by kernel_rfl) (by kernel_rfl) (by kernel_rfl) (by intro _ _ _ h; exact h) (Or.inl ⟨by rfl, ?_⟩) (by assumption) ?_
              rotate_left
              · (intro w9 hSw; (try dsimp only at hSw); go_simp <;> with_reducible rfl)
              try simp only [Act.put, List.setIfInBounds_toArray, List.set_cons_zero, List.set_cons_succ]
              refine wpAnyH_take (i := 17) (v := ?_) (by simp only [List.getElem?_toArray, List.getElem?_cons_zero, List.getElem?_cons_succ]; rfl) (by kernel_rfl) (by kernel_rfl) (by kernel_rfl) (by intro _ _ _ h; exact h) (Or.inl ⟨by rfl, ?_⟩) (by assumption) ?_
              rotate_left
              · (intro w9 hSw; (try dsimp only at hSw); go_simp <;> with_reducible rfl)
              try simp only [Act.put, List.setIfInBounds_toArray, List.set_cons_zero, List.set_cons_succ]
              refine wpAnyH_take (i := 18) (v := ?_) (by simp only [List.getElem?_toArray, List.getElem?_cons_zero, List.getElem?_cons_succ]; rfl) (by kernel_rfl) (by kernel_rfl) (by kernel_rfl) (by intro _ _ _ h; exact h) (Or.inl ⟨by rfl, ?_⟩) (by assumption) ?_
              rotate_left
              · (intro w9 hSw; (try dsimp only at hSw); go_simp <;> with_reducible rfl)
              try simp only [Act.put, List.setIfInBounds_toArray, List.set_cons_zero, List.set_cons_succ]
              refine wpAnyH_take (i := 19) (v := ?_) (by simp only [List.getElem?_toArray, List.getElem?_cons_zero, List.getElem?_cons_succ]; rfl) (by kernel_rfl) (by kernel_rfl) (by kernel_rfl) (by intro _ _ _ h; exact h) (Or.inl ⟨by rfl, ?_⟩) (by assumption) ?_
              rotate_left
              · (intro w9 hSw; (try dsimp only at hSw); go_simp <;> with_reducible rfl)
              try simp only [Act.put, List.setIfInBounds_toArray, List.set_cons_zero, List.set_cons_succ]
              refine wpAnyH_take (i := 20) (v := ?_) (by simp only [List.getElem?_toArray, List.getElem?_cons_zero, List.getElem?_cons_succ]; rfl) (by kernel_rfl) (by kernel_rfl) (by kernel_rfl) (by intro _ _ _ h; exact h) (Or.inl ⟨by rfl, ?_⟩) (by assumption) ?_
              rotate_left
              · (intro w9 hSw; (try dsimp only at hSw); go_simp <;> with_reducible rfl)
              try simp only [Act.put, List.setIfInBounds_toArray, List.set_cons_zero, List.set_cons_succ]
              refine wpAnyH_take (i := 21) (v := ?_) (by simp only [List.getElem?_toArray, List.getElem?_cons_zero, List.getElem?_cons_succ]; rfl) (by kernel_rfl) (by kernel_rfl) (by kernel_rfl) (by intro _ _ _ h; exact h) (Or.inl ⟨by rfl, ?_⟩) (by assumption) ?_
              rotate_left
              · (intro w9 hSw; (try dsimp only at hSw); go_simp <;> with_reducible rfl)
              try simp only [Act.put, List.setIfInBounds_toArray, List.set_cons_zero, List.set_cons_succ]
              refine wpAnyH_take (i := 22) (v := ?_) (by simp only [List.getElem?_toArray, List.getElem?_cons_zero, List.getElem?_cons_succ]; rfl) (by kernel_rfl) (by kernel_rfl) (by kernel_rfl) (by intro _ _ _ h; exact h) (Or.inl ⟨by rfl, ?_⟩) (by assumption) ?_
              rotate_left
              · (intro w9 hSw; (try dsimp only at hSw); go_simp <;> with_reducible rfl)
              try simp only [Act.put, List.setIfInBounds_toArray, List.set_cons_zero, List.set_cons_succ]
              refine wpAnyH_take (i := 23) (v := ?_) (by simp only [List.getElem?_toArray, List.getElem?_cons_zero, List.getElem?_cons_succ]; rfl) (by kernel_rfl) (by kernel_rfl) (by kernel_rfl) (by intro _ _ _ h; exact h) (Or.inl ⟨by rfl, ?_⟩) (by assumption) ?_
              rotate_left
              · (intro w9 hSw; (try dsimp only at hSw); go_simp <;> with_reducible rfl)
              try simp only [Act.put, List.setIfInBounds_toArray, List.set_cons_zero, List.set_cons_succ]
              refine wpAnyH_take (i := 24) (v := ?_) (by simp only [List.getElem?_toArray, List.getElem?_cons_zero, List.getElem?_cons_succ]; rfl) (by kernel_rfl) (by kernel_rfl) (by kernel_rfl) (by intro _ _ _ h; exact h) (Or.inl ⟨by rfl, ?_⟩) (by assumption) ?_
              rotate_left
              · (intro w9 hSw; (try dsimp only at hSw); go_simp <;> with_reducible rfl)
              try simp only [Act.put, List.setIfInBounds_toArray, List.set_cons_zero, List.set_cons_succ]
              refine wpAnyH_take (i := 25) (v := ?_) (by simp only [List.getElem?_toArray, List.getElem?_cons_zero, List.getElem?_cons_succ]; rfl) (by kernel_rfl) (by kernel_rfl) (by kernel_rfl) (by intro _ _ _ h; exact h) (Or.inl ⟨by rfl, ?_⟩) (by assumption) ?_
              rotate_left
              · (intro w9 hSw; (try dsimp only at hSw); go_simp <;> with_reducible rfl)
              try simp only [Act.put, List.setIfInBounds_toArray, List.set_cons_zero, List.set_cons_succ]
              refine wpAnyH_take (i := 26) (v := ?_) (by simp only [List.getElem?_toArray, List.getElem?_cons_zero, List.getElem?_cons_succ]; rfl) (by kernel_rfl) (by kernel_rfl) (by kernel_rfl) (by intro _ _ _ h; exact h) (Or.inl ⟨by rfl, ?_⟩) (by assumption) ?_
              rotate_left
              · (intro w9 hSw; (try dsimp only at hSw); go_simp <;> with_reducible rfl)
              try simp only [Act.put, List.setIfInBounds_toArray, List.set_cons_zero, List.set_cons_succ]
              refine wpAnyH_take (i := 27) (v := ?_) (by simp only [List.getElem?_toArray, List.getElem?_cons_zero, List.getElem?_cons_succ]; rfl) (by kernel_rfl) (by kernel_rfl) (by kernel_rfl) (by intro _ _ _ h; exact h) (Or.inl ⟨by rfl, ?_⟩) (by assumption) ?_
              rotate_left
              · (intro w9 hSw; (try dsimp only at hSw); go_simp <;> with_reducible rfl)
              try simp only [Act.put, List.setIfInBounds_toArray, List.set_cons_zero, List.set_cons_succ]
              refine wpAnyH_take (i := 28) (v := ?_) (by simp only [List.getElem?_toArray, List.getElem?_cons_zero, List.getElem?_cons_succ]; rfl) (by kernel_rfl) (by kernel_rfl) (by kernel_rfl) (by intro _ _ _ h; exact h) (Or.inl ⟨by rfl, ?_⟩) (by assumption) ?_
              rotate_left
              · (intro w9 hSw; (try dsimp only at hSw); go_simp <;> with_reducible rfl)
              try simp only [Act.put, List.setIfInBounds_toArray, List.set_cons_zero, List.set_cons_succ]
              refine wpAnyH_take (i := 29) (v := undef) (by simp only [List.getElem?_toArray, List.getElem?_cons_zero, List.getElem?_cons_succ]; rfl) (by kernel_rfl) (by kernel_rfl) (by kernel_rfl) (by intro _ _ _ h; exact h) (Or.inr ⟨by rfl, rfl⟩) (by assumption) ?_
              try simp only [Act.put, List.setIfInBounds_toArray, List.set_cons_zero, List.set_cons_succ]
              refine wpAnyH_take (i := 30) (v := undef) (by simp only [List.getElem?_toArray, List.getElem?_cons_zero, List.getElem?_cons_succ]; rfl) (by kernel_rfl) (by kernel_rfl) (by kernel_rfl) (by intro _ _ _ h; exact h) (Or.inr ⟨by rfl, rfl⟩) (by assumption) ?_
              try simp only [Act.put, List.setIfInBounds_toArray, List.set_cons_zero, List.set_cons_succ]
              refine wpAnyH_take (i := 31) (v := undef) (by simp only [List.getElem?_toArray, List.getElem?_cons_zero, List.getElem?_cons_succ]; rfl) (by kernel_rfl) (by kernel_rfl) (by kernel_rfl) (by intro _ _ _ h; exact h) (Or.inr ⟨by rfl, rfl⟩) (by assumption) ?_
              try simp only [Act.put, List.setIfInBounds_toArray, List.set_cons_zero, List.set_cons_succ]
              refine wpAnyH_take (i := 32) (v := undef) (by simp only [List.getElem?_toArray, List.getElem?_cons_zero, List.getElem?_cons_succ]; rfl) (by kernel_rfl) (by kernel_rfl) (by kernel_rfl) (by intro _ _ _ h; exact h) (Or.inr ⟨by rfl, rfl⟩) (by assumption) ?_
              try simp only [Act.put, List.setIfInBounds_toArray, List.set_cons_zero, List.set_cons_succ]
              refine wpAnyH_take (i := 33) (v := undef) (by simp only [List.getElem?_toArray, List.getElem?_cons_zero, List.getElem?_cons_succ]; rfl) (by kernel_rfl) (by kernel_rfl) (by kernel_rfl) (by intro _ _ _ h; exact h) (Or.inr ⟨by rfl, rfl⟩) (by assumption) ?_
              try simp only [Act.put, List.setIfInBounds_toArray, List.set_cons_zero, List.set_cons_succ]
              refine wpAnyH_take (i := 34) (v := undef) (by simp only [List.getElem?_toArray, List.getElem?_cons_zero, List.getElem?_cons_succ]; rfl) (by kernel_rfl) (by kernel_rfl) (by kernel_rfl) (by intro _ _ _ h; exact h) (Or.inr ⟨by rfl, rfl⟩) (by assumption) ?_
              try simp only [Act.put, List.setIfInBounds_toArray, List.set_cons_zero, List.set_cons_succ]
              refine wpAnyH_take (i := 35) (v := undef) (by simp only [List.getElem?_toArray, List.getElem?_cons_zero, List.getElem?_cons_succ]; rfl) (by kernel_rfl) (by kernel_rfl) (by kernel_rfl) (by intro _ _ _ h; exact h) (Or.inr ⟨by rfl, rfl⟩) (by assumption) ?_
              try simp only [Act.put, List.setIfInBounds_toArray, List.set_cons_zero, List.set_cons_succ]
              refine wpAnyH_take (i := 36) (v := undef) (by simp only [List.getElem?_toArray, List.getElem?_cons_zero, List.getElem?_cons_succ]; rfl) (by kernel_rfl) (by kernel_rfl) (by kernel_rfl) (by intro _ _ _ h; exact h) (Or.inr ⟨by rfl, rfl⟩) (by assumption) ?_
              try simp only [Act.put, List.setIfInBounds_toArray, List.set_cons_zero, List.set_cons_succ]
              refine wpAnyH_take (i := 37) (v := undef) (by simp only [List.getElem?_toArray, List.getElem?_cons_zero, List.getElem?_cons_succ]; rfl) (by kernel_rfl) (by kernel_rfl) (by kernel_rfl) (by intro _ _ _ h; exact h) (Or.inr ⟨by rfl, rfl⟩) (by assumption) ?_
              try simp only [Act.put, List.setIfInBounds_toArray, List.set_cons_zero, List.set_cons_succ]
              refine wpAnyH_take (i := 38) (v := ?_) (by simp only [List.getElem?_toArray, List.getElem?_cons_zero, List.getElem?_cons_succ]; rfl) (by kernel_rfl) (by kernel_rfl) (by kernel_rfl) (by intro _ _ _ h; exact h) (Or.inl ⟨by rfl, ?_⟩) (by assumption) ?_
              rotate_left
              · (intro w9 hSw; (try dsimp only at hSw); go_simp <;> with_reducible rfl)
              try simp only [Act.put, List.setIfInBounds_toArray, List.set_cons_zero, List.set_cons_succ]
              refine wpAnyH_take (i := 39) (v := ?_) (by simp only [List.getElem?_toArray, List.getElem?_cons_zero, List.getElem?_cons_succ]; rfl) (by kernel_rfl) (by kernel_rfl) (by kernel_rfl) (by intro _ _ _ h; exact h) (Or.inl ⟨by rfl, ?_⟩) (by assumption) ?_
              rotate_left
              · (intro w9 hSw; (try dsimp only at hSw); go_simp <;> with_reducible rfl)
              try simp only [Act.put, List.setIfInBounds_toArray, List.set_cons_zero, List.set_cons_succ]
              refine wpAnyH_done (by kernel_rfl) ?_ _
              have b8 : Below w7.heap.size w7 w8 := bel_trans (bel_alloc hbw (.cells #[.int .i64 A, .int .i64 (A + z)] 33)) (bel_trans (bel_drew (Below.refl _ _)) hb8)
              have t2 : w8.cell? ⟨w1.heap.size, 2, none⟩ = some (.int .i64 2) := (b8.cell (p := ⟨w1.heap.size, 2, none⟩) z7).trans x2
              have t4 : w8.cell? ⟨w1.heap.size, 4, none⟩ = some (.int .i64 q) := (b8.cell (p := ⟨w1.heap.size, 4, none⟩) z7).trans x4
              clear hHeld
              go_wp2
              go_roundw
              case rel => exact ⟨0 + 1, by go_num, by omega, (by repeat (first | (with_reducible exact Below.refl _ _) | (with_reducible assumption) | (with_reducible refine bel_set ?_ (by first | (simp; done) | (simp; omega)) _) | (with_reducible refine bel_alloc ?_ _) | (with_reducible refine bel_drew ?_)))⟩
              case measure => simp [intOf]; omega
          | succ j =>
            obtain ⟨y, hy⟩ : ∃ y, xs[j]? = some y := ⟨_, List.getElem?_eq_getElem (by omega)⟩
            obtain ⟨e0, _⟩ := hat j y hy
            have hYA : y.a < A := (unhide HIs).2.1 j y _ hy hx
            replace e0 := (hbw.cell (p := ⟨g, _, none⟩) hg).trans e0
            obtain ⟨Y, Y2⟩ := y
            simp only at hYA e0
            have d4 : decide (0 < ((j + 1 : Nat) : Int)) = true := decide_eq_true (by omega)
            have d4' : decide (0 < (j : Int) + 1) = true := decide_eq_true (by omega)
            have d5 : decide (A ≤ Y) = false := decide_eq_false (by omega)
            have d9 : ((j : Int) + 1 - 1) = (j : Int) := by omega
            have d10 : ¬ (j : Int) < 0 := by omega
            have d12 : IntKind.i64.wrap (j : Int) = (j : Int) := by rw [IntKind.wrap_i64]; omega
            have d13 : (0 : Int) ≤ (j : Int) := by omega
            have d11 : (j : Int) < (xs.length : Int) := by omega
            clear hat h3 hx hy
            rcases hkk with rfl | rfl | rfl
            · have m1 : A.tmod z = 0 := by rw [Int.tmod_eq_emod_of_nonneg wlo]; exact wk1 rfl
              have m2 : A % z = 0 := wk1 rfl
              go_wp2_with fail
              refine wp_region_held_drew (S := (fun W => W.cell? ⟨wr.heap.size, 0, none⟩ = some (.int .i64 A) ∧ W.cell? ⟨wr.heap.size, 1, none⟩ = some (.int .i64 (A + z)) ∧ W.cell? ⟨w1.heap.size, 3, none⟩ = some (.int .i64 z) ∧ W.cell? ⟨g, o + j * 2, none⟩ = some (.int .i64 Y))) (by kernel_rfl) ?_ (fun hHeld => ?_)
              · (try dsimp only); exact ⟨by first | (with_reducible assumption) | (simp [go_sem, *]; done), by first | (with_reducible assumption) | (simp [go_sem, *]; done), by first | (with_reducible assumption) | (simp [go_sem, *]; done), by first | (with_reducible assumption) | (simp [go_sem, *]; done)⟩
              refine wpAnyH_take (i := 0) (v := ?_) (by simp only [List.getElem?_toArray, List.getElem?_cons_zero, List.getElem?_cons_succ]; rfl) (by kernel_rfl) (by kernel_rfl) (by kernel_rfl) (by intro _ _ _ h; exact h) (Or.inl ⟨by rfl, ?_⟩) (by assumption) ?_
              rotate_left
              · (intro w9 hSw; (try dsimp only at hSw); go_simp <;> with_reducible rfl)
              try simp only [Act.put, List.setIfInBounds_toArray, List.set_cons_zero, List.set_cons_succ]
              refine wpAnyH_ready (rs := [1]) (by kernel_rfl) (by simp) ?_
              refine AllReadyH.cons (by simp only [List.getElem?_toArray, List.getElem?_cons_zero, List.getElem?_cons_succ]; rfl) (fun K hK => ?_) AllReadyH.nil
              go_simp
              (go_at_call 13; refine (winok_is A (A + z) _ (hide hok)).mono ?_; rintro e' w8 ⟨rfl, hb8⟩; have z8 : wr.heap.size < w8.heap.size := (by have h9 := hb8.size; (try simp at h9); omega); have s0 : w8.cell? ⟨wr.heap.size, 0, none⟩ = some (.int .i64 A) := (hb8.cell (p := ⟨wr.heap.size, 0, none⟩) (by first | (simp; done) | (simp; omega))).trans (by first | (with_reducible assumption) | (simp [go_sem, *]; done)); have s1 : w8.cell? ⟨wr.heap.size, 1, none⟩ = some (.int .i64 (A + z)) := (hb8.cell (p := ⟨wr.heap.size, 1, none⟩) (by first | (simp; done) | (simp; omega))).trans (by first | (with_reducible assumption) | (simp [go_sem, *]; done)); have s2 : w8.cell? ⟨w1.heap.size, 3, none⟩ = some (.int .i64 z) := (hb8.cell (p := ⟨w1.heap.size, 3, none⟩) (by first | (simp; done) | (simp; omega))).trans (by first | (with_reducible assumption) | (simp [go_sem, *]; done)); have s3 : w8.cell? ⟨g, o + j * 2, none⟩ = some (.int .i64 Y) := (hb8.cell (p := ⟨g, o + j * 2, none⟩) (by first | (simp; done) | (simp; omega))).trans (by first | (with_reducible assumption) | (simp [go_sem, *]; done)))
              (try go_wp2_with fail)
              refine hK.out _ _ ?_ (fun hHeld2 => ?_)
              · (try dsimp only); exact ⟨by first | (with_reducible assumption) | (simp [go_sem, *]; done), by first | (with_reducible assumption) | (simp [go_sem, *]; done), by first | (with_reducible assumption) | (simp [go_sem, *]; done), by first | (with_reducible assumption) | (simp [go_sem, *]; done)⟩
              clear hK K hHeld
              have hHeld := hHeld2
              clear hHeld2
              try simp only [Act.put, List.setIfInBounds_toArray, List.set_cons_zero, List.set_cons_succ]
              refine wpAnyH_take (i := 2) (v := ?_) (by simp only [List.getElem?_toArray, List.getElem?_cons_zero, List.getElem?_cons_succ]; rfl) (by kernel_rfl) (by kernel_rfl) (by kernel_rfl) (by intro _ _ _ h; exact h) (Or.inl ⟨by rfl, ?_⟩) (by assumption) ?_
              rotate_left
              · (intro w9 hSw; (try dsimp only at hSw); go_simp <;> with_reducible rfl)
              try simp only [Act.put, List.setIfInBounds_toArray, List.set_cons_zero, List.set_cons_succ]
              refine wpAnyH_take (i := 3) (v := ?_) (by simp only [List.getElem?_toArray, List.getElem?_cons_zero, List.getElem?_cons_succ]; rfl) (by kernel_rfl) (by kernel_rfl) (by kernel_rfl) (by intro _ _ _ h; exact h) (Or.inl ⟨by rfl, ?_⟩) (by assumption) ?_
              rotate_left
              · (intro w9 hSw; (try dsimp only at hSw); go_simp <;> with_reducible rfl)
              try simp only [Act.put, List.setIfInBounds_toArray, List.set_cons_zero, List.set_cons_succ]
              refine wpAnyH_take (i := 4) (v := ?_) (by simp only [List.getElem?_toArray, List.getElem?_cons_zero, List.getElem?_cons_succ]; rfl) (by kernel_rfl) (by kernel_rfl) (by kernel_rfl) (by intro _ _ _ h; exact h) (Or.inl ⟨by rfl, ?_⟩) (by assumption) ?_
              rotate_left
              · (intro w9 hSw; (try dsimp only at hSw); go_simp <;> with_reducible rfl)
              try simp only [Act.put, List.setIfInBounds_toArray, List.set_cons_zero, List.set_cons_succ]
              refine wpAnyH_take (i := 5) (v := ?_) (by simp only [List.getElem?_toArray, List.getElem?_cons_zero, List.getElem?_cons_succ]; rfl) (by kernel_rfl) (by kernel_rfl) (by kernel_rfl) (by intro _ _ _ h; exact h) (Or.inl ⟨by rfl, ?_⟩) (by assumption) ?_
              rotate_left
              · (intro w9 hSw; (try dsimp only at hSw); go_simp <;> with_reducible rfl)
              try simp only [Act.put, List.setIfInBounds_toArray, List.set_cons_zero, List.set_cons_succ]
              refine wpAnyH_take (i := 6) (v := ?_) (by simp only [List.getElem?_toArray, List.getElem?_cons_zero, List.getElem?_cons_succ]; rfl) (by kernel_rfl) (by kernel_rfl) (by kernel_rfl) (by intro _ _ _ h; exact h) (Or.inl ⟨by rfl, ?_⟩) (by assumption) ?_
              rotate_left
              · (intro w9 hSw; (try dsimp only at hSw); go_simp <;> with_reducible rfl)
              try simp only [Act.put, List.setIfInBounds_toArray, List.set_cons_zero, List.set_cons_succ]
              refine wpAnyH_take (i := 7) (v := ?_) (by simp only [List.getElem?_toArray, List.getElem?_cons_zero, List.getElem?_cons_succ]; rfl) (by kernel_rfl) (by kernel_rfl) (by kernel_rfl) (by intro _ _ _ h; exact h) (Or.inl ⟨by rfl, ?_⟩) (by assumption) ?_
              rotate_left
              · (intro w9 hSw; (try dsimp only at hSw); go_simp <;> with_reducible rfl)
              try simp only [Act.put, List.setIfInBounds_toArray, List.set_cons_zero, List.set_cons_succ]
              refine wpAnyH_take (i := 8) (v := ?_) (by simp only [List.getElem?_toArray, List.getElem?_cons_zero, List.getElem?_cons_succ]; rfl) (by kernel_rfl) (by kernel_rfl) (by kernel_rfl) (by intro _ _ _ h; exact h) (Or.inl ⟨by rfl, ?_⟩) (by assumption) ?_
              rotate_left
              · (intro w9 hSw; (try dsimp only at hSw); go_simp <;> with_reducible rfl)
              try simp only [Act.put, List.setIfInBounds_toArray, List.set_cons_zero, List.set_cons_succ]
              refine wpAnyH_take (i := 9) (v := ?_) (by simp only [List.getElem?_toArray, List.getElem?_cons_zero, List.getElem?_cons_succ]; rfl) (by kernel_rfl) (by kernel_rfl) (by kernel_rfl) (by intro _ _ _ h; exact h) (Or.inl ⟨by rfl, ?_⟩) (by assumption) ?_
              rotate_left
              · (intro w9 hSw; (try dsimp only at hSw); go_simp <;> with_reducible rfl)
              try simp only [Act.put, List.setIfInBounds_toArray, List.set_cons_zero, List.set_cons_succ]
              refine wpAnyH_take (i := 10) (v := ?_) (by simp only [List.getElem?_toArray, List.getElem?_cons_zero, List.getElem?_cons_succ]; rfl) (by kernel_rfl) (by kernel_rfl) (by kernel_rfl) (by intro _ _ _ h; exact h) (Or.inl ⟨by rfl, ?_⟩) (by assumption) ?_
              rotate_left
              · (intro w9 hSw; (try dsimp only at hSw); go_simp <;> with_reducible rfl)
              try simp only [Act.put, List.setIfInBounds_toArray, List.set_cons_zero, List.set_cons_succ]
              refine wpAnyH_take (i := 11) (v := ?_) (by simp only [List.getElem?_toArray, List.getElem?_cons_zero, List.getElem?_cons_succ]; rfl) (by kernel_rfl) (by kernel_rfl) (by kernel_rfl) (by intro _ _ _ h; exact h) (Or.inl ⟨by rfl, ?_⟩) (by assumption) ?_
              rotate_left
              · (intro w9 hSw; (try dsimp only at hSw); go_simp <;> with_reducible rfl)
              try simp only [Act.put, List.setIfInBounds_toArray, List.set_cons_zero, List.set_cons_succ]
              refine wpAnyH_take (i := 12) (v := ?_) (by simp only [List.getElem?_toArray, List.getElem?_cons_zero, List.getElem?_cons_succ]; rfl) (by kernel_rfl) (by kernel_rfl) (by kernel_rfl) (by intro _ _ _ h; exact h) (Or.inl ⟨by rfl, ?_⟩) (by assumption) ?_
              rotate_left
              · (intro w9 hSw; (try dsimp only at hSw); go_simp <;> with_reducible rfl)
              try simp only [Act.put, List.setIfInBounds_toArray, List.set_cons_zero, List.set_cons_succ]
              refine wpAnyH_take (i := 13) (v := ?_) (by simp only [List.getElem?_toArray, List.getElem?_cons_zero, List.getElem?_cons_succ]; rfl) (by kernel_rfl) (by kernel_rfl) (by kernel_rfl) (by intro _ _ _ h; exact h) (Or.inl ⟨by rfl, ?_⟩) (by assumption) ?_
              rotate_left
              · (intro w9 hSw; (try dsimp only at hSw); go_simp <;> with_reducible rfl)
              try simp only [Act.put, List.setIfInBounds_toArray, List.set_cons_zero, List.set_cons_succ]
              refine wpAnyH_take (i := 14) (v := ?_) (by simp only [List.getElem?_toArray, List.getElem?_cons_zero, List.getElem?_cons_succ]; rfl) (by kernel_rfl) (by kernel_rfl) (by kernel_rfl) (by intro _ _ _ h; exact h) (Or.inl ⟨by rfl, ?_⟩) (by assumption) ?_
              rotate_left
              · (intro w9 hSw; (try dsimp only at hSw); go_simp <;> with_reducible rfl)
              try simp only [Act.put, List.setIfInBounds_toArray, List.set_cons_zero, List.set_cons_succ]
              refine wpAnyH_take (i := 15) (v := ?_) (by simp only [List.getElem?_toArray, List.getElem?_cons_zero, List.getElem?_cons_succ]; rfl) (by kernel_rfl) (by kernel_rfl) (by kernel_rfl) (by intro _ _ _ h; exact h) (Or.inl ⟨by rfl, ?_⟩) (by assumption) ?_
              rotate_left
              · (intro w9 hSw; (try dsimp only at hSw); go_simp <;> with_reducible rfl)
              try simp only [Act.put, List.setIfInBounds_toArray, List.set_cons_zero, List.set_cons_succ]
              refine wpAnyH_take (i := 16) (v := ?_) (by simp only [List.getElem?_toArray, List.getElem?_cons_zero, List.getElem?_cons_succ]; rfl) (by kernel_rfl) (by kernel_rfl) (by kernel_rfl) (by intro _ _ _ h; exact h) (Or.inl ⟨by rfl, ?_⟩) (by assumption) ?_
              rotate_left
              · (intro w9 hSw; (try dsimp only at hSw); go_simp <;> with_reducible rfl)
              try simp only [Act.put, List.setIfInBounds_toArray, List.set_cons_zero, List.set_cons_succ]
              refine wpAnyH_take (i := 17) (v := ?_) (by simp only [List.getElem?_toArray, List.getElem?_cons_zero, List.getElem?_cons_succ]; rfl) (by kernel_rfl) (by kernel_rfl) (by kernel_rfl) (by intro _ _ _ h; exact h) (Or.inl ⟨by rfl, ?_⟩) (by assumption) ?_
              rotate_left
              · (intro w9 hSw; (try dsimp only at hSw); go_simp <;> with_reducible rfl)
              try simp only [Act.put, List.setIfInBounds_toArray, List.set_cons_zero, List.set_cons_succ]
              refine wpAnyH_take (i := 18) (v := ?_) (by simp only [List.getElem?_toArray, List.getElem?_cons_zero, List.getElem?_cons_succ]; rfl) (by kernel_rfl) (by kernel_rfl) (by kernel_rfl) (by intro _ _ _ h; exact h) (Or.inl ⟨by rfl, ?_⟩) (by assumption) ?_
              rotate_left
              · (intro w9 hSw; (try dsimp only at hSw); go_simp <;> with_reducible rfl)
              try simp only [Act.put, List.setIfInBounds_toArray, List.set_cons_zero, List.set_cons_succ]
              refine wpAnyH_take (i := 19) (v := ?_) (by simp only [List.getElem?_toArray, List.getElem?_cons_zero, List.getElem?_cons_succ]; rfl) (by kernel_rfl) (by kernel_rfl) (by kernel_rfl) (by intro _ _ _ h; exact h) (Or.inl ⟨by rfl, ?_⟩) (by assumption) ?_
              rotate_left
              · (intro w9 hSw; (try dsimp only at hSw); go_simp <;> with_reducible rfl)
              try simp only [Act.put, List.setIfInBounds_toArray, List.set_cons_zero, List.set_cons_succ]
              refine wpAnyH_take (i := 20) (v := ?_) (by simp only [List.getElem?_toArray, List.getElem?_cons_zero, List.getElem?_cons_succ]; rfl) (by kernel_rfl) (by kernel_rfl) (by kernel_rfl) (by intro _ _ _ h; exact h) (Or.inl ⟨by rfl, ?_⟩) (by assumption) ?_
              rotate_left
              · (intro w9 hSw; (try dsimp only at hSw); go_simp <;> with_reducible rfl)
              try simp only [Act.put, List.setIfInBounds_toArray, List.set_cons_zero, List.set_cons_succ]
              refine wpAnyH_take (i := 21) (v := ?_) (by simp only [List.getElem?_toArray, List.getElem?_cons_zero, List.getElem?_cons_succ]; rfl) (by kernel_rfl) (by kernel_rfl) (by kernel_rfl) (by intro _ _ _ h; exact h) (Or.inl ⟨by rfl, ?_⟩) (by assumption) ?_
              rotate_left
              · (intro w9 hSw; (try dsimp only at hSw); go_simp <;> with_reducible rfl)
              try simp only [Act.put, List.setIfInBounds_toArray, List.set_cons_zero, List.set_cons_succ]
              refine wpAnyH_take (i := 22) (v := ?_) (by simp only [List.getElem?_toArray, List.getElem?_cons_zero, List.getElem?_cons_succ]; rfl) (by kernel_rfl) (by kernel_rfl) (by kernel_rfl) (by intro _ _ _ h; exact h) (Or.inl ⟨by rfl, ?_⟩) (by assumption) ?_
              rotate_left
              · (intro w9 hSw; (try dsimp only at hSw); go_simp <;> with_reducible rfl)
              try simp only [Act.put, List.setIfInBounds_toArray, List.set_cons_zero, List.set_cons_succ]
              refine wpAnyH_take (i := 23) (v := ?_) (by simp only [List.getElem?_toArray, List.getElem?_cons_zero, List.getElem?_cons_succ]; rfl) (by kernel_rfl) (by kernel_rfl) (by kernel_rfl) (by intro _ _ _ h; exact h) (Or.inl ⟨by rfl, ?_⟩) (by assumption) ?_
              rotate_left
              · (intro w9 hSw; (try dsimp only at hSw); go_simp <;> with_reducible rfl)
              try simp only [Act.put, List.setIfInBounds_toArray, List.set_cons_zero, List.set_cons_succ]
              refine wpAnyH_take (i := 24) (v := ?_) (by simp only [List.getElem?_toArray, List.getElem?_cons_zero, List.getElem?_cons_succ]; rfl) (by kernel_rfl) (by kernel_rfl) (by kernel_rfl) (by intro _ _ _ h; exact h) (Or.inl ⟨by rfl, ?_⟩) (by assumption) ?_
              rotate_left
              · (intro w9 hSw; (try dsimp only at hSw); go_simp <;> with_reducible rfl)
              try simp only [Act.put, List.setIfInBounds_toArray, List.set_cons_zero, List.set_cons_succ]
              refine wpAnyH_take (i := 25) (v := ?_) (by simp only [List.getElem?_toArray, List.getElem?_cons_zero, List.getElem?_cons_succ]; rfl) (by kernel_rfl) (by kernel_rfl) (by kernel_rfl) (by intro _ _ _ h; exact h) (Or.inl ⟨by rfl, ?_⟩) (by assumption) ?_
              rotate_left
              · (intro w9 hSw; (try dsimp only at hSw); go_simp <;> with_reducible rfl)
              try simp only [Act.put, List.setIfInBounds_toArray, List.set_cons_zero, List.set_cons_succ]
              refine wpAnyH_take (i := 26) (v := ?_) (by simp only [List.getElem?_toArray, List.getElem?_cons_zero, List.getElem?_cons_succ]; rfl) (by kernel_rfl) (by kernel_rfl) (by kernel_rfl) (by intro _ _ _ h; exact h) (Or.inl ⟨by rfl, ?_⟩) (by assumption) ?_
              rotate_left
              · (intro w9 hSw; (try dsimp only at hSw); go_simp <;> with_reducible rfl)
              try simp only [Act.put, List.setIfInBounds_toArray, List.set_cons_zero, List.set_cons_succ]
              refine wpAnyH_take (i := 27) (v := ?_) (by simp only [List.getElem?_toArray, List.getElem?_cons_zero, List.getElem?_cons_succ]; rfl) (by kernel_rfl) (by kernel_rfl) (by kernel_rfl) (by intro _ _ _ h; exact h) (Or.inl ⟨by rfl, ?_⟩) (by assumption) ?_
              rotate_left
              · (intro w9 hSw; (try dsimp only at hSw); go_simp <;> with_reducible rfl)
              try simp only [Act.put, List.setIfInBounds_toArray, List.set_cons_zero, List.set_cons_succ]
              refine wpAnyH_take (i := 28) (v := ?_) (by simp only [List.getElem?_toArray, List.getElem?_cons_zero, List.getElem?_cons_succ]; rfl) (by kernel_rfl) (by kernel_rfl) (by kernel_rfl) (by intro _ _ _ h; exact h) (Or.inl ⟨by rfl, ?_⟩) (by assumption) ?_
              rotate_left
              · (intro w9 hSw; (try dsimp only at hSw); go_simp <;> with_reducible rfl)
              try simp only [Act.put, List.setIfInBounds_toArray, List.set_cons_zero, List.set_cons_succ]
              refine wpAnyH_take (i := 29) (v := ?_) (by simp only [List.getElem?_toArray, List.getElem?_cons_zero, List.getElem?_cons_succ]; rfl) (by kernel_rfl) (by kernel_rfl) (by kernel_rfl) (by intro _ _ _ h; exact h) (Or.inl ⟨by rfl, ?_⟩) (by assumption) ?_
              rotate_left
              · (intro w9 hSw; (try dsimp only at hSw); go_simp <;> with_reducible rfl)
              try simp only [Act.put, List.setIfInBounds_toArray, List.set_cons_zero, List.set_cons_succ]
              refine wpAnyH_take (i := 30) (v := ?_) (by simp only [List.getElem?_toArray, List.getElem?_cons_zero, List.getElem?_cons_succ]; rfl) (by kernel_rfl) (by kernel_rfl) (by kernel_rfl) (by intro _ _ _ h; exact h) (Or.inl ⟨by rfl, ?_⟩) (by assumption) ?_
              rotate_left
              · (intro w9 hSw; (try dsimp only at hSw); go_simp <;> with_reducible rfl)
              try simp only [Act.put, List.setIfInBounds_toArray, List.set_cons_zero, List.set_cons_succ]
              refine wpAnyH_take (i := 31) (v := ?_) (by simp only [List.getElem?_toArray, List.getElem?_cons_zero, List.getElem?_cons_succ]; rfl) (by kernel_rfl) (by kernel_rfl) (by kernel_rfl) (by intro _ _ _ h; exact h) (Or.inl ⟨by rfl, ?_⟩) (by assumption) ?_
              rotate_left
              · (intro w9 hSw; (try dsimp only at hSw); go_simp <;> with_reducible rfl)
              try simp only [Act.put, List.setIfInBounds_toArray, List.set_cons_zero, List.set_cons_succ]
              refine wpAnyH_take (i := 32) (v := ?_) (by simp only [List.getElem?_toArray, List.getElem?_cons_zero, List.getElem?_cons_succ]; rfl) (by kernel_rfl) (by kernel_rfl) (by kernel_rfl) (by intro _ _ _ h; exact h) (Or.inl ⟨by rfl, ?_⟩) (by assumption) ?_
              rotate_left
              · (intro w9 hSw; (try dsimp only at hSw); go_simp <;> with_reducible rfl)
              try simp only [Act.put, List.setIfInBounds_toArray, List.set_cons_zero, List.set_cons_succ]
              refine wpAnyH_take (i := 33) (v := ?_) (by simp only [List.getElem?_toArray, List.getElem?_cons_zero, List.getElem?_cons_succ]; rfl) (by kernel_rfl) (by kernel_rfl) (by kernel_rfl) (by intro _ _ _ h; exact h) (Or.inl ⟨by rfl, ?_⟩) (by assumption) ?_
              rotate_left
              · (intro w9 hSw; (try dsimp only at hSw); go_simp <;> with_reducible rfl)
              try simp only [Act.put, List.setIfInBounds_toArray, List.set_cons_zero, List.set_cons_succ]
              refine wpAnyH_take (i := 34) (v := ?_) (by simp only [List.getElem?_toArray, List.getElem?_cons_zero, List.getElem?_cons_succ]; rfl) (by kernel_rfl) (by kernel_rfl) (by kernel_rfl) (by intro _ _ _ h; exact h) (Or.inl ⟨by rfl, ?_⟩) (by assumption) ?_
              rotate_left
              · (intro w9 hSw; (try dsimp only at hSw); go_simp <;> with_reducible rfl)
              try simp only [Act.put, List.setIfInBounds_toArray, List.set_cons_zero, List.set_cons_succ]
              refine wpAnyH_take (i := 35) (v := ?_) (by simp only [List.getElem?_toArray, List.getElem?_cons_zero, List.getElem?_cons_succ]; rfl) (by kernel_rfl) (by kernel_rfl) (by kernel_rfl) (by intro _ _ _ h; exact h) (Or.inl ⟨by rfl, ?_⟩) (by assumption) ?_
              rotate_left
              · (intro w9 hSw; (try dsimp only at hSw); go_simp <;> with_reducible rfl)
              try simp only [Act.put, List.setIfInBounds_toArray, List.set_cons_zero, List.set_cons_succ]
              refine wpAnyH_take (i := 36) (v := ?_) (by simp only [List.getElem?_toArray, List.getElem?_cons_zero, List.getElem?_cons_succ]; rfl) (by kernel_rfl) (by kernel_rfl) (by kernel_rfl) (by intro _ _ _ h; exact h) (Or.inl ⟨by rfl, ?_⟩) (by assumption) ?_
              rotate_left
              · (intro w9 hSw; (try dsimp only at hSw); go_simp <;> with_reducible rfl)
              try simp only [Act.put, List.setIfInBounds_toArray, List.set_cons_zero, List.set_cons_succ]
              refine wpAnyH_take (i := 37) (v := ?_) (by simp only [List.getElem?_toArray, List.getElem?_cons_zero, List.getElem?_cons_succ]; rfl) (by kernel_rfl) (by kernel_rfl) (by kernel_rfl) (by intro _ _ _ h; exact h) (Or.inl ⟨by rfl, ?_⟩) (by assumption) ?_
              rotate_left
              · (intro w9 hSw; (try dsimp only at hSw); go_simp <;> with_reducible rfl)
              try simp only [Act.put, List.setIfInBounds_toArray, List.set_cons_zero, List.set_cons_succ]
              refine wpAnyH_take (i := 38) (v := ?_) (by simp only [List.getElem?_toArray, List.getElem?_cons_zero, List.getElem?_cons_succ]; rfl) (by kernel_rfl) (by kernel_rfl) (by kernel_rfl) (by intro _ _ _ h; exact h) (Or.inl ⟨by rfl, ?_⟩) (by assumption) ?_
              rotate_left
              · (intro w9 hSw; (try dsimp only at hSw); go_simp <;> with_reducible rfl)
              try simp only [Act.put, List.setIfInBounds_toArray, List.set_cons_zero, List.set_cons_succ]
              refine wpAnyH_take (i := 39) (v := ?_) (by simp only [List.getElem?_toArray, List.getElem?_cons_zero, List.getElem?_cons_succ]; rfl) (by kernel_rfl) (by kernel_rfl) (by kernel_rfl) (by intro _ _ _ h; exact h) (Or.inl ⟨by rfl, ?_⟩) (by assumption) ?_
              rotate_left
              · (intro w9 hSw; (try dsimp only at hSw); go_simp <;> with_reducible rfl)
              try simp only [Act.put, List.setIfInBounds_toArray, List.set_cons_zero, List.set_cons_succ]
              refine wpAnyH_done (by kernel_rfl) ?_ _
              have b8 : Below w7.heap.size w7 w8 := bel_trans (bel_alloc hbw (.cells #[.int .i64 A, .int .i64 (A + z)] 33)) (bel_trans (bel_drew (Below.refl _ _)) hb8)
              have t2 : w8.cell? ⟨w1.heap.size, 2, none⟩ = some (.int .i64 1) := (b8.cell (p := ⟨w1.heap.size, 2, none⟩) z7).trans x2
              have t4 : w8.cell? ⟨w1.heap.size, 4, none⟩ = some (.int .i64 q) := (b8.cell (p := ⟨w1.heap.size, 4, none⟩) z7).trans x4
              clear hHeld
              go_wp2
              go_roundw
              case rel => exact ⟨(j + 1) + 1, by go_num, by omega, (by repeat (first | (with_reducible exact Below.refl _ _) | (with_reducible assumption) | (with_reducible refine bel_set ?_ (by first | (simp; done) | (simp; omega)) _) | (with_reducible refine bel_alloc ?_ _) | (with_reducible refine bel_drew ?_)))⟩
              case measure => simp [intOf]; omega
            · have m1 : A = T := wk3 rfl
              subst m1
              go_wp2_with fail
              refine wp_region_held_drew (S := (fun W => W.cell? ⟨wr.heap.size, 0, none⟩ = some (.int .i64 A) ∧ W.cell? ⟨wr.heap.size, 1, none⟩ = some (.int .i64 (A + z)) ∧ W.cell? ⟨w1.heap.size, 3, none⟩ = some (.int .i64 z) ∧ W.cell? ⟨g, o + j * 2, none⟩ = some (.int .i64 Y))) (by kernel_rfl) ?_ (fun hHeld => ?_)
              · (try dsimp only); exact ⟨by first | (with_reducible assumption) | (simp [go_sem, *]; done), by first | (with_reducible assumption) | (simp [go_sem, *]; done), by first | (with_reducible assumption) | (simp [go_sem, *]; done), by first | (with_reducible assumption) | (simp [go_sem, *]; done)⟩
              refine wpAnyH_take (i := 0) (v := ?_) (by simp only [List.getElem?_toArray, List.getElem?_cons_zero, List.getElem?_cons_succ]; rfl) (by kernel_rfl) (by kernel_rfl) (by kernel_rfl) (by intro _ _ _ h; exact h) (Or.inl ⟨by rfl, ?_⟩) (by assumption) ?_
              rotate_left
              · (intro w9 hSw; (try dsimp only at hSw); go_simp <;> with_reducible rfl)
              try simp only [Act.put, List.setIfInBounds_toArray, List.set_cons_zero, List.set_cons_succ]
              refine wpAnyH_ready (rs := [1]) (by kernel_rfl) (by simp) ?_
              refine AllReadyH.cons (by simp only [List.getElem?_toArray, List.getElem?_cons_zero, List.getElem?_cons_succ]; rfl) (fun K hK => ?_) AllReadyH.nil
              go_simp
              (go_at_call 13; refine (winok_is A (A + z) _ (hide hok)).mono ?_; rintro e' w8 ⟨rfl, hb8⟩; have z8 : wr.heap.size < w8.heap.size := (by have h9 := hb8.size; (try simp at h9); omega); have s0 : w8.cell? ⟨wr.heap.size, 0, none⟩ = some (.int .i64 A) := (hb8.cell (p := ⟨wr.heap.size, 0, none⟩) (by first | (simp; done) | (simp; omega))).trans (by first | (with_reducible assumption) | (simp [go_sem, *]; done)); have s1 : w8.cell? ⟨wr.heap.size, 1, none⟩ = some (.int .i64 (A + z)) := (hb8.cell (p := ⟨wr.heap.size, 1, none⟩) (by first | (simp; done) | (simp; omega))).trans (by first | (with_reducible assumption) | (simp [go_sem, *]; done)); have s2 : w8.cell? ⟨w1.heap.size, 3, none⟩ = some (.int .i64 z) := (hb8.cell (p := ⟨w1.heap.size, 3, none⟩) (by first | (simp; done) | (simp; omega))).trans (by first | (with_reducible assumption) | (simp [go_sem, *]; done)); have s3 : w8.cell? ⟨g, o + j * 2, none⟩ = some (.int .i64 Y) := (hb8.cell (p := ⟨g, o + j * 2, none⟩) (by first | (simp; done) | (simp; omega))).trans (by first | (with_reducible assumption) | (simp [go_sem, *]; done)))
              (try go_wp2_with fail)
              refine hK.out _ _ ?_ (fun hHeld2 => ?_)
              · (try dsimp only); exact ⟨by first | (with_reducible assumption) | (simp [go_sem, *]; done), by first | (with_reducible assumption) | (simp [go_sem, *]; done), by first | (with_reducible assumption) | (simp [go_sem, *]; done), by first | (with_reducible assumption) | (simp [go_sem, *]; done)⟩
              clear hK K hHeld
              have hHeld := hHeld2
              clear hHeld2
              try simp only [Act.put, List.setIfInBounds_toArray, List.set_cons_zero, List.set_cons_succ]
              refine wpAnyH_take (i := 2) (v := ?_) (by simp only [List.getElem?_toArray, List.getElem?_cons_zero, List.getElem?_cons_succ]; rfl) (by kernel_rfl) (by kernel_rfl) (by kernel_rfl) (by intro _ _ _ h; exact h) (Or.inl ⟨by rfl, ?_⟩) (by assumption) ?_
              rotate_left
              · (intro w9 hSw; (try dsimp only at hSw); go_simp <;> with_reducible rfl)
              try simp only [Act.put, List.setIfInBounds_toArray, List.set_cons_zero, List.set_cons_succ]
              refine wpAnyH_take (i := 3) (v := ?_) (by simp only [List.getElem?_toArray, List.getElem?_cons_zero, List.getElem?_cons_succ]; rfl) (by kernel_rfl) (by kernel_rfl) (by kernel_rfl) (by intro _ _ _ h; exact h) (Or.inl ⟨by rfl, ?_⟩) (by assumption) ?_
              rotate_left
              · (intro w9 hSw; (try dsimp only at hSw); go_simp <;> with_reducible rfl)
              try simp only [Act.put, List.setIfInBounds_toArray, List.set_cons_zero, List.set_cons_succ]
              refine wpAnyH_take (i := 4) (v := ?_) (by simp only [List.getElem?_toArray, List.getElem?_cons_zero, List.getElem?_cons_succ]; rfl) (by kernel_rfl) (by kernel_rfl) (by kernel_rfl) (by intro _ _ _ h; exact h) (Or.inl ⟨by rfl, ?_⟩) (by assumption) ?_
              rotate_left
              · (intro w9 hSw; (try dsimp only at hSw); go_simp <;> with_reducible rfl)
              try simp only [Act.put, List.setIfInBounds_toArray, List.set_cons_zero, List.set_cons_succ]
              refine wpAnyH_take (i := 5) (v := ?_) (by simp only [List.getElem?_toArray, List.getElem?_cons_zero, List.getElem?_cons_succ]; rfl) (by kernel_rfl) (by kernel_rfl) (by kernel_rfl) (by intro _ _ _ h; exact h) (Or.inl ⟨by rfl, ?_⟩) (by assumption) ?_
              rotate_left
              · (intro w9 hSw; (try dsimp only at hSw); go_simp <;> with_reducible rfl)
              try simp only [Act.put, List.setIfInBounds_toArray, List.set_cons_zero, List.set_cons_succ]
              refine wpAnyH_take (i := 6) (v := ?_) (by simp only [List.getElem?_toArray, List.getElem?_cons_zero, List.getElem?_cons_succ]; rfl) (by kernel_rfl) (by kernel_rfl) (by kernel_rfl) (by intro _ _ _ h; exact h) (Or.inl ⟨by rfl, ?_⟩) (by assumption) ?_
              rotate_left
              · (intro w9 hSw; (try dsimp only at hSw); go_simp <;> with_reducible rfl)
              try simp only [Act.put, List.setIfInBounds_toArray, List.set_cons_zero, List.set_cons_succ]
              refine wpAnyH_take (i := 7) (v := ?_) (by simp only [List.getElem?_toArray, List.getElem?_cons_zero, List.getElem?_cons_succ]; rfl) (by kernel_rfl) (by kernel_rfl) (by kernel_rfl) (by intro _ _ _ h; exact h) (Or.inl ⟨by rfl, ?_⟩) (by assumption) ?_
              rotate_left
              · (intro w9 hSw; (try dsimp only at hSw); go_simp <;> with_reducible rfl)
              try simp only [Act.put, List.setIfInBounds_toArray, List.set_cons_zero, List.set_cons_succ]
              refine wpAnyH_take (i := 8) (v := ?_) (by simp only [List.getElem?_toArray, List.getElem?_cons_zero, List.getElem?_cons_succ]; rfl) (by kernel_rfl) (by kernel_rfl) (by kernel_rfl) (by intro _ _ _ h; exact h) (Or.inl ⟨by rfl, ?_⟩) (by assumption) ?_
              rotate_left
              · (intro w9 hSw; (try dsimp only at hSw); go_simp <;> with_reducible rfl)
              try simp only [Act.put, List.setIfInBounds_toArray, List.set_cons_zero, List.set_cons_succ]
              refine wpAnyH_take (i := 9) (v := ?_) (by simp only [List.getElem?_toArray, List.getElem?_cons_zero, List.getElem?_cons_succ]; rfl) (by kernel_rfl) (by kernel_rfl) (by kernel_rfl) (by intro _ _ _ h; exact h) (Or.inl ⟨by rfl, ?_⟩) (by assumption) ?_
              rotate_left
              · (intro w9 hSw; (try dsimp only at hSw); go_simp <;> with_reducible rfl)
              try simp only [Act.put, List.setIfInBounds_toArray, List.set_cons_zero, List.set_cons_succ]
              refine wpAnyH_take (i := 10) (v := ?_) (by simp only [List.getElem?_toArray, List.getElem?_cons_zero, List.getElem?_cons_succ]; rfl) (by kernel_rfl) (by kernel_rfl) (by kernel_rfl) (by intro _ _ _ h; exact h) (Or.inl ⟨by rfl, ?_⟩) (by assumption) ?_
              rotate_left
              · (intro w9 hSw; (try dsimp only at hSw); go_simp <;> with_reducible rfl)
              try simp only [Act.put, List.setIfInBounds_toArray, List.set_cons_zero, List.set_cons_succ]
              refine wpAnyH_take (i := 11) (v := ?_) (by simp only [List.getElem?_toArray, List.getElem?_cons_zero, List.getElem?_cons_succ]; rfl) (by kernel_rfl) (by kernel_rfl) (by kernel_rfl) (by intro _ _ _ h; exact h) (Or.inl ⟨by rfl, ?_⟩) (by assumption) ?_
              rotate_left
              · (intro w9 hSw; (try dsimp only at hSw); go_simp <;> with_reducible rfl)
              try simp only [Act.put, List.setIfInBounds_toArray, List.set_cons_zero, List.set_cons_succ]
              refine wpAnyH_take (i := 12) (v := ?_) (by simp only [List.getElem?_toArray, List.getElem?_cons_zero, List.getElem?_cons_succ]; rfl) (by kernel_rfl) (by kernel_rfl) (by kernel_rfl) (by intro _ _ _ h; exact h) (Or.inl ⟨by rfl, ?_⟩) (by assumption) ?_
              rotate_left
              · (intro w9 hSw; (try dsimp only at hSw); go_simp <;> with_reducible rfl)
              try simp only [Act.put, List.setIfInBounds_toArray, List.set_cons_zero, List.set_cons_succ]
              refine wpAnyH_take (i := 13) (v := ?_) (by simp only [List.getElem?_toArray, List.getElem?_cons_zero, List.getElem?_cons_succ]; rfl) (by kernel_rfl) (by kernel_rfl) (by kernel_rfl) (by intro _ _ _ h; exact h) (Or.inl ⟨by rfl, ?_⟩) (by assumption) ?_
              rotate_left
              · (intro w9 hSw; (try dsimp only at hSw); go_simp <;> with_reducible rfl)
              try simp only [Act.put, List.setIfInBounds_toArray, List.set_cons_zero, List.set_cons_succ]
              refine wpAnyH_take (i := 14) (v := ?_) (by simp only [List.getElem?_toArray, List.getElem?_cons_zero, List.getElem?_cons_succ]; rfl) (by kernel_rfl) (by kernel_rfl) (by kernel_rfl) (by intro _ _ _ h; exact h) (Or.inl ⟨by rfl, ?_⟩) (by assumption) ?_
              rotate_left
              · (intro w9 hSw; (try dsimp only at hSw); go_simp <;> with_reducible rfl)
              try simp only [Act.put, List.setIfInBounds_toArray, List.set_cons_zero, List.set_cons_succ]
              refine wpAnyH_take (i := 15) (v := ?_) (by simp only [List.getElem?_toArray, List.getElem?_cons_zero, List.getElem?_cons_succ]; rfl) (by kernel_rfl) (by kernel_rfl) (by kernel_rfl) (by intro _ _ _ h; exact h) (Or.inl ⟨by rfl, ?_⟩) (by assumption) ?_
              rotate_left
              · (intro w9 hSw; (try dsimp only at hSw); go_simp <;> with_reducible rfl)
              try simp only [Act.put, List.setIfInBounds_toArray, List.set_cons_zero, List.set_cons_succ]
              refine wpAnyH_take (i := 16) (v := ?_) (by simp only [List.getElem?_toArray, List.getElem?_cons_zero, List.getElem?_cons_succ]; rfl) (by kernel_rfl) (by kernel_rfl) (by kernel_rfl) (by intro _ _ _ h; exact h) (Or.inl ⟨by rfl, ?_⟩) (by assumption) ?_
              rotate_left
              · (intro w9 hSw; (try dsimp only at hSw); go_simp <;> with_reducible rfl)
              try simp only [Act.put, List.setIfInBounds_toArray, List.set_cons_zero, List.set_cons_succ]
              refine wpAnyH_take (i := 17) (v := ?_) (by simp only [List.getElem?_toArray, List.getElem?_cons_zero, List.getElem?_cons_succ]; rfl) (by kernel_rfl) (by kernel_rfl) (by kernel_rfl) (by intro _ _ _ h; exact h) (Or.inl ⟨by rfl, ?_⟩) (by assumption) ?_
              rotate_left
              · (intro w9 hSw; (try dsimp only at hSw); go_simp <;> with_reducible rfl)
              try simp only [Act.put, List.setIfInBounds_toArray, List.set_cons_zero, List.set_cons_succ]
              refine wpAnyH_take (i := 18) (v := ?_) (by simp only [List.getElem?_toArray, List.getElem?_cons_zero, List.getElem?_cons_succ]; rfl) (by kernel_rfl) (by kernel_rfl) (by kernel_rfl) (by intro _ _ _ h; exact h) (Or.inl ⟨by rfl, ?_⟩) (by assumption) ?_
              rotate_left
              · (intro w9 hSw; (try dsimp only at hSw); go_simp <;> with_reducible rfl)
              try simp only [Act.put, List.setIfInBounds_toArray, List.set_cons_zero, List.set_cons_succ]
              refine wpAnyH_take (i := 19) (v := ?_) (by simp only [List.getElem?_toArray, List.getElem?_cons_zero, List.getElem?_cons_succ]; rfl) (by kernel_rfl) (by kernel_rfl) (by kernel_rfl) (by intro _ _ _ h; exact h) (Or.inl ⟨by rfl, ?_⟩) (by assumption) ?_
              rotate_left
              · (intro w9 hSw; (try dsimp only at hSw); go_simp <;> with_reducible rfl)
              try simp only [Act.put, List.setIfInBounds_toArray, List.set_cons_zero, List.set_cons_succ]
              refine wpAnyH_take (i := 20) (v := ?_) (by simp only [List.getElem?_toArray, List.getElem?_cons_zero, List.getElem?_cons_succ]; rfl) (by kernel_rfl) (by kernel_rfl) (by kernel_rfl) (by intro _ _ _ h; exact h) (Or.inl ⟨by rfl, ?_⟩) (by assumption) ?_
              rotate_left
              · (intro w9 hSw; (try dsimp only at hSw); go_simp <;> with_reducible rfl)
              try simp only [Act.put, List.setIfInBounds_toArray, List.set_cons_zero, List.set_cons_succ]
              refine wpAnyH_take (i := 21) (v := ?_) (by simp only [List.getElem?_toArray, List.getElem?_cons_zero, List.getElem?_cons_succ]; rfl) (by kernel_rfl) (by kernel_rfl) (by kernel_rfl) (by intro _ _ _ h; exact h) (Or.inl ⟨by rfl, ?_⟩) (by assumption) ?_
              rotate_left
              · (intro w9 hSw; (try dsimp only at hSw); go_simp <;> with_reducible rfl)
              try simp only [Act.put, List.setIfInBounds_toArray, List.set_cons_zero, List.set_cons_succ]
              refine wpAnyH_take (i := 22) (v := ?_) (by simp only [List.getElem?_toArray, List.getElem?_cons_zero, List.getElem?_cons_succ]; rfl) (by kernel_rfl) (by kernel_rfl) (by kernel_rfl) (by intro _ _ _ h; exact h) (Or.inl ⟨by rfl, ?_⟩) (by assumption) ?_
              rotate_left
              · (intro w9 hSw; (try dsimp only at hSw); go_simp <;> with_reducible rfl)
              try simp only [Act.put, List.setIfInBounds_toArray, List.set_cons_zero, List.set_cons_succ]
              refine wpAnyH_take (i := 23) (v := ?_) (by simp only [List.getElem?_toArray, List.getElem?_cons_zero, List.getElem?_cons_succ]; rfl) (by kernel_rfl) (by kernel_rfl) (by kernel_rfl) (by intro _ _ _ h; exact h) (Or.inl ⟨by rfl, ?_⟩) (by assumption) ?_
              rotate_left
              · (intro w9 hSw; (try dsimp only at hSw); go_simp <;> with_reducible rfl)
              try simp only [Act.put, List.setIfInBounds_toArray, List.set_cons_zero, List.set_cons_succ]
              refine wpAnyH_take (i := 24) (v := ?_) (by simp only [List.getElem?_toArray, List.getElem?_cons_zero, List.getElem?_cons_succ]; rfl) (by kernel_rfl) (by kernel_rfl) (by kernel_rfl) (by intro _ _ _ h; exact h) (Or.inl ⟨by rfl, ?_⟩) (by assumption) ?_
              rotate_left
              · (intro w9 hSw; (try dsimp only at hSw); go_simp <;> with_reducible rfl)
              try simp only [Act.put, List.setIfInBounds_toArray, List.set_cons_zero, List.set_cons_succ]
              refine wpAnyH_take (i := 25) (v := ?_) (by simp only [List.getElem?_toArray, List.getElem?_cons_zero, List.getElem?_cons_succ]; rfl) (by kernel_rfl) (by kernel_rfl) (by kernel_rfl) (by intro _ _ _ h; exact h) (Or.inl ⟨by rfl, ?_⟩) (by assumption) ?_
              rotate_left
              · (intro w9 hSw; (try dsimp only at hSw); go_simp <;> with_reducible rfl)
              try simp only [Act.put, List.setIfInBounds_toArray, List.set_cons_zero, List.set_cons_succ]
              refine wpAnyH_take (i := 26) (v := ?_) (by simp only [List.getElem?_toArray, List.getElem?_cons_zero, List.getElem?_cons_succ]; rfl) (by kernel_rfl) (by kernel_rfl) (by kernel_rfl) (by intro _ _ _ h; exact h) (Or.inl ⟨by rfl, ?_⟩) (by assumption) ?_
              rotate_left
              · (intro w9 hSw; (try dsimp only at hSw); go_simp <;> with_reducible rfl)
              try simp only [Act.put, List.setIfInBounds_toArray, List.set_cons_zero, List.set_cons_succ]
              refine wpAnyH_take (i := 27) (v := ?_) (by simp only [List.getElem?_toArray, List.getElem?_cons_zero, List.getElem?_cons_succ]; rfl) (by kernel_rfl) (by kernel_rfl) (by kernel_rfl) (by intro _ _ _ h; exact h) (Or.inl ⟨by rfl, ?_⟩) (by assumption) ?_
              rotate_left
              · (intro w9 hSw; (try dsimp only at hSw); go_simp <;> with_reducible rfl)
              try simp only [Act.put, List.setIfInBounds_toArray, List.set_cons_zero, List.set_cons_succ]
              refine wpAnyH_take (i := 28) (v := ?_) (by simp only [List.getElem?_toArray, List.getElem?_cons_zero, List.getElem?_cons_succ]; rfl) (by kernel_rfl) (by kernel_rfl) (by kernel_rfl) (by intro _ _ _ h; exact h) (Or.inl ⟨by rfl, ?_⟩) (by assumption) ?_
              rotate_left
              · (intro w9 hSw; (try dsimp only at hSw); go_simp <;> with_reducible rfl)
              try simp only [Act.put, List.setIfInBounds_toArray, List.set_cons_zero, List.set_cons_succ]
              refine wpAnyH_take (i := 29) (v := ?_) (by simp only [List.getElem?_toArray, List.getElem?_cons_zero, List.getElem?_cons_succ]; rfl) (by kernel_rfl) (by kernel_rfl) (by kernel_rfl) (by intro _ _ _ h; exact h) (Or.inl ⟨by rfl, ?_⟩) (by assumption) ?_
              rotate_left
              · (intro w9 hSw; (try dsimp only at hSw); go_simp <;> with_reducible rfl)
              try simp only [Act.put, List.setIfInBounds_toArray, List.set_cons_zero, List.set_cons_succ]
              refine wpAnyH_take (i := 30) (v := ?_) (by simp only [List.getElem?_toArray, List.getElem?_cons_zero, List.getElem?_cons_succ]; rfl) (by kernel_rfl) (by kernel_rfl) (by kernel_rfl) (by intro _ _ _ h; exact h) (Or.inl ⟨by rfl, ?_⟩) (by assumption) ?_
              rotate_left
              · (intro w9 hSw; (try dsimp only at hSw); go_simp <;> with_reducible rfl)
              try simp only [Act.put, List.setIfInBounds_toArray, List.set_cons_zero, List.set_cons_succ]
              refine wpAnyH_take (i := 31) (v := ?_) (by simp only [List.getElem?_toArray, List.getElem?_cons_zero, List.getElem?_cons_succ]; rfl) (by kernel_rfl) (by kernel_rfl) (by kernel_rfl) (by intro _ _ _ h; exact h) (Or.inl ⟨by rfl, ?_⟩) (by assumption) ?_
              rotate_left
              · (intro w9 hSw; (try dsimp only at hSw); go_simp <;> with_reducible rfl)
              try simp only [Act.put, List.setIfInBounds_toArray, List.set_cons_zero, List.set_cons_succ]
              refine wpAnyH_take (i := 32) (v := ?_) (by simp only [List.getElem?_toArray, List.getElem?_cons_zero, List.getElem?_cons_succ]; rfl) (by kernel_rfl) (by kernel_rfl) (by kernel_rfl) (by intro _ _ _ h; exact h) (Or.inl ⟨by rfl, ?_⟩) (by assumption) ?_
              rotate_left
              · (intro w9 hSw; (try dsimp only at hSw); go_simp <;> with_reducible rfl)
              try simp only [Act.put, List.setIfInBounds_toArray, List.set_cons_zero, List.set_cons_succ]
              refine wpAnyH_take (i := 33) (v := ?_) (by simp only [List.getElem?_toArray, List.getElem?_cons_zero, List.getElem?_cons_succ]; rfl) (by kernel_rfl) (by kernel_rfl) (by kernel_rfl) (by intro _ _ _ h; exact h) (Or.inl ⟨by rfl, ?_⟩) (by assumption) ?_
              rotate_left
              · (intro w9 hSw; (try dsimp only at hSw); go_simp <;> with_reducible rfl)
              try simp only [Act.put, List.setIfInBounds_toArray, List.set_cons_zero, List.set_cons_succ]
              refine wpAnyH_take (i := 34) (v := ?_) (by simp only [List.getElem?_toArray, List.getElem?_cons_zero, List.getElem?_cons_succ]; rfl) (by kernel_rfl) (by kernel_rfl) (by kernel_rfl) (by intro _ _ _ h; exact h) (Or.inl ⟨by rfl, ?_⟩) (by assumption) ?_
              rotate_left
              · (intro w9 hSw; (try dsimp only at hSw); go_simp <;> with_reducible rfl)
              try simp only [Act.put, List.setIfInBounds_toArray, List.set_cons_zero, List.set_cons_succ]
              refine wpAnyH_take (i := 35) (v := ?_) (by simp only [List.getElem?_toArray, List.getElem?_cons_zero, List.getElem?_cons_succ]; rfl) (by kernel_rfl) (by kernel_rfl) (by kernel_rfl) (by intro _ _ _ h; exact h) (Or.inl ⟨by rfl, ?_⟩) (by assumption) ?_
              rotate_left
              · (intro w9 hSw; (try dsimp only at hSw); go_simp <;> with_reducible rfl)
              try simp only [Act.put, List.setIfInBounds_toArray, List.set_cons_zero, List.set_cons_succ]
              refine wpAnyH_take (i := 36) (v := ?_) (by simp only [List.getElem?_toArray, List.getElem?_cons_zero, List.getElem?_cons_succ]; rfl) (by kernel_rfl) (by kernel_rfl) (by kernel_rfl) (by intro _ _ _ h; exact h) (Or.inl ⟨by rfl, ?_⟩) (by assumption) ?_
              rotate_left
              · (intro w9 hSw; (try dsimp only at hSw); go_simp <;> with_reducible rfl)
              try simp only [Act.put, List.setIfInBounds_toArray, List.set_cons_zero, List.set_cons_succ]
              refine wpAnyH_take (i := 37) (v := ?_) (by simp only [List.getElem?_toArray, List.getElem?_cons_zero, List.getElem?_cons_succ]; rfl) (by kernel_rfl) (by kernel_rfl) (by kernel_rfl) (by intro _ _ _ h; exact h) (Or.inl ⟨by rfl, ?_⟩) (by assumption) ?_
              rotate_left
              · (intro w9 hSw; (try dsimp only at hSw); go_simp <;> with_reducible rfl)
              try simp only [Act.put, List.setIfInBounds_toArray, List.set_cons_zero, List.set_cons_succ]
              refine wpAnyH_take (i := 38) (v := ?_) (by simp only [List.getElem?_toArray, List.getElem?_cons_zero, List.getElem?_cons_succ]; rfl) (by kernel_rfl) (by kernel_rfl) (by kernel_rfl) (by intro _ _ _ h; exact h) (Or.inl ⟨by rfl, ?_⟩) (by assumption) ?_
              rotate_left
              · (intro w9 hSw; (try dsimp only at hSw); go_simp <;> with_reducible rfl)
              try simp only [Act.put, List.setIfInBounds_toArray, List.set_cons_zero, List.set_cons_succ]
              refine wpAnyH_take (i := 39) (v := ?_) (by simp only [List.getElem?_toArray, List.getElem?_cons_zero, List.getElem?_cons_succ]; rfl) (by kernel_rfl) (by kernel_rfl) (by kernel_rfl) (by intro _ _ _ h; exact h) (Or.inl ⟨by rfl, ?_⟩) (by assumption) ?_
              rotate_left
              · (intro w9 hSw; (try dsimp only at hSw); go_simp <;> with_reducible rfl)
              try simp only [Act.put, List.setIfInBounds_toArray, List.set_cons_zero, List.set_cons_succ]
              refine wpAnyH_done (by kernel_rfl) ?_ _
              have b8 : Below w7.heap.size w7 w8 := bel_trans (bel_alloc hbw (.cells #[.int .i64 A, .int .i64 (A + z)] 33)) (bel_trans (bel_drew (Below.refl _ _)) hb8)
              have t2 : w8.cell? ⟨w1.heap.size, 2, none⟩ = some (.int .i64 3) := (b8.cell (p := ⟨w1.heap.size, 2, none⟩) z7).trans x2
              have t4 : w8.cell? ⟨w1.heap.size, 4, none⟩ = some (.int .i64 q) := (b8.cell (p := ⟨w1.heap.size, 4, none⟩) z7).trans x4
              clear hHeld
              go_wp2
              go_roundw
              case rel => exact ⟨(j + 1) + 1, by go_num, by omega, (by repeat (first | (with_reducible exact Below.refl _ _) | (with_reducible assumption) | (with_reducible refine bel_set ?_ (by first | (simp; done) | (simp; omega)) _) | (with_reducible refine bel_alloc ?_ _) | (with_reducible refine bel_drew ?_)))⟩
              case measure => simp [intOf]; omega
            · have m1 : A.tmod q = 0 := by rw [Int.tmod_eq_emod_of_nonneg wlo]; exact wk2 rfl
              have m2 : A % q = 0 := wk2 rfl
              obtain ⟨q1, q2, q3⟩ := hkp rfl
              have m3 : ¬ q = 0 := by omega
              go_wp2_with fail
              refine wp_region_held_drew (S := (fun W => W.cell? ⟨wr.heap.size, 0, none⟩ = some (.int .i64 A) ∧ W.cell? ⟨wr.heap.size, 1, none⟩ = some (.int .i64 (A + z)) ∧ W.cell? ⟨w1.heap.size, 3, none⟩ = some (.int .i64 z) ∧ W.cell? ⟨g, o + j * 2, none⟩ = some (.int .i64 Y))) (by kernel_rfl) ?_ (fun hHeld => ?_)
              · (try dsimp only); exact ⟨by first | (with_reducible assumption) | (simp [go_sem, *]; done), by first | (with_reducible assumption) | (simp [go_sem, *]; done), by first | (with_reducible assumption) | (simp [go_sem, *]; done), by first | (with_reducible assumption) | (simp [go_sem, *]; done)⟩
              refine wpAnyH_take (i := 0) (v := ?_) (by simp only [List.getElem?_toArray, List.getElem?_cons_zero, List.getElem?_cons_succ]; rfl) (by kernel_rfl) (by kernel_rfl) (by kernel_rfl) (by intro _ _ _ h; exact h) (Or.inl ⟨by rfl, ?_⟩) (by assumption) ?_
              rotate_left
              · (intro w9 hSw; (try dsimp only at hSw); go_simp <;> with_reducible rfl)
              try simp only [Act.put, List.setIfInBounds_toArray, List.set_cons_zero, List.set_cons_succ]
              refine wpAnyH_ready (rs := [1]) (by kernel_rfl) (by simp) ?_
              refine AllReadyH.cons (by simp only [List.getElem?_toArray, List.getElem?_cons_zero, List.getElem?_cons_succ]; rfl) (fun K hK => ?_) AllReadyH.nil
              go_simp
              (go_at_call 13; refine (winok_is A (A + z) _ (hide hok)).mono ?_; rintro e' w8 ⟨rfl, hb8⟩; have z8 : wr.heap.size < w8.heap.size := (by have h9 := hb8.size; (try simp at h9); omega); have s0 : w8.cell? ⟨wr.heap.size, 0, none⟩ = some (.int .i64 A) := (hb8.cell (p := ⟨wr.heap.size, 0, none⟩) (by first | (simp; done) | (simp; omega))).trans (by first | (with_reducible assumption) | (simp [go_sem, *]; done)); have s1 : w8.cell? ⟨wr.heap.size, 1, none⟩ = some (.int .i64 (A + z)) := (hb8.cell (p := ⟨wr.heap.size, 1, none⟩) (by first | (simp; done) | (simp; omega))).trans (by first | (with_reducible assumption) | (simp [go_sem, *]; done)); have s2 : w8.cell? ⟨w1.heap.size, 3, none⟩ = some (.int .i64 z) := (hb8.cell (p := ⟨w1.heap.size, 3, none⟩) (by first | (simp; done) | (simp; omega))).trans (by first | (with_reducible assumption) | (simp [go_sem, *]; done)); have s3 : w8.cell? ⟨g, o + j * 2, none⟩ = some (.int .i64 Y) := (hb8.cell (p := ⟨g, o + j * 2, none⟩) (by first | (simp; done) | (simp; omega))).trans (by first | (with_reducible assumption) | (simp [go_sem, *]; done)))
              (try go_wp2_with fail)
              refine hK.out _ _ ?_ (fun hHeld2 => ?_)
              · (try dsimp only); exact ⟨by first | (with_reducible assumption) | (simp [go_sem, *]; done), by first | (with_reducible assumption) | (simp [go_sem, *]; done), by first | (with_reducible assumption) | (simp [go_sem, *]; done), by first | (with_reducible assumption) | (simp [go_sem, *]; done)⟩
              clear hK K hHeld
              have hHeld := hHeld2
              clear hHeld2
              try simp only [Act.put, List.setIfInBounds_toArray, List.set_cons_zero, List.set_cons_succ]
              refine wpAnyH_take (i := 2) (v := ?_) (by simp only [List.getElem?_toArray, List.getElem?_cons_zero, List.getElem?_cons_succ]; rfl) (by kernel_rfl) (by kernel_rfl) (by kernel_rfl) (by intro _ _ _ h; exact h) (Or.inl ⟨by rfl, ?_⟩) (by assumption) ?_
              rotate_left
              · (intro w9 hSw; (try dsimp only at hSw); go_simp <;> with_reducible rfl)
              try simp only [Act.put, List.setIfInBounds_toArray, List.set_cons_zero, List.set_cons_succ]
              refine wpAnyH_take (i := 3) (v := ?_) (by simp only [List.getElem?_toArray, List.getElem?_cons_zero, List.getElem?_cons_succ]; rfl) (by kernel_rfl) (by kernel_rfl) (by kernel_rfl) (by intro _ _ _ h; exact h) (Or.inl ⟨by rfl, ?_⟩) (by assumption) ?_
              rotate_left
              · (intro w9 hSw; (try dsimp only at hSw); go_simp <;> with_reducible rfl)
              try simp only [Act.put, List.setIfInBounds_toArray, List.set_cons_zero, List.set_cons_succ]
              refine wpAnyH_take (i := 4) (v := ?_) (by simp only [List.getElem?_toArray, List.getElem?_cons_zero, List.getElem?_cons_succ]; rfl) (by kernel_rfl) (by kernel_rfl) (by kernel_rfl) (by intro _ _ _ h; exact h) (Or.inl ⟨by rfl, ?_⟩) (by assumption) ?_
              rotate_left
              · (intro w9 hSw; (try dsimp only at hSw); go_simp <;> with_reducible rfl)
              try simp only [Act.put, List.setIfInBounds_toArray, List.set_cons_zero, List.set_cons_succ]
              refine wpAnyH_take (i := 5) (v := ?_) (by simp only [List.getElem?_toArray, List.getElem?_cons_zero, List.getElem?_cons_succ]; rfl) (by kernel_rfl) (by kernel_rfl) (by kernel_rfl) (by intro _ _ _ h; exact h) (Or.inl ⟨by rfl, ?_⟩) (by assumption) ?_
              rotate_left
              · (intro w9 hSw; (try dsimp only at hSw); go_simp <;> with_reducible rfl)
              try simp only [Act.put, List.setIfInBounds_toArray, List.set_cons_zero, List.set_cons_succ]
              refine wpAnyH_take (i := 6) (v := ?_) (by simp only [List.getElem?_toArray, List.getElem?_cons_zero, List.getElem?_cons_succ]; rfl) (by kernel_rfl) (by kernel_rfl) (by kernel_rfl) (by intro _ _ _ h; exact h) (Or.inl ⟨by rfl, ?_⟩) (by assumption) ?_
              rotate_left
              · (intro w9 hSw; (try dsimp only at hSw); go_simp <;> with_reducible rfl)
              try simp only [Act.put, List.setIfInBounds_toArray, List.set_cons_zero, List.set_cons_succ]
              refine wpAnyH_take (i := 7) (v := ?_) (by simp only [List.getElem?_toArray, List.getElem?_cons_zero, List.getElem?_cons_succ]; rfl) (by kernel_rfl) (by kernel_rfl) (by kernel_rfl) (by intro _ _ _ h; exact h) (Or.inl ⟨by rfl, ?_⟩) (by assumption) ?_
              rotate_left
              · (intro w9 hSw; (try dsimp only at hSw); go_simp <;> with_reducible rfl)
              try simp only [Act.put, List.setIfInBounds_toArray, List.set_cons_zero, List.set_cons_succ]
              refine wpAnyH_take (i := 8) (v := ?_) (by simp only [List.getElem?_toArray, List.getElem?_cons_zero, List.getElem?_cons_succ]; rfl) (by kernel_rfl) (by kernel_rfl) (by kernel_rfl) (by intro _ _ _ h; exact h) (Or.inl ⟨by rfl, ?_⟩) (by assumption) ?_
              rotate_left
              · (intro w9 hSw; (try dsimp only at hSw); go_simp <;> with_reducible rfl)
              try simp only [Act.put, List.setIfInBounds_toArray, List.set_cons_zero, List.set_cons_succ]
              refine wpAnyH_take (i := 9) (v := ?_) (by simp only [List.getElem?_toArray, List.getElem?_cons_zero, List.getElem?_cons_succ]; rfl) (by kernel_rfl) (by kernel_rfl) (by kernel_rfl) (by intro _ _ _ h; exact h) (Or.inl ⟨by rfl, ?_⟩) (by assumption) ?_
              rotate_left
              · (intro w9 hSw; (try dsimp only at hSw); go_simp <;> with_reducible rfl)
              try simp only [Act.put, List.setIfInBounds_toArray, List.set_cons_zero, List.set_cons_succ]
              refine wpAnyH_take (i := 10) (v := ?_) (by simp only [List.getElem?_toArray, List.getElem?_cons_zero, List.getElem?_cons_succ]; rfl) (by kernel_rfl) (by kernel_rfl) (by kernel_rfl) (by intro _ _ _ h; exact h) (Or.inl ⟨by rfl, ?_⟩) (by assumption) ?_
              rotate_left
              · (intro w9 hSw; (try dsimp only at hSw); go_simp <;> with_reducible rfl)
              try simp only [Act.put, List.setIfInBounds_toArray, List.set_cons_zero, List.set_cons_succ]
              refine wpAnyH_take (i := 11) (v := ?_) (by simp only [List.getElem?_toArray, List.getElem?_cons_zero, List.getElem?_cons_succ]; rfl) (by kernel_rfl) (by kernel_rfl) (by kernel_rfl) (by intro _ _ _ h; exact h) (Or.inl ⟨by rfl, ?_⟩) (by assumption) ?_
              rotate_left
              · (intro w9 hSw; (try dsimp only at hSw); go_simp <;> with_reducible rfl)
              try simp only [Act.put, List.setIfInBounds_toArray, List.set_cons_zero, List.set_cons_succ]
              refine wpAnyH_take (i := 12) (v := ?_) (by simp only [List.getElem?_toArray, List.getElem?_cons_zero, List.getElem?_cons_succ]; rfl) (by kernel_rfl) (by kernel_rfl) (by kernel_rfl) (by intro _ _ _ h; exact h) (Or.inl ⟨by rfl, ?_⟩) (by assumption) ?_
              rotate_left
              · (intro w9 hSw; (try dsimp only at hSw); go_simp <;> with_reducible rfl)
              try simp only [Act.put, List.setIfInBounds_toArray, List.set_cons_zero, List.set_cons_succ]
              refine wpAnyH_take (i := 13) (v := ?_) (by simp only [List.getElem?_toArray, List.getElem?_cons_zero, List.getElem?_cons_succ]; rfl) (by kernel_rfl) (by kernel_rfl) (by kernel_rfl) (by intro _ _ _ h; exact h) (Or.inl ⟨by rfl, ?_⟩) (by assumption) ?_
              rotate_left
              · (intro w9 hSw; (try dsimp only at hSw); go_simp <;> with_reducible rfl)
              try simp only [Act.put, List.setIfInBounds_toArray, List.set_cons_zero, List.set_cons_succ]
              refine wpAnyH_take (i := 14) (v := ?_) (by simp only [List.getElem?_toArray, List.getElem?_cons_zero, List.getElem?_cons_succ]; rfl) (by kernel_rfl) (by kernel_rfl) (by kernel_rfl) (by intro _ _ _ h; exact h) (Or.inl ⟨by rfl, ?_⟩) (by assumption) ?_
              rotate_left
              · (intro w9 hSw; (try dsimp only at hSw); go_simp <;> with_reducible rfl)
              try simp only [Act.put, List.setIfInBounds_toArray, List.set_cons_zero, List.set_cons_succ]
              refine wpAnyH_take (i := 15) (v := ?_) (by simp only [List.getElem?_toArray, List.getElem?_cons_zero, List.getElem?_cons_succ]; rfl) (by kernel_rfl) (by kernel_rfl) (by kernel_rfl) (by intro _ _ _ h; exact h) (Or.inl ⟨by rfl, ?_⟩) (by assumption) ?_
              rotate_left
              · (intro w9 hSw; (try dsimp only at hSw); go_simp <;> with_reducible rfl)
              try simp only [Act.put, List.setIfInBounds_toArray, List.set_cons_zero, List.set_cons_succ]
              refine wpAnyH_take (i := 16) (v := ?_) (by simp only [List.getElem?_toArray, List.getElem?_cons_zero, List.getElem?_cons_succ]; rfl) (by kernel_rfl) (by kernel_rfl) (by kernel_rfl) (by intro _ _ _ h; exact h) (Or.inl ⟨by rfl, ?_⟩) (by assumption) ?_
              rotate_left
              · (intro w9 hSw; (try dsimp only at hSw); go_simp <;> with_reducible rfl)
              try simp only [Act.put, List.setIfInBounds_toArray, List.set_cons_zero, List.set_cons_succ]
              refine wpAnyH_take (i := 17) (v := ?_) (by simp only [List.getElem?_toArray, List.getElem?_cons_zero, List.getElem?_cons_succ]; rfl) (by kernel_rfl) (by kernel_rfl) (by kernel_rfl) (by intro _ _ _ h; exact h) (Or.inl ⟨by rfl, ?_⟩) (by assumption) ?_
              rotate_left
              · (intro w9 hSw; (try dsimp only at hSw); go_simp <;> with_reducible rfl)
              try simp only [Act.put, List.setIfInBounds_toArray, List.set_cons_zero, List.set_cons_succ]
              refine wpAnyH_take (i := 18) (v := ?_) (by simp only [List.getElem?_toArray, List.getElem?_cons_zero, List.getElem?_cons_succ]; rfl) (by kernel_rfl) (by kernel_rfl) (by kernel_rfl) (by intro _ _ _ h; exact h) (Or.inl ⟨by rfl, ?_⟩) (by assumption) ?_
              rotate_left
              · (intro w9 hSw; (try dsimp only at hSw); go_simp <;> with_reducible rfl)
              try simp only [Act.put, List.setIfInBounds_toArray, List.set_cons_zero, List.set_cons_succ]
              refine wpAnyH_take (i := 19) (v := ?_) (by simp only [List.getElem?_toArray, List.getElem?_cons_zero, List.getElem?_cons_succ]; rfl) (by kernel_rfl) (by kernel_rfl) (by kernel_rfl) (by intro _ _ _ h; exact h) (Or.inl ⟨by rfl, ?_⟩) (by assumption) ?_
              rotate_left
              · (intro w9 hSw; (try dsimp only at hSw); go_simp <;> with_reducible rfl)
              try simp only [Act.put, List.setIfInBounds_toArray, List.set_cons_zero, List.set_cons_succ]
              refine wpAnyH_take (i := 20) (v := ?_) (by simp only [List.getElem?_toArray, List.getElem?_cons_zero, List.getElem?_cons_succ]; rfl) (by kernel_rfl) (by kernel_rfl) (by kernel_rfl) (by intro _ _ _ h; exact h) (Or.inl ⟨by rfl, ?_⟩) (by assumption) ?_
              rotate_left
              · (intro w9 hSw; (try dsimp only at hSw); go_simp <;> with_reducible rfl)
              try simp only [Act.put, List.setIfInBounds_toArray, List.set_cons_zero, List.set_cons_succ]
              refine wpAnyH_take (i := 21) (v := ?_) (by simp only [List.getElem?_toArray, List.getElem?_cons_zero, List.getElem?_cons_succ]; rfl) (by kernel_rfl) (by kernel_rfl) (by kernel_rfl) (by intro _ _ _ h; exact h) (Or.inl ⟨by rfl, ?_⟩) (by assumption) ?_
              rotate_left
              · (intro w9 hSw; (try dsimp only at hSw); go_simp <;> with_reducible rfl)
              try simp only [Act.put, List.setIfInBounds_toArray, List.set_cons_zero, List.set_cons_succ]
              refine wpAnyH_take (i := 22) (v := ?_) (by simp only [List.getElem?_toArray, List.getElem?_cons_zero, List.getElem?_cons_succ]; rfl) (by kernel_rfl) (by kernel_rfl) (by kernel_rfl) (by intro _ _ _ h; exact h) (Or.inl ⟨by rfl, ?_⟩) (by assumption) ?_
              rotate_left
              · (intro w9 hSw; (try dsimp only at hSw); go_simp <;> with_reducible rfl)
              try simp only [Act.put, List.setIfInBounds_toArray, List.set_cons_zero, List.set_cons_succ]
              refine wpAnyH_take (i := 23) (v := ?_) (by simp only [List.getElem?_toArray, List.getElem?_cons_zero, List.getElem?_cons_succ]; rfl) (by kernel_rfl) (by kernel_rfl) (by kernel_rfl) (by intro _ _ _ h; exact h) (Or.inl ⟨by rfl, ?_⟩) (by assumption) ?_
              rotate_left
              · (intro w9 hSw; (try dsimp only at hSw); go_simp <;> with_reducible rfl)
              try simp only [Act.put, List.setIfInBounds_toArray, List.set_cons_zero, List.set_cons_succ]
              refine wpAnyH_take (i := 24) (v := ?_) (by simp only [List.getElem?_toArray, List.getElem?_cons_zero, List.getElem?_cons_succ]; rfl) (by kernel_rfl) (by kernel_rfl) (by kernel_rfl) (by intro _ _ _ h; exact h) (Or.inl ⟨by rfl, ?_⟩) (by assumption) ?_
              rotate_left
              · (intro w9 hSw; (try dsimp only at hSw); go_simp <;> with_reducible rfl)
              try simp only [Act.put, List.setIfInBounds_toArray, List.set_cons_zero, List.set_cons_succ]
              refine wpAnyH_take (i := 25) (v := ?_) (by simp only [List.getElem?_toArray, List.getElem?_cons_zero, List.getElem?_cons_succ]; rfl) (by kernel_rfl) (by kernel_rfl) (by kernel_rfl) (by intro _ _ _ h; exact h) (Or.inl ⟨by rfl, ?_⟩) (by assumption) ?_
              rotate_left
              · (intro w9 hSw; (try dsimp only at hSw); go_simp <;> with_reducible rfl)
              try simp only [Act.put, List.setIfInBounds_toArray, List.set_cons_zero, List.set_cons_succ]
              refine wpAnyH_take (i := 26) (v := ?_) (by simp only [List.getElem?_toArray, List.getElem?_cons_zero, List.getElem?_cons_succ]; rfl) (by kernel_rfl) (by kernel_rfl) (by kernel_rfl) (by intro _ _ _ h; exact h) (Or.inl ⟨by rfl, ?_⟩) (by assumption) ?_
              rotate_left
              · (intro w9 hSw; (try dsimp only at hSw); go_simp <;> with_reducible rfl)
              try simp only [Act.put, List.setIfInBounds_toArray, List.set_cons_zero, List.set_cons_succ]
              refine wpAnyH_take (i := 27) (v := ?_) (by simp only [List.getElem?_toArray, List.getElem?_cons_zero, List.getElem?_cons_succ]; rfl) (by kernel_rfl) (by kernel_rfl) (by kernel_rfl) (by intro _ _ _ h; exact h) (Or.inl ⟨by rfl, ?_⟩) (by assumption) ?_
              rotate_left
              · (intro w9 hSw; (try dsimp only at hSw); go_simp <;> with_reducible rfl)
              try simp only [Act.put, List.setIfInBounds_toArray, List.set_cons_zero, List.set_cons_succ]
              refine wpAnyH_take (i := 28) (v := ?_) (by simp only [List.getElem?_toArray, List.getElem?_cons_zero, List.getElem?_cons_succ]; rfl) (by kernel_rfl) (by kernel_rfl) (by kernel_rfl) (by intro _ _ _ h; exact h) (Or.inl ⟨by rfl, ?_⟩) (by assumption) ?_
              rotate_left
              · (intro w9 hSw; (try dsimp only at hSw); go_simp <;> with_reducible rfl)
              try simp only [Act.put, List.setIfInBounds_toArray, List.set_cons_zero, List.set_cons_succ]
              refine wpAnyH_take (i := 29) (v := ?_) (by simp only [List.getElem?_toArray, List.getElem?_cons_zero, List.getElem?_cons_succ]; rfl) (by kernel_rfl) (by kernel_rfl) (by kernel_rfl) (by intro _ _ _ h; exact h) (Or.inl ⟨by rfl, ?_⟩) (by assumption) ?_
              rotate_left
              · (intro w9 hSw; (try dsimp only at hSw); go_simp <;> with_reducible rfl)
              try simp only [Act.put, List.setIfInBounds_toArray, List.set_cons_zero, List.set_cons_succ]
              refine wpAnyH_take (i := 30) (v := ?_) (by simp only [List.getElem?_toArray, List.getElem?_cons_zero, List.getElem?_cons_succ]; rfl) (by kernel_rfl) (by kernel_rfl) (by kernel_rfl) (by intro _ _ _ h; exact h) (Or.inl ⟨by rfl, ?_⟩) (by assumption) ?_
              rotate_left
              · (intro w9 hSw; (try dsimp only at hSw); go_simp <;> with_reducible rfl)
              try simp only [Act.put, List.setIfInBounds_toArray, List.set_cons_zero, List.set_cons_succ]
              refine wpAnyH_take (i := 31) (v := ?_) (by simp only [List.getElem?_toArray, List.getElem?_cons_zero, List.getElem?_cons_succ]; rfl) (by kernel_rfl) (by kernel_rfl) (by kernel_rfl) (by intro _ _ _ h; exact h) (Or.inl ⟨by rfl, ?_⟩) (by assumption) ?_
              rotate_left
              · (intro w9 hSw; (try dsimp only at hSw); go_simp <;> with_reducible rfl)
              try simp only [Act.put, List.setIfInBounds_toArray, List.set_cons_zero, List.set_cons_succ]
              refine wpAnyH_take (i := 32) (v := ?_) (by simp only [List.getElem?_toArray, List.getElem?_cons_zero, List.getElem?_cons_succ]; rfl) (by kernel_rfl) (by kernel_rfl) (by kernel_rfl) (by intro _ _ _ h; exact h) (Or.inl ⟨by rfl, ?_⟩) (by assumption) ?_
              rotate_left
              · (intro w9 hSw; (try dsimp only at hSw); go_simp <;> with_reducible rfl)
              try simp only [Act.put, List.setIfInBounds_toArray, List.set_cons_zero, List.set_cons_succ]
              refine wpAnyH_take (i := 33) (v := ?_) (by simp only [List.getElem?_toArray, List.getElem?_cons_zero, List.getElem?_cons_succ]; rfl) (by kernel_rfl) (by kernel_rfl) (by kernel_rfl) (by intro _ _ _ h; exact h) (Or.inl ⟨by rfl, ?_⟩) (by assumption) ?_
              rotate_left
              · (intro w9 hSw; (try dsimp only at hSw); go_simp <;> with_reducible rfl)
              try simp only [Act.put, List.setIfInBounds_toArray, List.set_cons_zero, List.set_cons_succ]
              refine wpAnyH_take (i := 34) (v := ?_) (by simp only [List.getElem?_toArray, List.getElem?_cons_zero, List.getElem?_cons_succ]; rfl) (by kernel_rfl) (by kernel_rfl) (by kernel_rfl) (by intro _ _ _ h; exact h) (Or.inl ⟨by rfl, ?_⟩) (by assumption) ?_
              rotate_left
              · (intro w9 hSw; (try dsimp only at hSw); go_simp <;> with_reducible rfl)
              try simp only [Act.put, List.setIfInBounds_toArray, List.set_cons_zero, List.set_cons_succ]
              refine wpAnyH_take (i := 35) (v := ?_) (by simp only [List.getElem?_toArray, List.getElem?_cons_zero, List.getElem?_cons_succ]; rfl) (by kernel_rfl) (by kernel_rfl) (by kernel_rfl) (by intro _ _ _ h; exact h) (Or.inl ⟨by rfl, ?_⟩) (by assumption) ?_
              rotate_left
              · (intro w9 hSw; (try dsimp only at hSw); go_simp <;> with_reducible rfl)
              try simp only [Act.put, List.setIfInBounds_toArray, List.set_cons_zero, List.set_cons_succ]
              refine wpAnyH_take (i := 36) (v := ?_) (by simp only [List.getElem?_toArray, List.getElem?_cons_zero, List.getElem?_cons_succ]; rfl) (by kernel_rfl) (by kernel_rfl) (by kernel_rfl) (by intro _ _ _ h; exact h) (Or.inl ⟨by rfl, ?_⟩) (by assumption) ?_
              rotate_left
              · (intro w9 hSw; (try dsimp only at hSw); go_simp <;> with_reducible rfl)
              try simp only [Act.put, List.setIfInBounds_toArray, List.set_cons_zero, List.set_cons_succ]
              refine wpAnyH_take (i := 37) (v := ?_) (by simp only [List.getElem?_toArray, List.getElem?_cons_zero, List.getElem?_cons_succ]; rfl) (by kernel_rfl) (by kernel_rfl) (by kernel_rfl) (by intro _ _ _ h; exact h) (Or.inl ⟨by rfl, ?_⟩) (by assumption) ?_
              rotate_left
              · (intro w9 hSw; (try dsimp only at hSw); go_simp <;> with_reducible rfl)
              try simp only [Act.put, List.setIfInBounds_toArray, List.set_cons_zero, List.set_cons_succ]
              refine wpAnyH_take (i := 38) (v := ?_) (by simp only [List.getElem?_toArray, List.getElem?_cons_zero, List.getElem?_cons_succ]; rfl) (by kernel_rfl) (by kernel_rfl) (by kernel_rfl) (by intro _ _ _ h; exact h) (Or.inl ⟨by rfl, ?_⟩) (by assumption) ?_
              rotate_left
              · (intro w9 hSw; (try dsimp only at hSw); go_simp <;> with_reducible rfl)
              try simp only [Act.put, List.setIfInBounds_toArray, List.set_cons_zero, List.set_cons_succ]
              refine wpAnyH_take (i := 39) (v := ?_) (by simp only [List.getElem?_toArray, List.getElem?_cons_zero, List.getElem?_cons_succ]; rfl) (by kernel_rfl) (by kernel_rfl) (by kernel_rfl) (by intro _ _ _ h; exact h) (Or.inl ⟨by rfl, ?_⟩) (by assumption) ?_
              rotate_left
              · (intro w9 hSw; (try dsimp only at hSw); go_simp <;> with_reducible rfl)
              try simp only [Act.put, List.setIfInBounds_toArray, List.set_cons_zero, List.set_cons_succ]
              refine wpAnyH_done (by kernel_rfl) ?_ _
              have b8 : Below w7.heap.size w7 w8 := bel_trans (bel_alloc hbw (.cells #[.int .i64 A, .int .i64 (A + z)] 33)) (bel_trans (bel_drew (Below.refl _ _)) hb8)
              have t2 : w8.cell? ⟨w1.heap.size, 2, none⟩ = some (.int .i64 2) := (b8.cell (p := ⟨w1.heap.size, 2, none⟩) z7).trans x2
              have t4 : w8.cell? ⟨w1.heap.size, 4, none⟩ = some (.int .i64 q) := (b8.cell (p := ⟨w1.heap.size, 4, none⟩) z7).trans x4
              clear hHeld
              go_wp2
              go_roundw
              case rel => exact ⟨(j + 1) + 1, by go_num, by omega, (by repeat (first | (with_reducible exact Below.refl _ _) | (with_reducible assumption) | (with_reducible refine bel_set ?_ (by first | (simp; done) | (simp; omega)) _) | (with_reducible refine bel_alloc ?_ _) | (with_reducible refine bel_drew ?_)))⟩
              case measure => simp [intOf]; omega
        · have hix : ix = xs.length := by omega
          subst hix
          rcases hkk with rfl | rfl | rfl
          · have hL : xs.length = 1 := (unhide HIs).2.2.1 (by decide)
            simp only [hL]
            go_wp2
            go_ret
            exact ⟨by first | rfl | simp, (by repeat (first | (with_reducible exact Below.refl _ _) | (with_reducible assumption) | (with_reducible refine bel_set ?_ (by first | (simp; done) | (simp; omega)) _) | (with_reducible refine bel_alloc ?_ _) | (with_reducible refine bel_drew ?_) | (with_reducible refine bel_trans ?_ (by with_reducible assumption))))⟩
          · have hL : xs.length = 1 := (unhide HIs).2.2.1 (by decide)
            simp only [hL]
            go_wp2
            go_ret
            exact ⟨by first | rfl | simp, (by repeat (first | (with_reducible exact Below.refl _ _) | (with_reducible assumption) | (with_reducible refine bel_set ?_ (by first | (simp; done) | (simp; omega)) _) | (with_reducible refine bel_alloc ?_ _) | (with_reducible refine bel_drew ?_) | (with_reducible refine bel_trans ?_ (by with_reducible assumption))))⟩
          · obtain ⟨q1, q2, q3⟩ := hkp rfl
            have hX := (unhide HIs).2.2.2 rfl
            have H0 : 0 + (slideGo z q T (61 - 0) 0).length = xs.length := by rw [hX]; simp
            have HX := hide hX
            clear hX
            go_wp2
            go_loopw [8, 9] (fun nv sv w9 => ∃ (n m : Nat) (S : Int), nv = .int .i64 n ∧ sv = .int .i64 S ∧ Hid (S = q * (m : Int)) ∧ Hid (n + (slideGo z q T (61 - m) S).length = xs.length) ∧ (0 ≤ S ∧ S ≤ 80 ∧ (m : Int) ≤ S ∧ n ≤ 4) ∧ Below w7.heap.size w7 w9) (fun _ sv _ => (T + 1 - intOf sv).toNat)
            case atStart => exact ⟨0, 0, 0, rfl, rfl, hide (by simp), hide H0, ⟨by omega, by omega, by omega, by omega⟩, hbw⟩
            case round =>
              clear hbw y2 y3 y4
              obtain ⟨n, m, S, rfl, rfl, hS, hC, ⟨s0, s1, s2, s3⟩, hb9⟩ := hrel
              have y3 := (hb9.cell (p := ⟨w1.heap.size, 3, none⟩) z7).trans x3
              have y4 := (hb9.cell (p := ⟨w1.heap.size, 4, none⟩) z7).trans x4
              by_cases hs : S ≤ T
              · have hf : 61 - m = (61 - (m + 1)) + 1 := by omega
                have hq : S + q = q * ((m + 1 : Nat) : Int) := by rw [unhide hS]; push_cast; rw [Int.mul_add, Int.mul_one]
                have hm1 : ((m + 1 : Nat) : Int) ≤ S + q := by push_cast; omega
                have HQ := hide hq
                clear hq
                by_cases hin : T < S + z
                · have hC2 : Hid (n + 1 + (slideGo z q T (61 - (m + 1)) (S + q)).length = xs.length) := hide (by
                    have h9 := unhide hC
                    rw [hf, slideGo_in hs hin, List.length_cons] at h9
                    omega)
                  have hn4 : n + 1 ≤ 4 := by have := unhide hC2; omega
                  clear hf
                  go_wp2
                  go_roundw
                  case rel => exact ⟨n + 1, m + 1, S + q, by go_num, by go_num, HQ, hC2, ⟨by omega, by omega, hm1, hn4⟩, (by repeat (first | (with_reducible exact Below.refl _ _) | (with_reducible assumption) | (with_reducible refine bel_set ?_ (by first | (simp; done) | (simp; omega)) _) | (with_reducible refine bel_alloc ?_ _) | (with_reducible refine bel_drew ?_) | (with_reducible refine bel_trans ?_ (by with_reducible assumption))))⟩
                  case measure => simp [intOf]; omega
                · have hC2 : Hid (n + (slideGo z q T (61 - (m + 1)) (S + q)).length = xs.length) := hide (by
                    have h9 := unhide hC
                    rw [hf, slideGo_out hs hin] at h9
                    exact h9)
                  clear hf
                  go_wp2
                  go_roundw
                  case rel => exact ⟨n, m + 1, S + q, by go_num, by go_num, HQ, hC2, ⟨by omega, by omega, hm1, s3⟩, (by repeat (first | (with_reducible exact Below.refl _ _) | (with_reducible assumption) | (with_reducible refine bel_set ?_ (by first | (simp; done) | (simp; omega)) _) | (with_reducible refine bel_alloc ?_ _) | (with_reducible refine bel_drew ?_) | (with_reducible refine bel_trans ?_ (by with_reducible assumption))))⟩
                  case measure => simp [intOf]; omega
              · have hL : n = xs.length := by
                  have h9 := unhide hC
                  rw [slideGo_end hs] at h9
                  simpa using h9
                clear hC
                subst hL
                have l1 : decide (1 ≤ (xs.length : Int)) = true := decide_eq_true (by omega)
                have l2 : decide ((xs.length : Int) ≤ 4) = true := decide_eq_true (by omega)
                go_wp2
                go_ret
                exact ⟨by first | rfl | simp, (by repeat (first | (with_reducible exact Below.refl _ _) | (with_reducible assumption) | (with_reducible refine bel_set ?_ (by first | (simp; done) | (simp; omega)) _) | (with_reducible refine bel_alloc ?_ _) | (with_reducible refine bel_drew ?_) | (with_reducible refine bel_trans ?_ (by with_reducible assumption))))⟩
  · go_enter Try.func3, Try.ntmps3
    go_wp2
    go_ret
    exact ⟨rfl, Below.refl _ _⟩
end Go.Proofs.Ytijgbahmlldffaa
