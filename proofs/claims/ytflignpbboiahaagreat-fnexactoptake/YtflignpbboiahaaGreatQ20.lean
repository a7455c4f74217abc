/- Laid together: what the claim needs of the texts that were built one by one. -/
import Derived.Test.YtflignpbboiahaaGreatQ6
import Derived.Test.YtflignpbboiahaaGreatQ0
import Derived.Test.YtflignpbboiahaaGreatQ7
import Derived.Deep.RegionHeld3
import Derived.Lib.SmallJoins
import Derived.RangeFuncLeaves
set_option linter.unusedVariables false
namespace Go.Proofs.YtflignpbboiahaaGreat
open Go.ChangeShapes Go.WideShapes Go.ChangeAt Go.RowKit
set_option maxHeartbeats 1000000 in
theorem implboth_any (n s l m n' s' l' m' : Int) (w : World) : Calls Tryz.prog 94 #[.agg #[.int .i64 n, .int .i64 s, .int .i64 l, .int .i64 m], .agg #[.int .i64 n', .int .i64 s', .int .i64 l', .int .i64 m']] w fun e w' => e = .returned (.agg #[.int .i64 (bo n n' n n' (wrap64 (n + n'))), .int .i64 (bo n n' s s' (wrap64 (s + s'))), .int .i64 (bo n n' l l' (loI l l')), .int .i64 (bo n n' m m' (hiI m m'))]) ∧ Below w.heap.size w w' := by
 go_enter Tryz.func94, Tryz.ntmps94
 go_wp2
 refine wp_loop_rounds 2 ?_
 rw [rounds_succ]
 go_wp2_with (first
  | (go_at_call 102; refine (both_any _ _ _ _ _ _ _ _ _).mono ?_; rintro e w' ⟨rfl, hb⟩; obtain ⟨hc, hf, hs⟩ := bcell hb; (try have hz0 := zA hb w.heap.size); (try have hz1 := zA hb (w.heap.size + 1)); (try have hz2 := zA hb (w.heap.size + 2)); (try have hz3 := zA hb (w.heap.size + 3)); (try have hz4 := zA hb (w.heap.size + 4)); (try have hz5 := zA hb (w.heap.size + 5)); (try have hz6 := zA hb (w.heap.size + 6))))
 rw [rounds_succ]
 go_wp2
 refine bodyPost_ret (v := .agg #[.int .i64 (bo n n' n n' (wrap64 (n + n'))), .int .i64 (bo n n' s s' (wrap64 (s + s'))), .int .i64 (bo n n' l l' (loI l l')), .int .i64 (bo n n' m m' (hiI m m'))]) (by simp [results, Tryz.results101, go_sem, hc]) rfl ?_
 go_wp2
 refine bodyPost_ret (v := .agg #[.int .i64 (bo n n' n n' (wrap64 (n + n'))), .int .i64 (bo n n' s s' (wrap64 (s + s'))), .int .i64 (bo n n' l l' (loI l l')), .int .i64 (bo n n' m m' (hiI m m'))]) (by simp [results, Tryz.results94, go_sem, hc]) rfl ⟨rfl, ?_⟩
 exact (belB)
set_option maxHeartbeats 1000000 in
theorem impladd_any (n s l m v : Int) (w : World) : Calls Tryz.prog 93 #[.agg #[.int .i64 n, .int .i64 s, .int .i64 l, .int .i64 m], .int .i64 v] w fun e w' => e = .returned (.agg #[.int .i64 (bo n 1 n 1 (wrap64 (n + 1))), .int .i64 (bo n 1 s v (wrap64 (s + v))), .int .i64 (bo n 1 l v (loI l v)), .int .i64 (bo n 1 m v (hiI m v))]) ∧ Below w.heap.size w w' := by
 go_enter Tryz.func93, Tryz.ntmps93
 go_wp2
 refine wp_loop_rounds 2 ?_
 rw [rounds_succ]
 go_wp2_with (first
  | (go_at_call 100; refine (with_any _ _ _ _ _ _).mono ?_; rintro e w' ⟨rfl, hb⟩; obtain ⟨hc, hf, hs⟩ := bcell hb; (try have hz0 := zA hb w.heap.size); (try have hz1 := zA hb (w.heap.size + 1)); (try have hz2 := zA hb (w.heap.size + 2)); (try have hz3 := zA hb (w.heap.size + 3)); (try have hz4 := zA hb (w.heap.size + 4)); (try have hz5 := zA hb (w.heap.size + 5)); (try have hz6 := zA hb (w.heap.size + 6))))
 rw [rounds_succ]
 go_wp2
 refine bodyPost_ret (v := .agg #[.int .i64 (bo n 1 n 1 (wrap64 (n + 1))), .int .i64 (bo n 1 s v (wrap64 (s + v))), .int .i64 (bo n 1 l v (loI l v)), .int .i64 (bo n 1 m v (hiI m v))]) (by simp [results, Tryz.results99, go_sem, hc]) rfl ?_
 go_wp2
 refine bodyPost_ret (v := .agg #[.int .i64 (bo n 1 n 1 (wrap64 (n + 1))), .int .i64 (bo n 1 s v (wrap64 (s + v))), .int .i64 (bo n 1 l v (loI l v)), .int .i64 (bo n 1 m v (hiI m v))]) (by simp [results, Tryz.results93, go_sem, hc]) rfl ⟨rfl, ?_⟩
 exact (belB)
end Go.Proofs.YtflignpbboiahaaGreat
namespace Go.Proofs.YtflignpbboiahaaGreat
open Go.ChangeShapes Go.WideShapes Go.ChangeAt Go.RowKit Go.Shelf Go.Maps
set_option linter.unusedSimpArgs false
theorem impladd_is (n s l m v : Int) (w : World) {g1 g2 g3 g4 : Int} (h : Hid (addA (n, s, l, m) v = (g1, g2, g3, g4))) : Calls Tryz.prog 93 #[.agg #[.int .i64 n, .int .i64 s, .int .i64 l, .int .i64 m], .int .i64 v] w fun e w' => e = .returned (.agg #[.int .i64 g1, .int .i64 g2, .int .i64 g3, .int .i64 g4]) ∧ Below w.heap.size w w' := by
 have h9 := unhide h
 unfold addA at h9
 simp only [Prod.mk.injEq] at h9
 obtain ⟨rfl, rfl, rfl, rfl⟩ := h9
 exact impladd_any n s l m v w
theorem implboth_is (n s l m n' s' l' m' : Int) (w : World) {g1 g2 g3 g4 : Int} (h : Hid (bothA (n, s, l, m) (n', s', l', m') = (g1, g2, g3, g4))) : Calls Tryz.prog 94 #[.agg #[.int .i64 n, .int .i64 s, .int .i64 l, .int .i64 m], .agg #[.int .i64 n', .int .i64 s', .int .i64 l', .int .i64 m']] w fun e w' => e = .returned (.agg #[.int .i64 g1, .int .i64 g2, .int .i64 g3, .int .i64 g4]) ∧ Below w.heap.size w w' := by
 have h9 := unhide h
 unfold bothA at h9
 simp only [Prod.mk.injEq] at h9
 obtain ⟨rfl, rfl, rfl, rfl⟩ := h9
 exact implboth_any n s l m n' s' l' m' w
set_option maxRecDepth 100000 in
set_option maxHeartbeats 4000000 in
theorem add_any (g : Nat) (x : OrR) (vv : Int) (w : World) (h : BxO w g x) : Calls Tryz.prog 82 #[.pointer (some ⟨g, 0, none⟩), .int .i64 vv] w fun e w' => e = .returned (.tuple #[]) ∧ BxO w' g (knowX x vv) ∧ w.grownBy w' (some g) := by
 obtain ⟨ky, st, en, an, asu, ale, amo, fn, fsu, fle, fmo, td, tm⟩ := x
 unfold BxO at h
 dsimp only at h
 have hg : g < w.heap.size := (Array.getElem?_eq_some_iff.1 h).1
 obtain ⟨⟨g1, g2, g3, g4⟩, hg1⟩ : ∃ r9, addA (an, asu, ale, amo) vv = r9 := ⟨_, rfl⟩
 obtain ⟨⟨f1, f2, f3, f4⟩, hf1⟩ : ∃ r9, addA (fn, fsu, fle, fmo) vv = r9 := ⟨_, rfl⟩
 have HK : Hid (knowX ⟨ky, st, en, an, asu, ale, amo, fn, fsu, fle, fmo, td, tm⟩ vv = ⟨ky, st, en, g1, g2, g3, g4, f1, f2, f3, f4, td, tm⟩) := hide (by unfold knowX allA frA; dsimp only; rw [hg1, hf1])
 have HG := hide hg1
 have HF := hide hf1
 clear hg1 hf1
 go_enter Tryz.func82, Tryz.ntmps82
 go_wp2_with fail
 refine wp_region_P [16, 19] (fun W => W.heap[g]? = some (.cells #[.int .i64 ky, .int .i64 st, .int .i64 en, .int .i64 an, .int .i64 asu, .int .i64 ale, .int .i64 amo, .int .i64 fn, .int .i64 fsu, .int .i64 fle, .int .i64 fmo, .int .i64 td, .bool tm] 76 (0, 0))) (by kernel_rfl) ?_ (fun hHeld => ?_)
 ·(try dsimp only); exact h
 refine wpAnyP_take0 (i := 0) (v := ?_) (by simp only [gA, gZ, gS]; rfl) (by kernel_rfl) (by kernel_rfl) (by kernel_rfl) (by kernel_rfl) (by intro _ _ _ h; exact h) (Or.inl ⟨by rfl, ?_⟩) (fun _ => by assumption) ?_
 rotate_left
 ·(intro w9 hSw; (try dsimp only at hSw); go_simp <;> with_reducible rfl)
 try simp only [Act.put, tA, tZ, tS]
 refine wpAnyP_take0 (i := 1) (v := ?_) (by simp only [gA, gZ, gS]; rfl) (by kernel_rfl) (by kernel_rfl) (by kernel_rfl) (by kernel_rfl) (by intro _ _ _ h; exact h) (Or.inl ⟨by rfl, ?_⟩) (fun _ => by assumption) ?_
 rotate_left
 ·(intro w9 hSw; (try dsimp only at hSw); go_simp <;> with_reducible rfl)
 try simp only [Act.put, tA, tZ, tS]
 refine wpAnyP_take0 (i := 2) (v := ?_) (by simp only [gA, gZ, gS]; rfl) (by kernel_rfl) (by kernel_rfl) (by kernel_rfl) (by kernel_rfl) (by intro _ _ _ h; exact h) (Or.inl ⟨by rfl, ?_⟩) (fun _ => by assumption) ?_
 rotate_left
 ·(intro w9 hSw; (try dsimp only at hSw); go_simp <;> with_reducible rfl)
 try simp only [Act.put, tA, tZ, tS]
 refine wpAnyP_take0 (i := 3) (v := ?_) (by simp only [gA, gZ, gS]; rfl) (by kernel_rfl) (by kernel_rfl) (by kernel_rfl) (by kernel_rfl) (by intro _ _ _ h; exact h) (Or.inl ⟨by rfl, ?_⟩) (fun _ => by assumption) ?_
 rotate_left
 ·(intro w9 hSw; (try dsimp only at hSw); go_simp <;> with_reducible rfl)
 try simp only [Act.put, tA, tZ, tS]
 refine wpAnyP_take0 (i := 4) (v := ?_) (by simp only [gA, gZ, gS]; rfl) (by kernel_rfl) (by kernel_rfl) (by kernel_rfl) (by kernel_rfl) (by intro _ _ _ h; exact h) (Or.inl ⟨by rfl, ?_⟩) (fun _ => by assumption) ?_
 rotate_left
 ·(intro w9 hSw; (try dsimp only at hSw); go_simp <;> with_reducible rfl)
 try simp only [Act.put, tA, tZ, tS]
 refine wpAnyP_take (i := 5) (v := ?_) (by simp only [gA, gZ, gS]; rfl) (by kernel_rfl) (by kernel_rfl) (by kernel_rfl) (by kernel_rfl) (by intro _ _ _ h; exact h) (Or.inl ⟨by rfl, ?_⟩) (by assumption) ?_
 rotate_left
 ·(intro w9 hSw; (try dsimp only at hSw); have q0 := hSw; have ax0 := cA q0 0; have ax1 := cA q0 1; have ax2 := cA q0 2; have ax3 := cA q0 3; have ax4 := cA q0 4; have ax5 := cA q0 5; have ax6 := cA q0 6; have ax7 := cA q0 7; have ax8 := cA q0 8; have ax9 := cA q0 9; have ax10 := cA q0 10; have ax11 := cA q0 11; have ax12 := cA q0 12; simp only [gA, gZ, gS] at ax0 ax1 ax2 ax3 ax4 ax5 ax6 ax7 ax8 ax9 ax10 ax11 ax12; go_simp <;> with_reducible rfl)
 try simp only [Act.put, tA, tZ, tS]
 refine wpAnyP_take0 (i := 6) (v := ?_) (by simp only [gA, gZ, gS]; rfl) (by kernel_rfl) (by kernel_rfl) (by kernel_rfl) (by kernel_rfl) (by intro _ _ _ h; exact h) (Or.inl ⟨by rfl, ?_⟩) (fun _ => by assumption) ?_
 rotate_left
 ·(intro w9 hSw; (try dsimp only at hSw); go_simp <;> with_reducible rfl)
 try simp only [Act.put, tA, tZ, tS]
 refine wpAnyP_take0 (i := 8) (v := ?_) (by simp only [gA, gZ, gS]; rfl) (by kernel_rfl) (by kernel_rfl) (by kernel_rfl) (by kernel_rfl) (by intro _ _ _ h; exact h) (Or.inl ⟨by rfl, ?_⟩) (fun _ => by assumption) ?_
 rotate_left
 ·(intro w9 hSw; (try dsimp only at hSw); go_simp <;> with_reducible rfl)
 try simp only [Act.put, tA, tZ, tS]
 refine wpAnyP_take0 (i := 9) (v := ?_) (by simp only [gA, gZ, gS]; rfl) (by kernel_rfl) (by kernel_rfl) (by kernel_rfl) (by kernel_rfl) (by intro _ _ _ h; exact h) (Or.inl ⟨by rfl, ?_⟩) (fun _ => by assumption) ?_
 rotate_left
 ·(intro w9 hSw; (try dsimp only at hSw); go_simp <;> with_reducible rfl)
 try simp only [Act.put, tA, tZ, tS]
 refine wpAnyP_take0 (i := 10) (v := ?_) (by simp only [gA, gZ, gS]; rfl) (by kernel_rfl) (by kernel_rfl) (by kernel_rfl) (by kernel_rfl) (by intro _ _ _ h; exact h) (Or.inl ⟨by rfl, ?_⟩) (fun _ => by assumption) ?_
 rotate_left
 ·(intro w9 hSw; (try dsimp only at hSw); go_simp <;> with_reducible rfl)
 try simp only [Act.put, tA, tZ, tS]
 refine wpAnyP_take (i := 11) (v := ?_) (by simp only [gA, gZ, gS]; rfl) (by kernel_rfl) (by kernel_rfl) (by kernel_rfl) (by kernel_rfl) (by intro _ _ _ h; exact h) (Or.inl ⟨by rfl, ?_⟩) (by assumption) ?_
 rotate_left
 ·(intro w9 hSw; (try dsimp only at hSw); have q0 := hSw; have ax0 := cA q0 0; have ax1 := cA q0 1; have ax2 := cA q0 2; have ax3 := cA q0 3; have ax4 := cA q0 4; have ax5 := cA q0 5; have ax6 := cA q0 6; have ax7 := cA q0 7; have ax8 := cA q0 8; have ax9 := cA q0 9; have ax10 := cA q0 10; have ax11 := cA q0 11; have ax12 := cA q0 12; simp only [gA, gZ, gS] at ax0 ax1 ax2 ax3 ax4 ax5 ax6 ax7 ax8 ax9 ax10 ax11 ax12; go_simp <;> with_reducible rfl)
 try simp only [Act.put, tA, tZ, tS]
 refine wpAnyP_take0 (i := 12) (v := ?_) (by simp only [gA, gZ, gS]; rfl) (by kernel_rfl) (by kernel_rfl) (by kernel_rfl) (by kernel_rfl) (by intro _ _ _ h; exact h) (Or.inl ⟨by rfl, ?_⟩) (fun _ => by assumption) ?_
 rotate_left
 ·(intro w9 hSw; (try dsimp only at hSw); go_simp <;> with_reducible rfl)
 try simp only [Act.put, tA, tZ, tS]
 refine wpAnyP_ready (rs := [7]) (by kernel_rfl) (by simp) ?_
 refine AllReadyP.cons (by simp only [gA, gZ, gS]; rfl) (fun K hK => ?_) AllReadyP.nil
 go_simp
 (go_at_call 93; refine (impladd_is _ _ _ _ _ _ HG).mono ?_; rintro e9 w1 ⟨rfl, hbw1⟩)
 (try go_wp2_with fail)
 have hw1 : w1.heap[g]? = some (.cells #[.int .i64 ky, .int .i64 st, .int .i64 en, .int .i64 an, .int .i64 asu, .int .i64 ale, .int .i64 amo, .int .i64 fn, .int .i64 fsu, .int .i64 fle, .int .i64 fmo, .int .i64 td, .bool tm] 76 (0, 0)) := (hbw1.block g (by show g < w.heap.size; omega)).trans h
 have zw1 : w.heap.size ≤ w1.heap.size := hbw1.size
 clear hHeld
 refine hK.out _ _ ?_ (fun hHeld => ?_)
 ·(try dsimp only); exact hw1
 clear hK K
 try simp only [Act.put, tA, tZ, tS]
 refine wpAnyP_ready (rs := [13]) (by kernel_rfl) (by simp) ?_
 refine AllReadyP.cons (by simp only [gA, gZ, gS]; rfl) (fun K hK => ?_) AllReadyP.nil
 go_simp
 (go_at_call 93; refine (impladd_is _ _ _ _ _ _ HF).mono ?_; rintro e9 w2 ⟨rfl, hbw2⟩)
 (try go_wp2_with fail)
 have hw2 : w2.heap[g]? = some (.cells #[.int .i64 ky, .int .i64 st, .int .i64 en, .int .i64 an, .int .i64 asu, .int .i64 ale, .int .i64 amo, .int .i64 fn, .int .i64 fsu, .int .i64 fle, .int .i64 fmo, .int .i64 td, .bool tm] 76 (0, 0)) := (hbw2.block g (by show g < w1.heap.size; omega)).trans hw1
 have zw2 : w1.heap.size ≤ w2.heap.size := hbw2.size
 clear hHeld
 refine hK.out _ _ ?_ (fun hHeld => ?_)
 ·(try dsimp only); exact hw2
 clear hK K
 try simp only [Act.put, tA, tZ, tS]
 refine wpAnyP_take0 (i := 14) (v := ?_) (by simp only [gA, gZ, gS]; rfl) (by kernel_rfl) (by kernel_rfl) (by kernel_rfl) (by kernel_rfl) (by intro _ _ _ h; exact h) (Or.inl ⟨by rfl, ?_⟩) (fun _ => by assumption) ?_
 rotate_left
 ·(intro w9 hSw; (try dsimp only at hSw); go_simp <;> with_reducible rfl)
 try simp only [Act.put, tA, tZ, tS]
 refine wpAnyP_take0 (i := 15) (v := ?_) (by simp only [gA, gZ, gS]; rfl) (by kernel_rfl) (by kernel_rfl) (by kernel_rfl) (by kernel_rfl) (by intro _ _ _ h; exact h) (Or.inl ⟨by rfl, ?_⟩) (fun _ => by assumption) ?_
 rotate_left
 ·(intro w9 hSw; (try dsimp only at hSw); go_simp <;> with_reducible rfl)
 try simp only [Act.put, tA, tZ, tS]
 have c0 := Joins.cell_of_block hw2 0
 have c1 := Joins.cell_of_block hw2 1
 have c2 := Joins.cell_of_block hw2 2
 have c3 := Joins.cell_of_block hw2 3
 have c4 := Joins.cell_of_block hw2 4
 have c5 := Joins.cell_of_block hw2 5
 have c6 := Joins.cell_of_block hw2 6
 have c7 := Joins.cell_of_block hw2 7
 have c8 := Joins.cell_of_block hw2 8
 have c9 := Joins.cell_of_block hw2 9
 have c10 := Joins.cell_of_block hw2 10
 have c11 := Joins.cell_of_block hw2 11
 have c12 := Joins.cell_of_block hw2 12
 simp only [gA, gZ, gS] at c0 c1 c2 c3 c4 c5 c6 c7 c8 c9 c10 c11 c12
 have cf3 := cF hw2 3
 have cf4 := cF hw2 4
 have cf5 := cF hw2 5
 have cf6 := cF hw2 6
 have cf7 := cF hw2 7
 have cf8 := cF hw2 8
 have cf9 := cF hw2 9
 have cf10 := cF hw2 10
 have zg2 : g < w2.heap.size := by omega
 refine wpAnyP_ready (rs := [16]) (by kernel_rfl) (by simp) ?_
 refine AllReadyP.consS (by simp only [gA, gZ, gS]; rfl) (by kernel_rfl) (fun K hK => ?_) AllReadyP.nil
 go_simp
 refine hK.out _ _ ?_
 clear hK K
 try simp only [Act.put, tA, tZ, tS]
 refine wpAnyP_take0 (i := 17) (v := ?_) (by simp only [gA, gZ, gS]; rfl) (by kernel_rfl) (by kernel_rfl) (by kernel_rfl) (by kernel_rfl) (by intro _ _ _ h; exact h) (Or.inl ⟨by rfl, ?_⟩) (SL_of (by kernel_rfl)) ?_
 rotate_left
 ·(intro w9 hSw; (try dsimp only at hSw); go_simp <;> with_reducible rfl)
 try simp only [Act.put, tA, tZ, tS]
 refine wpAnyP_take0 (i := 18) (v := ?_) (by simp only [gA, gZ, gS]; rfl) (by kernel_rfl) (by kernel_rfl) (by kernel_rfl) (by kernel_rfl) (by intro _ _ _ h; exact h) (Or.inl ⟨by rfl, ?_⟩) (SL_of (by kernel_rfl)) ?_
 rotate_left
 ·(intro w9 hSw; (try dsimp only at hSw); go_simp <;> with_reducible rfl)
 try simp only [Act.put, tA, tZ, tS]
 refine wpAnyP_ready (rs := [19]) (by kernel_rfl) (by simp) ?_
 refine AllReadyP.consS (by simp only [gA, gZ, gS]; rfl) (by kernel_rfl) (fun K hK => ?_) AllReadyP.nil
 go_simp
 refine hK.out _ _ ?_
 clear hK K
 try simp only [Act.put, tA, tZ, tS]
 refine wpAnyP_done (by kernel_rfl) ?_ _
 clear c0 c1 c2 c3 c4 c5 c6 c7 c8 c9 c10 c11 c12 cf3 cf4 cf5 cf6 cf7 cf8 cf9 cf10
 have s0 := Joins.block_setCell (g := g) (i := 3) hw2 (.int .i64 g1)
 have s1 := Joins.block_setCell (g := g) (i := 4) s0 (.int .i64 g2)
 have s2 := Joins.block_setCell (g := g) (i := 5) s1 (.int .i64 g3)
 have s3 := Joins.block_setCell (g := g) (i := 6) s2 (.int .i64 g4)
 have u0 := Joins.block_setCell (g := g) (i := 7) s3 (.int .i64 f1)
 have u1 := Joins.block_setCell (g := g) (i := 8) u0 (.int .i64 f2)
 have u2 := Joins.block_setCell (g := g) (i := 9) u1 (.int .i64 f3)
 have u3 : ((((((((w2.setCell ⟨g, 3, none⟩ (.int .i64 g1)).setCell ⟨g, 4, none⟩ (.int .i64 g2)).setCell ⟨g, 5, none⟩ (.int .i64 g3)).setCell ⟨g, 6, none⟩ (.int .i64 g4)).setCell ⟨g, 7, none⟩ (.int .i64 f1)).setCell ⟨g, 8, none⟩ (.int .i64 f2)).setCell ⟨g, 9, none⟩ (.int .i64 f3)).setCell ⟨g, 10, none⟩ (.int .i64 f4)).heap[g]? = some (.cells #[.int .i64 ky, .int .i64 st, .int .i64 en, .int .i64 g1, .int .i64 g2, .int .i64 g3, .int .i64 g4, .int .i64 f1, .int .i64 f2, .int .i64 f3, .int .i64 f4, .int .i64 td, .bool tm] 76 (0, 0)) := Joins.block_setCell u2 _
 have hgr0 : w.grownBy w2 (some g) := gb_bel (bel_trans (bel_trans (bel_drew (Below.refl _ _)) hbw1) hbw2)
 have hgr : w.grownBy ((((((((w2.setCell ⟨g, 3, none⟩ (.int .i64 g1)).setCell ⟨g, 4, none⟩ (.int .i64 g2)).setCell ⟨g, 5, none⟩ (.int .i64 g3)).setCell ⟨g, 6, none⟩ (.int .i64 g4)).setCell ⟨g, 7, none⟩ (.int .i64 f1)).setCell ⟨g, 8, none⟩ (.int .i64 f2)).setCell ⟨g, 9, none⟩ (.int .i64 f3)).setCell ⟨g, 10, none⟩ (.int .i64 f4)) (some g) := gb_set (gb_set (gb_set (gb_set (gb_set (gb_set (gb_set (gb_set (hgr0) (.inl rfl) _) (.inl rfl) _) (.inl rfl) _) (.inl rfl) _) (.inl rfl) _) (.inl rfl) _) (.inl rfl) _) (.inl rfl) _
 generalize ((((((((w2.setCell ⟨g, 3, none⟩ (.int .i64 g1)).setCell ⟨g, 4, none⟩ (.int .i64 g2)).setCell ⟨g, 5, none⟩ (.int .i64 g3)).setCell ⟨g, 6, none⟩ (.int .i64 g4)).setCell ⟨g, 7, none⟩ (.int .i64 f1)).setCell ⟨g, 8, none⟩ (.int .i64 f2)).setCell ⟨g, 9, none⟩ (.int .i64 f3)).setCell ⟨g, 10, none⟩ (.int .i64 f4)) = w3 at hgr u3 ⊢
 go_wp2
 refine ⟨rfl, .tuple #[], results_none rfl _ _ _, rfl, ?_, hgr⟩
 rw [unhide HK]
 exact u3
end Go.Proofs.YtflignpbboiahaaGreat
namespace Go.Proofs.YtflignpbboiahaaGreat
open Go.ChangeShapes Go.WideShapes Go.ChangeAt Go.RowKit
set_option linter.unusedSimpArgs false
set_option maxRecDepth 20000 in
set_option maxHeartbeats 4000000 in
theorem tell_any (g : Nat) (x : OrR) (pc : Bool) (w : World) (h : BxO w g x) (htd : 0 ≤ x.td ∧ x.td ≤ 100000) : Calls Tryz.prog 75 #[.pointer (some ⟨g, 0, none⟩), .bool pc] w fun e w' => e = .returned (.agg #[.int .i64 (panX pc x).ky, .int .i64 (panX pc x).st, .int .i64 (panX pc x).en, .int .i64 (panX pc x).no, .int .i64 (panX pc x).kd, .int .i64 (panX pc x).n, .int .i64 (panX pc x).su, .int .i64 (panX pc x).le, .int .i64 (panX pc x).mo]) ∧ BxO w' g (toldX x) ∧ w.grownBy w' (some g) := by
 obtain ⟨ky, st, en, an, asu, ale, amo, fn, fsu, fle, fmo, td, tm⟩ := x
 unfold BxO at h
 dsimp only at h htd
 have hg : g < w.heap.size := (Array.getElem?_eq_some_iff.1 h).1
 go_enter Tryz.func75, Tryz.ntmps75
 go_wp2_with fail
 refine wp_region_held_drew (S := (fun W => W.heap[g]? = some (.cells #[.int .i64 ky, .int .i64 st, .int .i64 en, .int .i64 an, .int .i64 asu, .int .i64 ale, .int .i64 amo, .int .i64 fn, .int .i64 fsu, .int .i64 fle, .int .i64 fmo, .int .i64 td, .bool tm] 76 (0, 0)))) (by kernel_rfl) ?_ (fun hHeld => ?_)
 ·(try dsimp only); exact (Below.heap_alloc _ _ _ hg).trans h
 refine kV 0 ?_
 refine kV 1 ?_
 refine kV 2 ?_
 refine kT 3 ?_ ?_ ?_
 rotate_left
 ·(intro w9 hSw; (try dsimp only at hSw); have y0 := cA hSw 0; have y1 := cA hSw 1; have y2 := cA hSw 2; have y3 := cA hSw 3; have y4 := cA hSw 4; have y5 := cA hSw 5; have y6 := cA hSw 6; have y7 := cA hSw 7; have y8 := cA hSw 8; have y9 := cA hSw 9; have y10 := cA hSw 10; have y11 := cA hSw 11; have y12 := cA hSw 12; simp only [gA, gZ, gS] at y0 y1 y2 y3 y4 y5 y6 y7 y8 y9 y10 y11 y12; go_simp <;> with_reducible rfl)
 try simp only [Act.put, tA, tZ, tS]
 refine kV 4 ?_
 refine kV 5 ?_
 refine kV 6 ?_
 refine kT 7 ?_ ?_ ?_
 rotate_left
 ·(intro w9 hSw; (try dsimp only at hSw); have y0 := cA hSw 0; have y1 := cA hSw 1; have y2 := cA hSw 2; have y3 := cA hSw 3; have y4 := cA hSw 4; have y5 := cA hSw 5; have y6 := cA hSw 6; have y7 := cA hSw 7; have y8 := cA hSw 8; have y9 := cA hSw 9; have y10 := cA hSw 10; have y11 := cA hSw 11; have y12 := cA hSw 12; simp only [gA, gZ, gS] at y0 y1 y2 y3 y4 y5 y6 y7 y8 y9 y10 y11 y12; go_simp <;> with_reducible rfl)
 try simp only [Act.put, tA, tZ, tS]
 refine kV 8 ?_
 refine kV 9 ?_
 refine kV 10 ?_
 refine kT 11 ?_ ?_ ?_
 rotate_left
 ·(intro w9 hSw; (try dsimp only at hSw); have y0 := cA hSw 0; have y1 := cA hSw 1; have y2 := cA hSw 2; have y3 := cA hSw 3; have y4 := cA hSw 4; have y5 := cA hSw 5; have y6 := cA hSw 6; have y7 := cA hSw 7; have y8 := cA hSw 8; have y9 := cA hSw 9; have y10 := cA hSw 10; have y11 := cA hSw 11; have y12 := cA hSw 12; simp only [gA, gZ, gS] at y0 y1 y2 y3 y4 y5 y6 y7 y8 y9 y10 y11 y12; go_simp <;> with_reducible rfl)
 try simp only [Act.put, tA, tZ, tS]
 refine kV 12 ?_
 refine kV 13 ?_
 refine kV 14 ?_
 refine kT 15 ?_ ?_ ?_
 rotate_left
 ·(intro w9 hSw; (try dsimp only at hSw); have y0 := cA hSw 0; have y1 := cA hSw 1; have y2 := cA hSw 2; have y3 := cA hSw 3; have y4 := cA hSw 4; have y5 := cA hSw 5; have y6 := cA hSw 6; have y7 := cA hSw 7; have y8 := cA hSw 8; have y9 := cA hSw 9; have y10 := cA hSw 10; have y11 := cA hSw 11; have y12 := cA hSw 12; simp only [gA, gZ, gS] at y0 y1 y2 y3 y4 y5 y6 y7 y8 y9 y10 y11 y12; go_simp <;> with_reducible rfl)
 try simp only [Act.put, tA, tZ, tS]
 refine kV 16 ?_
 refine rD 17 (fun K hK => ?_)
 go_simp
 clear hHeld
 refine hK.out _ _ ?_ (fun hHeld => ?_)
 ·(try dsimp only); exact (Below.heap_alloc _ _ _ (by simp; omega)).trans ((Below.heap_alloc _ _ _ hg).trans h)
 clear hK K
 try simp only [Act.put, tA, tZ, tS]
 refine rD 18 (fun K hK => ?_)
 go_simp
 clear hHeld
 refine hK.out _ _ ?_ (fun hHeld => ?_)
 ·(try dsimp only); exact (Below.heap_alloc _ _ _ (by simp; omega)).trans ((Below.heap_alloc _ _ _ hg).trans h)
 clear hK K
 try simp only [Act.put, tA, tZ, tS]
 refine wpAnyH_done (by kernel_rfl) ?_ _
 have hbA : Below w.heap.size w ((w.alloc (.cells #[.int .i64 0, .int .i64 0, .int .i64 0, .int .i64 0, .int .i64 0, .int .i64 0, .int .i64 0, .int .i64 0, .int .i64 0] 68)).alloc (.cells #[.int .i64 ky, .int .i64 st, .int .i64 en, .int .i64 td, .int .i64 1, .int .i64 an, .int .i64 asu, .int .i64 ale, .int .i64 amo] 68)).drew := bel_drew (bel_alloc (bel_one _ _) _)
 have hgA : ((w.alloc (.cells #[.int .i64 0, .int .i64 0, .int .i64 0, .int .i64 0, .int .i64 0, .int .i64 0, .int .i64 0, .int .i64 0, .int .i64 0] 68)).alloc (.cells #[.int .i64 ky, .int .i64 st, .int .i64 en, .int .i64 td, .int .i64 1, .int .i64 an, .int .i64 asu, .int .i64 ale, .int .i64 amo] 68)).drew.heap[g]? = some (.cells #[.int .i64 ky, .int .i64 st, .int .i64 en, .int .i64 an, .int .i64 asu, .int .i64 ale, .int .i64 amo, .int .i64 fn, .int .i64 fsu, .int .i64 fle, .int .i64 fmo, .int .i64 td, .bool tm] 76 (0, 0)) := (Below.heap_alloc _ _ _ (by simp; omega)).trans ((Below.heap_alloc _ _ _ hg).trans h)
 have hqA : ((w.alloc (.cells #[.int .i64 0, .int .i64 0, .int .i64 0, .int .i64 0, .int .i64 0, .int .i64 0, .int .i64 0, .int .i64 0, .int .i64 0] 68)).alloc (.cells #[.int .i64 ky, .int .i64 st, .int .i64 en, .int .i64 td, .int .i64 1, .int .i64 an, .int .i64 asu, .int .i64 ale, .int .i64 amo] 68)).drew.heap[w.heap.size + 1]? = some (.cells #[.int .i64 ky, .int .i64 st, .int .i64 en, .int .i64 td, .int .i64 1, .int .i64 an, .int .i64 asu, .int .i64 ale, .int .i64 amo] 68 (0, 0)) := by
  have h9 := World.alloc_heap_new (w.alloc (.cells #[.int .i64 0, .int .i64 0, .int .i64 0, .int .i64 0, .int .i64 0, .int .i64 0, .int .i64 0, .int .i64 0, .int .i64 0] 68)) (.cells #[.int .i64 ky, .int .i64 st, .int .i64 en, .int .i64 td, .int .i64 1, .int .i64 an, .int .i64 asu, .int .i64 ale, .int .i64 amo] 68)
  have e9 : (w.alloc (.cells #[.int .i64 0, .int .i64 0, .int .i64 0, .int .i64 0, .int .i64 0, .int .i64 0, .int .i64 0, .int .i64 0, .int .i64 0] 68)).heap.size = w.heap.size + 1 := by simp
  rw [e9] at h9
  exact h9
 have hrA : ((w.alloc (.cells #[.int .i64 0, .int .i64 0, .int .i64 0, .int .i64 0, .int .i64 0, .int .i64 0, .int .i64 0, .int .i64 0, .int .i64 0] 68)).alloc (.cells #[.int .i64 ky, .int .i64 st, .int .i64 en, .int .i64 td, .int .i64 1, .int .i64 an, .int .i64 asu, .int .i64 ale, .int .i64 amo] 68)).drew.heap[w.heap.size]? = some (.cells #[.int .i64 0, .int .i64 0, .int .i64 0, .int .i64 0, .int .i64 0, .int .i64 0, .int .i64 0, .int .i64 0, .int .i64 0] 68 (0, 0)) := (Below.heap_alloc _ _ _ (by simp)).trans (World.alloc_heap_new w _)
 clear hHeld
 generalize ((w.alloc (.cells #[.int .i64 0, .int .i64 0, .int .i64 0, .int .i64 0, .int .i64 0, .int .i64 0, .int .i64 0, .int .i64 0, .int .i64 0] 68)).alloc (.cells #[.int .i64 ky, .int .i64 st, .int .i64 en, .int .i64 td, .int .i64 1, .int .i64 an, .int .i64 asu, .int .i64 ale, .int .i64 amo] 68)).drew = wA at hbA hgA hqA hrA ⊢
 have hgs : g < wA.heap.size := (Array.getElem?_eq_some_iff.1 hgA).1
 have hqs : w.heap.size + 1 < wA.heap.size := (Array.getElem?_eq_some_iff.1 hqA).1
 have a0 := Joins.cell_of_block hgA 0
 have a1 := Joins.cell_of_block hgA 1
 have a2 := Joins.cell_of_block hgA 2
 have a3 := Joins.cell_of_block hgA 3
 have a4 := Joins.cell_of_block hgA 4
 have a5 := Joins.cell_of_block hgA 5
 have a6 := Joins.cell_of_block hgA 6
 have a7 := Joins.cell_of_block hgA 7
 have a8 := Joins.cell_of_block hgA 8
 have a9 := Joins.cell_of_block hgA 9
 have a10 := Joins.cell_of_block hgA 10
 have a11 := Joins.cell_of_block hgA 11
 have a12 := Joins.cell_of_block hgA 12
 have q0 := Joins.cell_of_block hqA 0
 have q1 := Joins.cell_of_block hqA 1
 have q2 := Joins.cell_of_block hqA 2
 have q3 := Joins.cell_of_block hqA 3
 have q4 := Joins.cell_of_block hqA 4
 have q5 := Joins.cell_of_block hqA 5
 have q6 := Joins.cell_of_block hqA 6
 have q7 := Joins.cell_of_block hqA 7
 have q8 := Joins.cell_of_block hqA 8
 have r0 := Joins.cell_of_block hrA 0
 have r1 := Joins.cell_of_block hrA 1
 have r2 := Joins.cell_of_block hrA 2
 have r3 := Joins.cell_of_block hrA 3
 have r4 := Joins.cell_of_block hrA 4
 have r5 := Joins.cell_of_block hrA 5
 have r6 := Joins.cell_of_block hrA 6
 have r7 := Joins.cell_of_block hrA 7
 have r8 := Joins.cell_of_block hrA 8
 simp only [gA, gZ, gS] at a0 a1 a2 a3 a4 a5 a6 a7 a8 a9 a10 a11 a12 q0 q1 q2 q3 q4 q5 q6 q7 q8 r0 r1 r2 r3 r4 r5 r6 r7 r8
 have fg : ∀ j, wA.frozen? ⟨g, j, none⟩ = false := fun j => by simp [World.frozen?, hgA]
 have fq : ∀ j, wA.frozen? ⟨w.heap.size + 1, j, none⟩ = false := fun j => by simp [World.frozen?, hqA]
 have fr : ∀ j, wA.frozen? ⟨w.heap.size, j, none⟩ = false := fun j => by simp [World.frozen?, hrA]
 have fg7 := fg 7
 have fg8 := fg 8
 have fg9 := fg 9
 have fg10 := fg 10
 have fg11 := fg 11
 have fg12 := fg 12
 have fq4 := fq 4
 have fq5 := fq 5
 have fq6 := fq 6
 have fq7 := fq 7
 have fq8 := fq 8
 have fr0 := fr 0
 have fr1 := fr 1
 have fr2 := fr 2
 have fr3 := fr 3
 have fr4 := fr 4
 have fr5 := fr 5
 have fr6 := fr 6
 have fr7 := fr 7
 have fr8 := fr 8
 have hwr : IntKind.i64.wrap (td + 1) = td + 1 := IntWalk.i64_in _ ⟨by omega, by omega⟩
 clear fg fq fr h
 have ng1 : g ≠ w.heap.size := by omega
 have ng2 : g ≠ w.heap.size + 1 := by omega
 cases tm <;> cases pc
 ·skip
  go_wp2
  refine bodyPost_ret (v := .agg #[.int .i64 ky, .int .i64 st, .int .i64 en, .int .i64 td, .int .i64 1, .int .i64 an, .int .i64 asu, .int .i64 ale, .int .i64 amo]) (by simp (maxDischargeDepth := 9) [results, Tryz.results75, go_sem, *]) rfl ⟨rfl, ?_, ?_⟩
  ·exact ((Below.heap_setCell _ _ _ _ (by simp; omega)).trans ((Below.heap_setCell _ _ _ _ (by simp; omega)).trans ((Below.heap_setCell _ _ _ _ (by simp; omega)).trans ((Below.heap_setCell _ _ _ _ (by simp; omega)).trans ((Below.heap_setCell _ _ _ _ (by simp; omega)).trans ((Below.heap_setCell _ _ _ _ (by simp; omega)).trans ((Below.heap_setCell _ _ _ _ (by simp; omega)).trans ((Below.heap_setCell _ _ _ _ (by simp; omega)).trans ((Below.heap_setCell _ _ _ _ (by simp; omega)).trans (Joins.block_setCell (Joins.block_setCell (Joins.block_setCell (Joins.block_setCell (Joins.block_setCell (Joins.block_setCell hgA _) _) _) _) _) _))))))))))
  ·exact (gb_set (gb_set (gb_set (gb_set (gb_set (gb_set (gb_set (gb_set (gb_set (gb_set (gb_set (gb_set (gb_set (gb_set (gb_set (gb_bel hbA) (by first | exact Or.inl rfl | exact Or.inr (by simp)) _) (by first | exact Or.inl rfl | exact Or.inr (by simp)) _) (by first | exact Or.inl rfl | exact Or.inr (by simp)) _) (by first | exact Or.inl rfl | exact Or.inr (by simp)) _) (by first | exact Or.inl rfl | exact Or.inr (by simp)) _) (by first | exact Or.inl rfl | exact Or.inr (by simp)) _) (by first | exact Or.inl rfl | exact Or.inr (by simp)) _) (by first | exact Or.inl rfl | exact Or.inr (by simp)) _) (by first | exact Or.inl rfl | exact Or.inr (by simp)) _) (by first | exact Or.inl rfl | exact Or.inr (by simp)) _) (by first | exact Or.inl rfl | exact Or.inr (by simp)) _) (by first | exact Or.inl rfl | exact Or.inr (by simp)) _) (by first | exact Or.inl rfl | exact Or.inr (by simp)) _) (by first | exact Or.inl rfl | exact Or.inr (by simp)) _) (by first | exact Or.inl rfl | exact Or.inr (by simp)) _)
 ·skip
  go_wp2
  refine bodyPost_ret (v := .agg #[.int .i64 ky, .int .i64 st, .int .i64 en, .int .i64 td, .int .i64 1, .int .i64 fn, .int .i64 fsu, .int .i64 fle, .int .i64 fmo]) (by simp (maxDischargeDepth := 9) [results, Tryz.results75, go_sem, *]) rfl ⟨rfl, ?_, ?_⟩
  ·exact ((Below.heap_setCell _ _ _ _ (by simp; omega)).trans ((Below.heap_setCell _ _ _ _ (by simp; omega)).trans ((Below.heap_setCell _ _ _ _ (by simp; omega)).trans ((Below.heap_setCell _ _ _ _ (by simp; omega)).trans ((Below.heap_setCell _ _ _ _ (by simp; omega)).trans ((Below.heap_setCell _ _ _ _ (by simp; omega)).trans ((Below.heap_setCell _ _ _ _ (by simp; omega)).trans ((Below.heap_setCell _ _ _ _ (by simp; omega)).trans ((Below.heap_setCell _ _ _ _ (by simp; omega)).trans (Joins.block_setCell (Joins.block_setCell (Joins.block_setCell (Joins.block_setCell (Joins.block_setCell (Joins.block_setCell ((Below.heap_setCell _ _ _ _ (by simp; omega)).trans ((Below.heap_setCell _ _ _ _ (by simp; omega)).trans ((Below.heap_setCell _ _ _ _ (by simp; omega)).trans ((Below.heap_setCell _ _ _ _ (by simp; omega)).trans hgA)))) _) _) _) _) _) _))))))))))
  ·exact (gb_set (gb_set (gb_set (gb_set (gb_set (gb_set (gb_set (gb_set (gb_set (gb_set (gb_set (gb_set (gb_set (gb_set (gb_set (gb_set (gb_set (gb_set (gb_set (gb_bel hbA) (by first | exact Or.inl rfl | exact Or.inr (by simp)) _) (by first | exact Or.inl rfl | exact Or.inr (by simp)) _) (by first | exact Or.inl rfl | exact Or.inr (by simp)) _) (by first | exact Or.inl rfl | exact Or.inr (by simp)) _) (by first | exact Or.inl rfl | exact Or.inr (by simp)) _) (by first | exact Or.inl rfl | exact Or.inr (by simp)) _) (by first | exact Or.inl rfl | exact Or.inr (by simp)) _) (by first | exact Or.inl rfl | exact Or.inr (by simp)) _) (by first | exact Or.inl rfl | exact Or.inr (by simp)) _) (by first | exact Or.inl rfl | exact Or.inr (by simp)) _) (by first | exact Or.inl rfl | exact Or.inr (by simp)) _) (by first | exact Or.inl rfl | exact Or.inr (by simp)) _) (by first | exact Or.inl rfl | exact Or.inr (by simp)) _) (by first | exact Or.inl rfl | exact Or.inr (by simp)) _) (by first | exact Or.inl rfl | exact Or.inr (by simp)) _) (by first | exact Or.inl rfl | exact Or.inr (by simp)) _) (by first | exact Or.inl rfl | exact Or.inr (by simp)) _) (by first | exact Or.inl rfl | exact Or.inr (by simp)) _) (by first | exact Or.inl rfl | exact Or.inr (by simp)) _)
 ·skip
  go_wp2
  refine bodyPost_ret (v := .agg #[.int .i64 ky, .int .i64 st, .int .i64 en, .int .i64 td, .int .i64 2, .int .i64 an, .int .i64 asu, .int .i64 ale, .int .i64 amo]) (by simp (maxDischargeDepth := 9) [results, Tryz.results75, go_sem, *]) rfl ⟨rfl, ?_, ?_⟩
  ·exact ((Below.heap_setCell _ _ _ _ (by simp; omega)).trans ((Below.heap_setCell _ _ _ _ (by simp; omega)).trans ((Below.heap_setCell _ _ _ _ (by simp; omega)).trans ((Below.heap_setCell _ _ _ _ (by simp; omega)).trans ((Below.heap_setCell _ _ _ _ (by simp; omega)).trans ((Below.heap_setCell _ _ _ _ (by simp; omega)).trans ((Below.heap_setCell _ _ _ _ (by simp; omega)).trans ((Below.heap_setCell _ _ _ _ (by simp; omega)).trans ((Below.heap_setCell _ _ _ _ (by simp; omega)).trans (Joins.block_setCell (Joins.block_setCell (Joins.block_setCell (Joins.block_setCell (Joins.block_setCell (Joins.block_setCell ((Below.heap_setCell _ _ _ _ (by simp; omega)).trans hgA) _) _) _) _) _) _))))))))))
  ·exact (gb_set (gb_set (gb_set (gb_set (gb_set (gb_set (gb_set (gb_set (gb_set (gb_set (gb_set (gb_set (gb_set (gb_set (gb_set (gb_set (gb_bel hbA) (by first | exact Or.inl rfl | exact Or.inr (by simp)) _) (by first | exact Or.inl rfl | exact Or.inr (by simp)) _) (by first | exact Or.inl rfl | exact Or.inr (by simp)) _) (by first | exact Or.inl rfl | exact Or.inr (by simp)) _) (by first | exact Or.inl rfl | exact Or.inr (by simp)) _) (by first | exact Or.inl rfl | exact Or.inr (by simp)) _) (by first | exact Or.inl rfl | exact Or.inr (by simp)) _) (by first | exact Or.inl rfl | exact Or.inr (by simp)) _) (by first | exact Or.inl rfl | exact Or.inr (by simp)) _) (by first | exact Or.inl rfl | exact Or.inr (by simp)) _) (by first | exact Or.inl rfl | exact Or.inr (by simp)) _) (by first | exact Or.inl rfl | exact Or.inr (by simp)) _) (by first | exact Or.inl rfl | exact Or.inr (by simp)) _) (by first | exact Or.inl rfl | exact Or.inr (by simp)) _) (by first | exact Or.inl rfl | exact Or.inr (by simp)) _) (by first | exact Or.inl rfl | exact Or.inr (by simp)) _)
 ·skip
  go_wp2
  refine bodyPost_ret (v := .agg #[.int .i64 ky, .int .i64 st, .int .i64 en, .int .i64 td, .int .i64 2, .int .i64 fn, .int .i64 fsu, .int .i64 fle, .int .i64 fmo]) (by simp (maxDischargeDepth := 9) [results, Tryz.results75, go_sem, *]) rfl ⟨rfl, ?_, ?_⟩
  ·exact ((Below.heap_setCell _ _ _ _ (by simp; omega)).trans ((Below.heap_setCell _ _ _ _ (by simp; omega)).trans ((Below.heap_setCell _ _ _ _ (by simp; omega)).trans ((Below.heap_setCell _ _ _ _ (by simp; omega)).trans ((Below.heap_setCell _ _ _ _ (by simp; omega)).trans ((Below.heap_setCell _ _ _ _ (by simp; omega)).trans ((Below.heap_setCell _ _ _ _ (by simp; omega)).trans ((Below.heap_setCell _ _ _ _ (by simp; omega)).trans ((Below.heap_setCell _ _ _ _ (by simp; omega)).trans (Joins.block_setCell (Joins.block_setCell (Joins.block_setCell (Joins.block_setCell (Joins.block_setCell (Joins.block_setCell ((Below.heap_setCell _ _ _ _ (by simp; omega)).trans ((Below.heap_setCell _ _ _ _ (by simp; omega)).trans ((Below.heap_setCell _ _ _ _ (by simp; omega)).trans ((Below.heap_setCell _ _ _ _ (by simp; omega)).trans ((Below.heap_setCell _ _ _ _ (by simp; omega)).trans hgA))))) _) _) _) _) _) _))))))))))
  ·exact (gb_set (gb_set (gb_set (gb_set (gb_set (gb_set (gb_set (gb_set (gb_set (gb_set (gb_set (gb_set (gb_set (gb_set (gb_set (gb_set (gb_set (gb_set (gb_set (gb_set (gb_bel hbA) (by first | exact Or.inl rfl | exact Or.inr (by simp)) _) (by first | exact Or.inl rfl | exact Or.inr (by simp)) _) (by first | exact Or.inl rfl | exact Or.inr (by simp)) _) (by first | exact Or.inl rfl | exact Or.inr (by simp)) _) (by first | exact Or.inl rfl | exact Or.inr (by simp)) _) (by first | exact Or.inl rfl | exact Or.inr (by simp)) _) (by first | exact Or.inl rfl | exact Or.inr (by simp)) _) (by first | exact Or.inl rfl | exact Or.inr (by simp)) _) (by first | exact Or.inl rfl | exact Or.inr (by simp)) _) (by first | exact Or.inl rfl | exact Or.inr (by simp)) _) (by first | exact Or.inl rfl | exact Or.inr (by simp)) _) (by first | exact Or.inl rfl | exact Or.inr (by simp)) _) (by first | exact Or.inl rfl | exact Or.inr (by simp)) _) (by first | exact Or.inl rfl | exact Or.inr (by simp)) _) (by first | exact Or.inl rfl | exact Or.inr (by simp)) _) (by first | exact Or.inl rfl | exact Or.inr (by simp)) _) (by first | exact Or.inl rfl | exact Or.inr (by simp)) _) (by first | exact Or.inl rfl | exact Or.inr (by simp)) _) (by first | exact Or.inl rfl | exact Or.inr (by simp)) _) (by first | exact Or.inl rfl | exact Or.inr (by simp)) _)
end Go.Proofs.YtflignpbboiahaaGreat
namespace Go.Proofs.YtflignpbboiahaaGreat
open Go.RowKit
variable {P : Program} {F : Fence} {n : Nat}
/-- What the body must achieve: one mark, that holds no call. -/
def bodyPost1 (P : Program) (fn : Func) (R : Ending → World → Prop) : Exit → Act → World → Prop
 | .normal, a, w | .ret, a, w => ∃ D w', a.defers = [{ target := .collected D, args := #[] }] ∧ (Instr.takeDeferred D).run P w = .ok [] w' ∧ ∃ v, (results fn a.tmps).run P w' = .ok v w' ∧ R (.returned v) w'
 | .outgrown, _, w => R .outgrown w
 | _, _, _ => False
theorem callsDIn_of_wp_mark {f : FuncId} {fn : Func} {c : Code} {args : Array Value} {u : FrameMode} {w : World} {R : Ending → World → Prop}
  (hf : P.funcs[f]? = some fn) (hb : fn.body = some c) (hF : F.fn f)
  (h : c.wpIn F n P (bodyPost1 P fn R) { tmps := args ++ Array.replicate (fn.ntmps - args.size) undef, defers := [] } w) (hro : F.round = none := by rfl) :
  CallsDIn F n P f args u w fun e u' w' => u' = u ∧ R e w' := by
 refine ⟨hF, fun c₀ cs hu hr => ?_⟩
 let b : Frame := { (default : Frame) with fn := f, kind := .deferred, roundOf := none }
 have henter : Frame.enter P f args .deferred = b.atR { tmps := args ++ Array.replicate (fn.ntmps - args.size) undef, defers := [] } [.code c] := by
  simp [Frame.enter, Frame.atR, hf, hb, b]
 have hc : ({ c₀ with mode := u } : Frame) = c₀ := by subst hu; rfl
 obtain ⟨e, a', w', hq, harr⟩ := h b [] (c₀ :: cs) hro.symm hF hr
 rw [← henter] at harr
 cases e with
 | normal =>
  obtain ⟨D, w2, hd, htk, v, hr', hR⟩ := hq
  have h1 := step_collected (P := P) (fr := { b.atR a' [] with mode := .returning }) (cs := c₀ :: cs) (w := w') (by simp) hd rfl htk
  have i1 : (lone { b.atR a' [] with mode := .returning } (c₀ :: cs) w').fenced P F := fenced_out hF hr (by simp) hd (fun g hg => by simp [Target.leads] at hg)
  exact ⟨.returned v, u, w2, _, ⟨rfl, hR⟩, (by rw [hc]; exact StepsIn.trans (StepsIn.trans harr (.one (fenced_calm (fr := b.atR a' []) hF hr rfl) (stepR_end rfl))) (.one i1 h1)), rfl, rfl, rfl, rfl, fn, hf, hr'⟩
 | ret =>
  obtain ⟨D, w2, hd, htk, v, hr', hR⟩ := hq
  obtain ⟨todo, hs⟩ := harr.1 rfl
  have h1 := step_collected (P := P) (fr := { b.atR a' todo with mode := .returning }) (cs := c₀ :: cs) (w := w') (by simp) hd rfl htk
  have i1 : (lone { b.atR a' todo with mode := .returning } (c₀ :: cs) w').fenced P F := fenced_out hF hr (by simp) hd (fun g hg => by simp [Target.leads] at hg)
  exact ⟨.returned v, u, w2, _, ⟨rfl, hR⟩, (by rw [hc]; exact StepsIn.trans hs (.one i1 h1)), rfl, rfl, rfl, rfl, fn, hf, hr'⟩
 | panic chain => exact hq.elim
 | exit id => exact hq.elim
 | goto l => exact hq.elim
 | outgrown => exact ⟨.outgrown, u, w', b, ⟨rfl, hq⟩, harr.resolve_left (by simp [b]), rfl, rfl, trivial⟩
end Go.Proofs.YtflignpbboiahaaGreat
