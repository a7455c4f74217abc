/- Laid together: what the claim needs of the texts that were built one by one. -/
import Derived.Test.YtbjhpiannjepkaaGreatPsCkpE
import Derived.Test.YtbjhpiannjepkaaGreatPsCkpV2
import Derived.Test.YtbjhpiannjepkaaGreatPsBase
namespace Go.Proofs.YtbjhpiannjepkaaGreat
open Go.ChangeShapes Go.WideShapes Go.ChangeAt Go.RowKit Go.Deep
set_option linter.unusedVariables false

/-- What checkpoints are behind a giving up. -/
def restD (s t : Nat) (x : CkD) : CkD := { x with op := false, src := List.replicate s (-1), tsk := List.replicate t false, sn := List.replicate t ⟨0, [], []⟩ }

theorem copS_rep (W : World) (B t : Nat) : CopS W B (List.replicate t noSn) (List.replicate t ⟨0, [], []⟩) := by
  refine ⟨by simp, fun i p x hp hx => ?_, fun i p x hp hx => ?_, fun i p x hp hx => ?_, fun i j p q hp hq hij b hb => ?_, fun i j p q hp hq hij b hb => ?_⟩
  · obtain rfl := get_rep hp; obtain rfl := get_rep hx; exact ⟨rfl, rfl, rfl⟩
  · obtain rfl := get_rep hp; obtain rfl := get_rep hx; exact World.ownsRow_nil _ _ _ _
  · obtain rfl := get_rep hp; obtain rfl := get_rep hx; exact World.ownsRow_nil _ _ _ _
  · obtain rfl := get_rep hp; cases hb
  · obtain rfl := get_rep hp; cases hb

theorem CkDis.rest {W W' : World} {B B' s t : Nat} {src : List Int} {tsk : List Bool} {sn : List SnD} {at_ : List Int} {ssn : List SnD} {v2 v3 v4 v6 v7 u2 u3 u4 : Value} {l4 l7 : List (Int × SnV)} (h : CkDis W B src tsk sn at_ ssn v2 v3 v4 v6 v7 l4 l7) (hb : Below W.heap.size W W') (hB : W.heap.size ≤ B') (hBB : B ≤ B') (o2 : W'.ownsRow B' 3 1 u2 s (List.replicate s (.int .i64 (-1)))) (o3 : W'.ownsRow B' 4 1 u3 t (List.replicate t (.bool false))) (o4 : W'.ownsRow B' 80 3 u4 t (flatSV (List.replicate t noSn))) : CkDis W' B (List.replicate s (-1)) (List.replicate t false) (List.replicate t ⟨0, [], []⟩) at_ ssn u2 u3 u4 v6 v7 (List.replicate t noSn) l7 := by
  refine ⟨?_, ?_, ?_, copS_rep _ _ _, own_bel h.o6 hb, own_bel h.o7 hb, h.k7.below hb, ?_, ?_, ?_, ?_, ?_⟩
  · rw [List.length_replicate, ← rep_map]; exact World.ownsRow.mono o2 hBB
  · rw [List.length_replicate, ← rep_mapB]; exact World.ownsRow.mono o3 hBB
  · unfold OwnSn; rw [List.length_replicate]; exact World.ownsRow.mono o4 hBB
  · intro b x y
    have h1 := (World.ownsRow.lt o2 b x).1
    have h2 := (World.ownsRow.lt h.o6 b y).2
    omega
  · intro b x y
    have h1 := (World.ownsRow.lt o4 b x).1
    have h2 := (World.ownsRow.lt h.o7 b y).2
    omega
  · intro i p hp b hb9
    rcases hp with hp | hp
    · obtain rfl := get_rep hp; cases hb9
    · refine ⟨fun x => ?_, (h.dm i p (Or.inr hp) b hb9).2⟩
      have h1 := (World.ownsRow.lt o2 b x).1
      have h2 := (h.k7.rngs i p hp b (Or.inr hb9)).2
      omega
  · intro i j p q hp hq b x
    obtain rfl := get_rep hp; cases x
  · intro i j p q hp hq b x
    obtain rfl := get_rep hp; cases x

theorem ckLim_rest {s t : Nat} {x : CkD} (h : CkLim x) (hs : s ≤ 1000) (ht : t ≤ 1000) : CkLim (restD s t x) := by
  obtain ⟨h2, h3, h4, h6, h7⟩ := h
  refine ⟨?_, ?_, ⟨?_, fun y hy => ?_⟩, h6, h7⟩
  · simp [restD]; omega
  · simp [restD]; omega
  · simp [restD]; omega
  · have h9 : y = ⟨0, [], []⟩ := List.eq_of_mem_replicate hy
    subst h9
    simp

theorem okCk_job {s t k z p l e v r : Int} {x : CkD} (h : okCk s t k z p l e v r x = true) : (1 ≤ s ∧ s ≤ 3) ∧ (1 ≤ t ∧ t ≤ 2) := by
  unfold okCk at h
  simp only [Bool.and_eq_true] at h
  have h1 := h.1.1.1.1.1.1.1.1
  unfold okJob at h1
  simp only [Bool.and_eq_true] at h1
  exact ⟨inB_iff.1 h1.1.1.1.1.1.1.1.1, inB_iff.1 h1.1.1.1.1.1.1.1.2⟩

set_option linter.unusedSimpArgs false in
set_option maxRecDepth 20000 in
set_option maxHeartbeats 4000000 in
theorem l9drop_any (s t : Nat) (k z p l e : Int) (b : Bool) (v r : Int) (xn : Int) (xop : Bool) (a2 : Option Addr) (l2 c2 : Nat) (a3 : Option Addr) (l3 c3 : Nat) (a4 : Option Addr) (l4 c4 : Nat) (xsfn : Int) (a6 : Option Addr) (l6 c6 : Nat) (a7 : Option Addr) (l7 c7 : Nat) (w : World) (hs : s ≤ 1000) (ht : t ≤ 1000) : Calls Tryz.prog 23 #[.agg #[.int .i64 s, .int .i64 t, .int .i64 k, .int .i64 z, .int .i64 p, .int .i64 l, .int .i64 e, .bool b, .int .i64 v, .int .i64 r], .agg #[.int .i64 xn, .bool xop, .slice a2 l2 c2, .slice a3 l3 c3, .slice a4 l4 c4, .int .i64 xsfn, .slice a6 l6 c6, .slice a7 l7 c7]] w fun e' w' => ∃ v2 v3 v4, e' = .returned (.agg #[.int .i64 xn, .bool false, v2, v3, v4, .int .i64 xsfn, .slice a6 l6 c6, .slice a7 l7 c7]) ∧ w'.ownsRow w.heap.size 3 1 v2 s (List.replicate s (.int .i64 (-1))) ∧ w'.ownsRow w.heap.size 4 1 v3 t (List.replicate t (.bool false)) ∧ w'.ownsRow w.heap.size 80 3 v4 t (flatSV (List.replicate t noSn)) ∧ Below w.heap.size w w' := by
  have hX0 : (((w.alloc (.cells #[.int .i64 s, .int .i64 t, .int .i64 k, .int .i64 z, .int .i64 p, .int .i64 l, .int .i64 e, .bool b, .int .i64 v, .int .i64 r] 39)).alloc (.cells #[.int .i64 xn, .bool xop, .slice a2 l2 c2, .slice a3 l3 c3, .slice a4 l4 c4, .int .i64 xsfn, .slice a6 l6 c6, .slice a7 l7 c7] 36)).alloc (.cells #[.int .i64 0, .bool false, .slice none 0 0, .slice none 0 0, .slice none 0 0, .int .i64 0, .slice none 0 0, .slice none 0 0] 36)).heap[w.heap.size + 1]? = some (.cells #[.int .i64 xn, .bool xop, .slice a2 l2 c2, .slice a3 l3 c3, .slice a4 l4 c4, .int .i64 xsfn, .slice a6 l6 c6, .slice a7 l7 c7] 36 (0, 0)) := ((bel_one _ _).block _ (by simp)).trans (blk_new (by simp))
  have hY0 : (((w.alloc (.cells #[.int .i64 s, .int .i64 t, .int .i64 k, .int .i64 z, .int .i64 p, .int .i64 l, .int .i64 e, .bool b, .int .i64 v, .int .i64 r] 39)).alloc (.cells #[.int .i64 xn, .bool xop, .slice a2 l2 c2, .slice a3 l3 c3, .slice a4 l4 c4, .int .i64 xsfn, .slice a6 l6 c6, .slice a7 l7 c7] 36)).alloc (.cells #[.int .i64 0, .bool false, .slice none 0 0, .slice none 0 0, .slice none 0 0, .int .i64 0, .slice none 0 0, .slice none 0 0] 36)).heap[w.heap.size + 2]? = some (.cells #[.int .i64 0, .bool false, .slice none 0 0, .slice none 0 0, .slice none 0 0, .int .i64 0, .slice none 0 0, .slice none 0 0] 36 (0, 0)) := blk_new (by simp)
  have hbz : Below w.heap.size w (((w.alloc (.cells #[.int .i64 s, .int .i64 t, .int .i64 k, .int .i64 z, .int .i64 p, .int .i64 l, .int .i64 e, .bool b, .int .i64 v, .int .i64 r] 39)).alloc (.cells #[.int .i64 xn, .bool xop, .slice a2 l2 c2, .slice a3 l3 c3, .slice a4 l4 c4, .int .i64 xsfn, .slice a6 l6 c6, .slice a7 l7 c7] 36)).alloc (.cells #[.int .i64 0, .bool false, .slice none 0 0, .slice none 0 0, .slice none 0 0, .int .i64 0, .slice none 0 0, .slice none 0 0] 36)) := bel_alloc (bel_alloc (bel_one _ _) _) _
  go_enter Tryz.func23, Tryz.ntmps23
  go_wp2_with fail
  refine (nobody_any s t k z p l e b v r hs ht _).mono ?_
  rintro e' w1 ⟨v2, v3, v4, rfl, o2, o3, o4, hb1⟩
  obtain ⟨p2, q2, rfl⟩ := sliceC o2
  obtain ⟨p3, q3, rfl⟩ := sliceC o3
  obtain ⟨p4, q4, rfl⟩ := sliceC o4
  have z1 : w.heap.size + 1 + 1 < w1.heap.size := by have h9 := hb1.size; simp at h9; omega
  have z1a : w.heap.size + 1 < w1.heap.size := by omega
  have hX1 := (hb1.block (w.heap.size + 1) (by simp)).trans hX0
  have hY1 := (hb1.block (w.heap.size + 2) (by simp)).trans hY0
  have hbF : Below w.heap.size w w1 := bel_trans hbz hb1
  clear hX0 hY0
  have x0 : w1.cell? ⟨w.heap.size + 1, 0, none⟩ = some (.int .i64 xn) := by simp [World.cell?, hX1, go_sem]
  have xf0 : w1.frozen? ⟨w.heap.size + 1, 0, none⟩ = false := by simp [World.frozen?, hX1, go_sem]
  have x1 : w1.cell? ⟨w.heap.size + 1, 1, none⟩ = some (.bool xop) := by simp [World.cell?, hX1, go_sem]
  have xf1 : w1.frozen? ⟨w.heap.size + 1, 1, none⟩ = false := by simp [World.frozen?, hX1, go_sem]
  have x2 : w1.cell? ⟨w.heap.size + 1, 2, none⟩ = some (.slice a2 l2 c2) := by simp [World.cell?, hX1, go_sem]
  have xf2 : w1.frozen? ⟨w.heap.size + 1, 2, none⟩ = false := by simp [World.frozen?, hX1, go_sem]
  have x3 : w1.cell? ⟨w.heap.size + 1, 3, none⟩ = some (.slice a3 l3 c3) := by simp [World.cell?, hX1, go_sem]
  have xf3 : w1.frozen? ⟨w.heap.size + 1, 3, none⟩ = false := by simp [World.frozen?, hX1, go_sem]
  have x4 : w1.cell? ⟨w.heap.size + 1, 4, none⟩ = some (.slice a4 l4 c4) := by simp [World.cell?, hX1, go_sem]
  have xf4 : w1.frozen? ⟨w.heap.size + 1, 4, none⟩ = false := by simp [World.frozen?, hX1, go_sem]
  have x5 : w1.cell? ⟨w.heap.size + 1, 5, none⟩ = some (.int .i64 xsfn) := by simp [World.cell?, hX1, go_sem]
  have xf5 : w1.frozen? ⟨w.heap.size + 1, 5, none⟩ = false := by simp [World.frozen?, hX1, go_sem]
  have x6 : w1.cell? ⟨w.heap.size + 1, 6, none⟩ = some (.slice a6 l6 c6) := by simp [World.cell?, hX1, go_sem]
  have xf6 : w1.frozen? ⟨w.heap.size + 1, 6, none⟩ = false := by simp [World.frozen?, hX1, go_sem]
  have x7 : w1.cell? ⟨w.heap.size + 1, 7, none⟩ = some (.slice a7 l7 c7) := by simp [World.cell?, hX1, go_sem]
  have xf7 : w1.frozen? ⟨w.heap.size + 1, 7, none⟩ = false := by simp [World.frozen?, hX1, go_sem]
  have y0 : w1.cell? ⟨w.heap.size + 1 + 1, 0, none⟩ = some (.int .i64 0) := by simp [World.cell?, hY1, go_sem]
  have yf0 : w1.frozen? ⟨w.heap.size + 1 + 1, 0, none⟩ = false := by simp [World.frozen?, hY1, go_sem]
  have y1 : w1.cell? ⟨w.heap.size + 1 + 1, 1, none⟩ = some (.bool false) := by simp [World.cell?, hY1, go_sem]
  have yf1 : w1.frozen? ⟨w.heap.size + 1 + 1, 1, none⟩ = false := by simp [World.frozen?, hY1, go_sem]
  have y2 : w1.cell? ⟨w.heap.size + 1 + 1, 2, none⟩ = some (.slice none 0 0) := by simp [World.cell?, hY1, go_sem]
  have yf2 : w1.frozen? ⟨w.heap.size + 1 + 1, 2, none⟩ = false := by simp [World.frozen?, hY1, go_sem]
  have y3 : w1.cell? ⟨w.heap.size + 1 + 1, 3, none⟩ = some (.slice none 0 0) := by simp [World.cell?, hY1, go_sem]
  have yf3 : w1.frozen? ⟨w.heap.size + 1 + 1, 3, none⟩ = false := by simp [World.frozen?, hY1, go_sem]
  have y4 : w1.cell? ⟨w.heap.size + 1 + 1, 4, none⟩ = some (.slice none 0 0) := by simp [World.cell?, hY1, go_sem]
  have yf4 : w1.frozen? ⟨w.heap.size + 1 + 1, 4, none⟩ = false := by simp [World.frozen?, hY1, go_sem]
  have y5 : w1.cell? ⟨w.heap.size + 1 + 1, 5, none⟩ = some (.int .i64 0) := by simp [World.cell?, hY1, go_sem]
  have yf5 : w1.frozen? ⟨w.heap.size + 1 + 1, 5, none⟩ = false := by simp [World.frozen?, hY1, go_sem]
  have y6 : w1.cell? ⟨w.heap.size + 1 + 1, 6, none⟩ = some (.slice none 0 0) := by simp [World.cell?, hY1, go_sem]
  have yf6 : w1.frozen? ⟨w.heap.size + 1 + 1, 6, none⟩ = false := by simp [World.frozen?, hY1, go_sem]
  have y7 : w1.cell? ⟨w.heap.size + 1 + 1, 7, none⟩ = some (.slice none 0 0) := by simp [World.cell?, hY1, go_sem]
  have yf7 : w1.frozen? ⟨w.heap.size + 1 + 1, 7, none⟩ = false := by simp [World.frozen?, hY1, go_sem]
  clear hX1 hY1
  have O2 := hide o2
  have O3 := hide o3
  have O4 := hide o4
  clear o2 o3 o4 hb1
  go_wp2
  refine bodyPost_ret (v := .agg #[.int .i64 xn, .bool false, .slice p2 s q2, .slice p3 t q3, .slice p4 t q4, .int .i64 xsfn, .slice a6 l6 c6, .slice a7 l7 c7]) (by simp (maxDischargeDepth := 9) [results, Tryz.results23, go_sem, *]) rfl ⟨_, _, _, rfl, ?_, ?_, ?_, ?_⟩
  · exact (World.ownsRow.mono (base := (((w.alloc (.cells #[.int .i64 s, .int .i64 t, .int .i64 k, .int .i64 z, .int .i64 p, .int .i64 l, .int .i64 e, .bool b, .int .i64 v, .int .i64 r] 39)).alloc (.cells #[.int .i64 xn, .bool xop, .slice a2 l2 c2, .slice a3 l3 c3, .slice a4 l4 c4, .int .i64 xsfn, .slice a6 l6 c6, .slice a7 l7 c7] 36)).alloc (.cells #[.int .i64 0, .bool false, .slice none 0 0, .slice none 0 0, .slice none 0 0, .int .i64 0, .slice none 0 0, .slice none 0 0] 36)).heap.size) (by repeat (first | (with_reducible exact (unhide O2)) | (with_reducible refine own_setC ?_ (sA)))) (sA))
  · exact (World.ownsRow.mono (base := (((w.alloc (.cells #[.int .i64 s, .int .i64 t, .int .i64 k, .int .i64 z, .int .i64 p, .int .i64 l, .int .i64 e, .bool b, .int .i64 v, .int .i64 r] 39)).alloc (.cells #[.int .i64 xn, .bool xop, .slice a2 l2 c2, .slice a3 l3 c3, .slice a4 l4 c4, .int .i64 xsfn, .slice a6 l6 c6, .slice a7 l7 c7] 36)).alloc (.cells #[.int .i64 0, .bool false, .slice none 0 0, .slice none 0 0, .slice none 0 0, .int .i64 0, .slice none 0 0, .slice none 0 0] 36)).heap.size) (by repeat (first | (with_reducible exact (unhide O3)) | (with_reducible refine own_setC ?_ (sA)))) (sA))
  · exact (World.ownsRow.mono (base := (((w.alloc (.cells #[.int .i64 s, .int .i64 t, .int .i64 k, .int .i64 z, .int .i64 p, .int .i64 l, .int .i64 e, .bool b, .int .i64 v, .int .i64 r] 39)).alloc (.cells #[.int .i64 xn, .bool xop, .slice a2 l2 c2, .slice a3 l3 c3, .slice a4 l4 c4, .int .i64 xsfn, .slice a6 l6 c6, .slice a7 l7 c7] 36)).alloc (.cells #[.int .i64 0, .bool false, .slice none 0 0, .slice none 0 0, .slice none 0 0, .int .i64 0, .slice none 0 0, .slice none 0 0] 36)).heap.size) (by repeat (first | (with_reducible exact (unhide O4)) | (with_reducible refine own_setC ?_ (sA)))) (sA))
  · repeat (first | (with_reducible exact hbF) | (with_reducible refine bel_set ?_ (by simp <;> omega) _) | (with_reducible refine bel_alloc ?_ _))
end Go.Proofs.YtbjhpiannjepkaaGreat
