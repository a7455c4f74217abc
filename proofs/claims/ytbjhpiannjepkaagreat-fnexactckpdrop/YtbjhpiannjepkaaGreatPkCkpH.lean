/- Laid together: what the claim needs of the texts that were built one by one. -/
import Derived.Test.YtbjhpiannjepkaaGreatPkCkpE
import Derived.Test.YtbjhpiannjepkaaGreatPkCkpV2
import Derived.Test.YtbjhpiannjepkaaGreatPkBase
namespace Go.Proofs.YtbjhpiannjepkaaGreat
open Go.ChangeShapes Go.WideShapes Go.ChangeAt Go.RowKit Go.Deep
set_option linter.unusedVariables false

/-- What checkpoints are behind a giving up. -/
def restD (s t : Nat) (x : CkD) : CkD := { x with op := false, src := List.replicate s (-1), tsk := List.replicate t false, sn := List.replicate t ⟨0, [], []⟩ }

def dropD (ok : Bool) (s t : Int) (x : CkD) : CkD := if ok then restD s.toNat t.toNat x else ckZero

theorem copS_rep (W : World) (B t : Nat) : CopS W B (List.replicate t noSn) (List.replicate t ⟨0, [], []⟩) := by
  refine ⟨by simp, fun i p x hp hx => ?_, fun i p x hp hx => ?_, fun i p x hp hx => ?_, fun i j p q hp hq hij b hb => ?_, fun i j p q hp hq hij b hb => ?_⟩
  · obtain rfl := get_rep hp; obtain rfl := get_rep hx; exact ⟨rfl, rfl, rfl⟩
  · obtain rfl := get_rep hp; obtain rfl := get_rep hx; exact World.ownsRow_nil _ _ _ _
  · obtain rfl := get_rep hp; obtain rfl := get_rep hx; exact World.ownsRow_nil _ _ _ _
  · obtain rfl := get_rep hp; cases hb
  · obtain rfl := get_rep hp; cases hb

theorem CkDis.rest {W W' : World} {B B' s t : Nat} {src : List Int} {tsk : List Bool} {sn : List SnD} {at_ : List Int} {ssn : List SnD} {v2 v3 v4 v6 v7 u2 u3 u4 : Value} {l4 l7 : List (Int × SnV)} (h : CkDis W B src tsk sn at_ ssn v2 v3 v4 v6 v7 l4 l7) (hb : Below W.heap.size W W') (hB : W.heap.size ≤ B') (hBB : B ≤ B') (o2 : W'.ownsRow B' 3 1 u2 s (List.replicate s (.int .i64 (-1)))) (o3 : W'.ownsRow B' 4 1 u3 t (List.replicate t (.bool false))) (o4 : W'.ownsRow B' 80 3 u4 t (flatSV (List.replicate t noSn))) : CkDis W' B (List.replicate s (-1)) (List.replicate t false) (List.replicate t ⟨0, [], []⟩) at_ ssn u2 u3 u4 v6 v7 (List.replicate t noSn) l7 := by
  refine ⟨?_, ?_, ?_, copS_rep _ _ _, own_bel h.o6 hb, own_bel h.o7 hb, h.k7.below hb, ?_, ?_, ?_, ?_, ?_⟩
  · rw [List.length_replicate, ← rep_map]; exact World.ownsRow.mono o2 hBB
  · rw [List.length_replicate, ← rep_mapB]; exact World.ownsRow.mono o3 hBB
  · unfold OwnSn; rw [List.length_replicate]; exact World.ownsRow.mono o4 hBB
  · intro b x y
    have h1 := (World.ownsRow.lt o2 b x).1
    have h2 := (World.ownsRow.lt h.o6 b y).2
    omega
  · intro b x y
    have h1 := (World.ownsRow.lt o4 b x).1
    have h2 := (World.ownsRow.lt h.o7 b y).2
    omega
  · intro i p hp b hb9
    rcases hp with hp | hp
    · obtain rfl := get_rep hp; cases hb9
    · refine ⟨fun x => ?_, (h.dm i p (Or.inr hp) b hb9).2⟩
      have h1 := (World.ownsRow.lt o2 b x).1
      have h2 := (h.k7.rngs i p hp b (Or.inr hb9)).2
      omega
  · intro i j p q hp hq b x
    obtain rfl := get_rep hp; cases x
  · intro i j p q hp hq b x
    obtain rfl := get_rep hp; cases x

theorem ckLim_rest {s t : Nat} {x : CkD} (h : CkLim x) (hs : s ≤ 1000) (ht : t ≤ 1000) : CkLim (restD s t x) := by
  obtain ⟨h2, h3, h4, h6, h7⟩ := h
  refine ⟨?_, ?_, ⟨?_, fun y hy => ?_⟩, h6, h7⟩
  · simp [restD]; omega
  · simp [restD]; omega
  · simp [restD]; omega
  · have h9 : y = ⟨0, [], []⟩ := List.eq_of_mem_replicate hy
    subst h9
    simp

theorem okCk_job {s t k z p l e v r : Int} {x : CkD} (h : okCk s t k z p l e v r x = true) : (1 ≤ s ∧ s ≤ 3) ∧ (1 ≤ t ∧ t ≤ 2) := by
  unfold okCk at h
  simp only [Bool.and_eq_true] at h
  have h1 := h.1.1.1.1.1.1.1.1
  unfold okJob at h1
  simp only [Bool.and_eq_true] at h1
  exact ⟨inB_iff.1 h1.1.1.1.1.1.1.1.1, inB_iff.1 h1.1.1.1.1.1.1.1.2⟩

set_option linter.unusedSimpArgs false in
set_option maxRecDepth 20000 in
set_option maxHeartbeats 4000000 in
theorem l9drop_any (s t : Nat) (k z p l e : Int) (b : Bool) (v r : Int) (xn : Int) (xop : Bool) (a2 : Option Addr) (l2 c2 : Nat) (a3 : Option Addr) (l3 c3 : Nat) (a4 : Option Addr) (l4 c4 : Nat) (xsfn : Int) (a6 : Option Addr) (l6 c6 : Nat) (a7 : Option Addr) (l7 c7 : Nat) (w : World) (hs : s ≤ 1000) (ht : t ≤ 1000) : Calls Tryz.prog 23 #[.agg #[.int .i64 s, .int .i64 t, .int .i64 k, .int .i64 z, .int .i64 p, .int .i64 l, .int .i64 e, .bool b, .int .i64 v, .int .i64 r], .agg #[.int .i64 xn, .bool xop, .slice a2 l2 c2, .slice a3 l3 c3, .slice a4 l4 c4, .int .i64 xsfn, .slice a6 l6 c6, .slice a7 l7 c7]] w fun e' w' => ∃ v2 v3 v4, e' = .returned (.agg #[.int .i64 xn, .bool false, v2, v3, v4, .int .i64 xsfn, .slice a6 l6 c6, .slice a7 l7 c7]) ∧ w'.ownsRow w.heap.size 3 1 v2 s (List.replicate s (.int .i64 (-1))) ∧ w'.ownsRow w.heap.size 4 1 v3 t (List.replicate t (.bool false)) ∧ w'.ownsRow w.heap.size 80 3 v4 t (flatSV (List.replicate t noSn)) ∧ Below w.heap.size w w' := by
  have hX0 : (((w.alloc (.cells #[.int .i64 s, .int .i64 t, .int .i64 k, .int .i64 z, .int .i64 p, .int .i64 l, .int .i64 e, .bool b, .int .i64 v, .int .i64 r] 39)).alloc (.cells #[.int .i64 xn, .bool xop, .slice a2 l2 c2, .slice a3 l3 c3, .slice a4 l4 c4, .int .i64 xsfn, .slice a6 l6 c6, .slice a7 l7 c7] 36)).alloc (.cells #[.int .i64 0, .bool false, .slice none 0 0, .slice none 0 0, .slice none 0 0, .int .i64 0, .slice none 0 0, .slice none 0 0] 36)).heap[w.heap.size + 1]? = some (.cells #[.int .i64 xn, .bool xop, .slice a2 l2 c2, .slice a3 l3 c3, .slice a4 l4 c4, .int .i64 xsfn, .slice a6 l6 c6, .slice a7 l7 c7] 36 (0, 0)) := ((bel_one _ _).block _ (by simp)).trans (blk_new (by simp))
  have hY0 : (((w.alloc (.cells #[.int .i64 s, .int .i64 t, .int .i64 k, .int .i64 z, .int .i64 p, .int .i64 l, .int .i64 e, .bool b, .int .i64 v, .int .i64 r] 39)).alloc (.cells #[.int .i64 xn, .bool xop, .slice a2 l2 c2, .slice a3 l3 c3, .slice a4 l4 c4, .int .i64 xsfn, .slice a6 l6 c6, .slice a7 l7 c7] 36)).alloc (.cells #[.int .i64 0, .bool false, .slice none 0 0, .slice none 0 0, .slice none 0 0, .int .i64 0, .slice none 0 0, .slice none 0 0] 36)).heap[w.heap.size + 2]? = some (.cells #[.int .i64 0, .bool false, .slice none 0 0, .slice none 0 0, .slice none 0 0, .int .i64 0, .slice none 0 0, .slice none 0 0] 36 (0, 0)) := blk_new (by simp)
  have hbz : Below w.heap.size w (((w.alloc (.cells #[.int .i64 s, .int .i64 t, .int .i64 k, .int .i64 z, .int .i64 p, .int .i64 l, .int .i64 e, .bool b, .int .i64 v, .int .i64 r] 39)).alloc (.cells #[.int .i64 xn, .bool xop, .slice a2 l2 c2, .slice a3 l3 c3, .slice a4 l4 c4, .int .i64 xsfn, .slice a6 l6 c6, .slice a7 l7 c7] 36)).alloc (.cells #[.int .i64 0, .bool false, .slice none 0 0, .slice none 0 0, .slice none 0 0, .int .i64 0, .slice none 0 0, .slice none 0 0] 36)) := bel_alloc (bel_alloc (bel_one _ _) _) _
  go_enter Tryz.func23, Tryz.ntmps23
  go_wp2_with fail
  refine (nobody_any s t k z p l e b v r hs ht _).mono ?_
  rintro e' w1 ⟨v2, v3, v4, rfl, o2, o3, o4, hb1⟩
  obtain ⟨p2, q2, rfl⟩ := sliceC o2
  obtain ⟨p3, q3, rfl⟩ := sliceC o3
  obtain ⟨p4, q4, rfl⟩ := sliceC o4
  have z1 : w.heap.size + 1 + 1 < w1.heap.size := by have h9 := hb1.size; simp at h9; omega
  have z1a : w.heap.size + 1 < w1.heap.size := by omega
  have hX1 := (hb1.block (w.heap.size + 1) (by simp)).trans hX0
  have hY1 := (hb1.block (w.heap.size + 2) (by simp)).trans hY0
  have hbF : Below w.heap.size w w1 := bel_trans hbz hb1
  clear hX0 hY0
  have x0 : w1.cell? ⟨w.heap.size + 1, 0, none⟩ = some (.int .i64 xn) := by simp [World.cell?, hX1, go_sem]
  have xf0 : w1.frozen? ⟨w.heap.size + 1, 0, none⟩ = false := by simp [World.frozen?, hX1, go_sem]
  have x1 : w1.cell? ⟨w.heap.size + 1, 1, none⟩ = some (.bool xop) := by simp [World.cell?, hX1, go_sem]
  have xf1 : w1.frozen? ⟨w.heap.size + 1, 1, none⟩ = false := by simp [World.frozen?, hX1, go_sem]
  have x2 : w1.cell? ⟨w.heap.size + 1, 2, none⟩ = some (.slice a2 l2 c2) := by simp [World.cell?, hX1, go_sem]
  have xf2 : w1.frozen? ⟨w.heap.size + 1, 2, none⟩ = false := by simp [World.frozen?, hX1, go_sem]
  have x3 : w1.cell? ⟨w.heap.size + 1, 3, none⟩ = some (.slice a3 l3 c3) := by simp [World.cell?, hX1, go_sem]
  have xf3 : w1.frozen? ⟨w.heap.size + 1, 3, none⟩ = false := by simp [World.frozen?, hX1, go_sem]
  have x4 : w1.cell? ⟨w.heap.size + 1, 4, none⟩ = some (.slice a4 l4 c4) := by simp [World.cell?, hX1, go_sem]
  have xf4 : w1.frozen? ⟨w.heap.size + 1, 4, none⟩ = false := by simp [World.frozen?, hX1, go_sem]
  have x5 : w1.cell? ⟨w.heap.size + 1, 5, none⟩ = some (.int .i64 xsfn) := by simp [World.cell?, hX1, go_sem]
  have xf5 : w1.frozen? ⟨w.heap.size + 1, 5, none⟩ = false := by simp [World.frozen?, hX1, go_sem]
  have x6 : w1.cell? ⟨w.heap.size + 1, 6, none⟩ = some (.slice a6 l6 c6) := by simp [World.cell?, hX1, go_sem]
  have xf6 : w1.frozen? ⟨w.heap.size + 1, 6, none⟩ = false := by simp [World.frozen?, hX1, go_sem]
  have x7 : w1.cell? ⟨w.heap.size + 1, 7, none⟩ = some (.slice a7 l7 c7) := by simp [World.cell?, hX1, go_sem]
  have xf7 : w1.frozen? ⟨w.heap.size + 1, 7, none⟩ = false := by simp [World.frozen?, hX1, go_sem]
  have y0 : w1.cell? ⟨w.heap.size + 1 + 1, 0, none⟩ = some (.int .i64 0) := by simp [World.cell?, hY1, go_sem]
  have yf0 : w1.frozen? ⟨w.heap.size + 1 + 1, 0, none⟩ = false := by simp [World.frozen?, hY1, go_sem]
  have y1 : w1.cell? ⟨w.heap.size + 1 + 1, 1, none⟩ = some (.bool false) := by simp [World.cell?, hY1, go_sem]
  have yf1 : w1.frozen? ⟨w.heap.size + 1 + 1, 1, none⟩ = false := by simp [World.frozen?, hY1, go_sem]
  have y2 : w1.cell? ⟨w.heap.size + 1 + 1, 2, none⟩ = some (.slice none 0 0) := by simp [World.cell?, hY1, go_sem]
  have yf2 : w1.frozen? ⟨w.heap.size + 1 + 1, 2, none⟩ = false := by simp [World.frozen?, hY1, go_sem]
  have y3 : w1.cell? ⟨w.heap.size + 1 + 1, 3, none⟩ = some (.slice none 0 0) := by simp [World.cell?, hY1, go_sem]
  have yf3 : w1.frozen? ⟨w.heap.size + 1 + 1, 3, none⟩ = false := by simp [World.frozen?, hY1, go_sem]
  have y4 : w1.cell? ⟨w.heap.size + 1 + 1, 4, none⟩ = some (.slice none 0 0) := by simp [World.cell?, hY1, go_sem]
  have yf4 : w1.frozen? ⟨w.heap.size + 1 + 1, 4, none⟩ = false := by simp [World.frozen?, hY1, go_sem]
  have y5 : w1.cell? ⟨w.heap.size + 1 + 1, 5, none⟩ = some (.int .i64 0) := by simp [World.cell?, hY1, go_sem]
  have yf5 : w1.frozen? ⟨w.heap.size + 1 + 1, 5, none⟩ = false := by simp [World.frozen?, hY1, go_sem]
  have y6 : w1.cell? ⟨w.heap.size + 1 + 1, 6, none⟩ = some (.slice none 0 0) := by simp [World.cell?, hY1, go_sem]
  have yf6 : w1.frozen? ⟨w.heap.size + 1 + 1, 6, none⟩ = false := by simp [World.frozen?, hY1, go_sem]
  have y7 : w1.cell? ⟨w.heap.size + 1 + 1, 7, none⟩ = some (.slice none 0 0) := by simp [World.cell?, hY1, go_sem]
  have yf7 : w1.frozen? ⟨w.heap.size + 1 + 1, 7, none⟩ = false := by simp [World.frozen?, hY1, go_sem]
  clear hX1 hY1
  have O2 := hide o2
  have O3 := hide o3
  have O4 := hide o4
  clear o2 o3 o4 hb1
  go_wp2
  refine bodyPost_ret (v := .agg #[.int .i64 xn, .bool false, .slice p2 s q2, .slice p3 t q3, .slice p4 t q4, .int .i64 xsfn, .slice a6 l6 c6, .slice a7 l7 c7]) (by simp (maxDischargeDepth := 9) [results, Tryz.results23, go_sem, *]) rfl ⟨_, _, _, rfl, ?_, ?_, ?_, ?_⟩
  · exact (World.ownsRow.mono (base := (((w.alloc (.cells #[.int .i64 s, .int .i64 t, .int .i64 k, .int .i64 z, .int .i64 p, .int .i64 l, .int .i64 e, .bool b, .int .i64 v, .int .i64 r] 39)).alloc (.cells #[.int .i64 xn, .bool xop, .slice a2 l2 c2, .slice a3 l3 c3, .slice a4 l4 c4, .int .i64 xsfn, .slice a6 l6 c6, .slice a7 l7 c7] 36)).alloc (.cells #[.int .i64 0, .bool false, .slice none 0 0, .slice none 0 0, .slice none 0 0, .int .i64 0, .slice none 0 0, .slice none 0 0] 36)).heap.size) (by repeat (first | (with_reducible exact (unhide O2)) | (with_reducible refine own_setC ?_ (sA)))) (sA))
  · exact (World.ownsRow.mono (base := (((w.alloc (.cells #[.int .i64 s, .int .i64 t, .int .i64 k, .int .i64 z, .int .i64 p, .int .i64 l, .int .i64 e, .bool b, .int .i64 v, .int .i64 r] 39)).alloc (.cells #[.int .i64 xn, .bool xop, .slice a2 l2 c2, .slice a3 l3 c3, .slice a4 l4 c4, .int .i64 xsfn, .slice a6 l6 c6, .slice a7 l7 c7] 36)).alloc (.cells #[.int .i64 0, .bool false, .slice none 0 0, .slice none 0 0, .slice none 0 0, .int .i64 0, .slice none 0 0, .slice none 0 0] 36)).heap.size) (by repeat (first | (with_reducible exact (unhide O3)) | (with_reducible refine own_setC ?_ (sA)))) (sA))
  · exact (World.ownsRow.mono (base := (((w.alloc (.cells #[.int .i64 s, .int .i64 t, .int .i64 k, .int .i64 z, .int .i64 p, .int .i64 l, .int .i64 e, .bool b, .int .i64 v, .int .i64 r] 39)).alloc (.cells #[.int .i64 xn, .bool xop, .slice a2 l2 c2, .slice a3 l3 c3, .slice a4 l4 c4, .int .i64 xsfn, .slice a6 l6 c6, .slice a7 l7 c7] 36)).alloc (.cells #[.int .i64 0, .bool false, .slice none 0 0, .slice none 0 0, .slice none 0 0, .int .i64 0, .slice none 0 0, .slice none 0 0] 36)).heap.size) (by repeat (first | (with_reducible exact (unhide O4)) | (with_reducible refine own_setC ?_ (sA)))) (sA))
  · repeat (first | (with_reducible exact hbF) | (with_reducible refine bel_set ?_ (by simp <;> omega) _) | (with_reducible refine bel_alloc ?_ _))

set_option linter.unusedSimpArgs false in
set_option maxRecDepth 20000 in
set_option maxHeartbeats 4000000 in
theorem specdrop_any (s t k z p l e : Int) (b : Bool) (v r : Int) (x : CkD) (a2 : Option Addr) (l2 c2 : Nat) (a3 : Option Addr) (l3 c3 : Nat) (a4 : Option Addr) (l4 c4 : Nat) (a6 : Option Addr) (l6 c6 : Nat) (a7 : Option Addr) (l7 c7 : Nat) (B : Nat) (w : World) (h : CkIs w B a2 l2 a3 l3 a4 l4 a6 l6 a7 l7 x) (hL : CkLim x) : Calls Tryz.prog 13 #[.agg #[.int .i64 s, .int .i64 t, .int .i64 k, .int .i64 z, .int .i64 p, .int .i64 l, .int .i64 e, .bool b, .int .i64 v, .int .i64 r], .agg #[.int .i64 x.n, .bool x.op, .slice a2 l2 c2, .slice a3 l3 c3, .slice a4 l4 c4, .int .i64 x.sfn, .slice a6 l6 c6, .slice a7 l7 c7]] w fun e' w' => NewK w (dropD (okCk s t k z p l e v r x) s t x) e' w' := by
  obtain ⟨xn, xop, xsrc, xtsk, xsn, xsfn, xat, xssn⟩ := x
  obtain ⟨ok, hok⟩ : ∃ ok, okCk s t k z p l e v r ⟨xn, xop, xsrc, xtsk, xsn, xsfn, xat, xssn⟩ = ok := ⟨_, rfl⟩
  have hlens : l2 ≤ 1048576 ∧ l3 ≤ 1048576 ∧ l4 ≤ 1048576 ∧ l6 ≤ 1048576 ∧ l7 ≤ 1048576 := by
    have q2 := h.src.1.1
    have q3 := h.tsk.1.1
    have q4 := h.sn.1
    have q6 := h.at_.1.1
    have q7 := h.ssn.1
    obtain ⟨r2, r3, ⟨r4, _⟩, r6, ⟨r7, _⟩⟩ := hL
    simp only at *
    omega
  obtain ⟨n2, n3, n4, n6, n7⟩ := hlens
  have hbz : Below w.heap.size w (((w.alloc (.cells #[.int .i64 s, .int .i64 t, .int .i64 k, .int .i64 z, .int .i64 p, .int .i64 l, .int .i64 e, .bool b, .int .i64 v, .int .i64 r] 39)).alloc (.cells #[.int .i64 xn, .bool xop, .slice a2 l2 c2, .slice a3 l3 c3, .slice a4 l4 c4, .int .i64 xsfn, .slice a6 l6 c6, .slice a7 l7 c7] 36)).alloc (.cells #[.int .i64 0, .bool false, .slice none 0 0, .slice none 0 0, .slice none 0 0, .int .i64 0, .slice none 0 0, .slice none 0 0] 36)) := bel_alloc (bel_alloc (bel_one _ _) _) _
  have h0 := h.below hbz
  have hJ0 : (((w.alloc (.cells #[.int .i64 s, .int .i64 t, .int .i64 k, .int .i64 z, .int .i64 p, .int .i64 l, .int .i64 e, .bool b, .int .i64 v, .int .i64 r] 39)).alloc (.cells #[.int .i64 xn, .bool xop, .slice a2 l2 c2, .slice a3 l3 c3, .slice a4 l4 c4, .int .i64 xsfn, .slice a6 l6 c6, .slice a7 l7 c7] 36)).alloc (.cells #[.int .i64 0, .bool false, .slice none 0 0, .slice none 0 0, .slice none 0 0, .int .i64 0, .slice none 0 0, .slice none 0 0] 36)).heap[w.heap.size]? = some (.cells #[.int .i64 s, .int .i64 t, .int .i64 k, .int .i64 z, .int .i64 p, .int .i64 l, .int .i64 e, .bool b, .int .i64 v, .int .i64 r] 39 (0, 0)) := ((bel_one _ _).block _ (by simp <;> omega)).trans (((bel_one _ _).block _ (by simp <;> omega)).trans (blk_new rfl))
  have hX0 : (((w.alloc (.cells #[.int .i64 s, .int .i64 t, .int .i64 k, .int .i64 z, .int .i64 p, .int .i64 l, .int .i64 e, .bool b, .int .i64 v, .int .i64 r] 39)).alloc (.cells #[.int .i64 xn, .bool xop, .slice a2 l2 c2, .slice a3 l3 c3, .slice a4 l4 c4, .int .i64 xsfn, .slice a6 l6 c6, .slice a7 l7 c7] 36)).alloc (.cells #[.int .i64 0, .bool false, .slice none 0 0, .slice none 0 0, .slice none 0 0, .int .i64 0, .slice none 0 0, .slice none 0 0] 36)).heap[w.heap.size + 1]? = some (.cells #[.int .i64 xn, .bool xop, .slice a2 l2 c2, .slice a3 l3 c3, .slice a4 l4 c4, .int .i64 xsfn, .slice a6 l6 c6, .slice a7 l7 c7] 36 (0, 0)) := ((bel_one _ _).block _ (by simp)).trans (blk_new (by simp))
  have hY0 : (((w.alloc (.cells #[.int .i64 s, .int .i64 t, .int .i64 k, .int .i64 z, .int .i64 p, .int .i64 l, .int .i64 e, .bool b, .int .i64 v, .int .i64 r] 39)).alloc (.cells #[.int .i64 xn, .bool xop, .slice a2 l2 c2, .slice a3 l3 c3, .slice a4 l4 c4, .int .i64 xsfn, .slice a6 l6 c6, .slice a7 l7 c7] 36)).alloc (.cells #[.int .i64 0, .bool false, .slice none 0 0, .slice none 0 0, .slice none 0 0, .int .i64 0, .slice none 0 0, .slice none 0 0] 36)).heap[w.heap.size + 2]? = some (.cells #[.int .i64 0, .bool false, .slice none 0 0, .slice none 0 0, .slice none 0 0, .int .i64 0, .slice none 0 0, .slice none 0 0] 36 (0, 0)) := blk_new (by simp)
  rw [hok]
  have hjob : ok = true → (1 ≤ s ∧ s ≤ 3) ∧ (1 ≤ t ∧ t ≤ 2) := fun e9 => okCk_job (hok.trans e9)
  have HOK := hide hok
  clear hok
  go_enter Tryz.func13, Tryz.ntmps13
  go_wp2_with fail
  refine (specckpok_any s t k z p l e b v r ⟨xn, xop, xsrc, xtsk, xsn, xsfn, xat, xssn⟩ a2 l2 c2 a3 l3 c3 a4 l4 c4 a6 l6 c6 a7 l7 c7 B _ h0 hL.2.2.1.2).mono ?_
  rw [unhide HOK]
  rintro e' w1 ⟨rfl, hb1⟩
  clear HOK
  have z1 : w.heap.size + 2 < w1.heap.size := by have h9 := hb1.size; simp at h9; omega
  have z1a : w.heap.size + 1 < w1.heap.size := by omega
  have hJ1 := (hb1.block w.heap.size (by simp; omega)).trans hJ0
  have hX1 := (hb1.block (w.heap.size + 1) (by simp)).trans hX0
  have hY1 := (hb1.block (w.heap.size + 2) (by simp)).trans hY0
  have hbA : Below w.heap.size w w1 := bel_trans hbz hb1
  clear hJ0 hX0 hY0
  cases ok with
  | false =>
    clear hjob hJ1 hX1
    have z1b : w.heap.size + 1 + 1 < w1.heap.size := by omega
    have y0 : w1.cell? ⟨w.heap.size + 1 + 1, 0, none⟩ = some (.int .i64 0) := by simp [World.cell?, hY1, go_sem]
    have yf0 : w1.frozen? ⟨w.heap.size + 1 + 1, 0, none⟩ = false := by simp [World.frozen?, hY1, go_sem]
    have y1 : w1.cell? ⟨w.heap.size + 1 + 1, 1, none⟩ = some (.bool false) := by simp [World.cell?, hY1, go_sem]
    have yf1 : w1.frozen? ⟨w.heap.size + 1 + 1, 1, none⟩ = false := by simp [World.frozen?, hY1, go_sem]
    have y2 : w1.cell? ⟨w.heap.size + 1 + 1, 2, none⟩ = some (.slice none 0 0) := by simp [World.cell?, hY1, go_sem]
    have yf2 : w1.frozen? ⟨w.heap.size + 1 + 1, 2, none⟩ = false := by simp [World.frozen?, hY1, go_sem]
    have y3 : w1.cell? ⟨w.heap.size + 1 + 1, 3, none⟩ = some (.slice none 0 0) := by simp [World.cell?, hY1, go_sem]
    have yf3 : w1.frozen? ⟨w.heap.size + 1 + 1, 3, none⟩ = false := by simp [World.frozen?, hY1, go_sem]
    have y4 : w1.cell? ⟨w.heap.size + 1 + 1, 4, none⟩ = some (.slice none 0 0) := by simp [World.cell?, hY1, go_sem]
    have yf4 : w1.frozen? ⟨w.heap.size + 1 + 1, 4, none⟩ = false := by simp [World.frozen?, hY1, go_sem]
    have y5 : w1.cell? ⟨w.heap.size + 1 + 1, 5, none⟩ = some (.int .i64 0) := by simp [World.cell?, hY1, go_sem]
    have yf5 : w1.frozen? ⟨w.heap.size + 1 + 1, 5, none⟩ = false := by simp [World.frozen?, hY1, go_sem]
    have y6 : w1.cell? ⟨w.heap.size + 1 + 1, 6, none⟩ = some (.slice none 0 0) := by simp [World.cell?, hY1, go_sem]
    have yf6 : w1.frozen? ⟨w.heap.size + 1 + 1, 6, none⟩ = false := by simp [World.frozen?, hY1, go_sem]
    have y7 : w1.cell? ⟨w.heap.size + 1 + 1, 7, none⟩ = some (.slice none 0 0) := by simp [World.cell?, hY1, go_sem]
    have yf7 : w1.frozen? ⟨w.heap.size + 1 + 1, 7, none⟩ = false := by simp [World.frozen?, hY1, go_sem]
    clear hY1
    go_wp2
    refine bodyPost_ret (v := .agg #[.int .i64 0, .bool false, .slice none 0 0, .slice none 0 0, .slice none 0 0, .int .i64 0, .slice none 0 0, .slice none 0 0]) (by simp (maxDischargeDepth := 9) [results, Tryz.results13, go_sem, *]) rfl ?_
    have hz : dropD false s t ⟨xn, xop, xsrc, xtsk, xsn, xsfn, xat, xssn⟩ = ckZero := rfl
    rw [hz]
    refine zero_newk ?_
    repeat (first | (with_reducible exact hbA) | (with_reducible refine bel_set ?_ (by simp <;> omega) _))
  | true =>
    obtain ⟨⟨s1, s2⟩, t1, t2⟩ := hjob rfl
    clear hjob
    obtain ⟨sN, rfl⟩ : ∃ n : Nat, s = n := ⟨s.toNat, by omega⟩
    obtain ⟨tN, rfl⟩ : ∃ n : Nat, t = n := ⟨t.toNat, by omega⟩
    have hDr : dropD true sN tN ⟨xn, xop, xsrc, xtsk, xsn, xsfn, xat, xssn⟩ = restD sN tN ⟨xn, xop, xsrc, xtsk, xsn, xsfn, xat, xssn⟩ := by simp [dropD]
    have h1 := (h0.below hb1).below (bel_drew (Below.refl _ _))
    clear h h0 hbz hb1
    go_wp2_with fail
    refine wp_region_held_drew (S := (fun W => W.heap[w.heap.size]? = some (.cells #[.int .i64 sN, .int .i64 tN, .int .i64 k, .int .i64 z, .int .i64 p, .int .i64 l, .int .i64 e, .bool b, .int .i64 v, .int .i64 r] 39 (0, 0)) ∧ W.heap[w.heap.size + 1]? = some (.cells #[.int .i64 xn, .bool xop, .slice a2 l2 c2, .slice a3 l3 c3, .slice a4 l4 c4, .int .i64 xsfn, .slice a6 l6 c6, .slice a7 l7 c7] 36 (0, 0)))) (by kernel_rfl) ?_ (fun hHeld => ?_)
    · (try dsimp only); exact ⟨hJ1, hX1⟩
    refine wpAnyH_take (i := 0) (v := ?_) (by simp only [gA, gZ, gS]; rfl) (by kernel_rfl) (by kernel_rfl) (by kernel_rfl) (by intro _ _ _ h; exact h) (Or.inl ⟨by rfl, ?_⟩) (by assumption) ?_
    rotate_left
    · (intro w9 hSw; (try dsimp only at hSw); obtain ⟨q1, q2⟩ := hSw; have cj0 : w9.cell? ⟨w.heap.size, 0, none⟩ = some (.int .i64 sN) := (by simp [World.cell?, q1, go_sem]); have cj1 : w9.cell? ⟨w.heap.size, 1, none⟩ = some (.int .i64 tN) := (by simp [World.cell?, q1, go_sem]); have cj2 : w9.cell? ⟨w.heap.size, 2, none⟩ = some (.int .i64 k) := (by simp [World.cell?, q1, go_sem]); have cj3 : w9.cell? ⟨w.heap.size, 3, none⟩ = some (.int .i64 z) := (by simp [World.cell?, q1, go_sem]); have cj4 : w9.cell? ⟨w.heap.size, 4, none⟩ = some (.int .i64 p) := (by simp [World.cell?, q1, go_sem]); have cj5 : w9.cell? ⟨w.heap.size, 5, none⟩ = some (.int .i64 l) := (by simp [World.cell?, q1, go_sem]); have cj6 : w9.cell? ⟨w.heap.size, 6, none⟩ = some (.int .i64 e) := (by simp [World.cell?, q1, go_sem]); have cj7 : w9.cell? ⟨w.heap.size, 7, none⟩ = some (.bool b) := (by simp [World.cell?, q1, go_sem]); have cj8 : w9.cell? ⟨w.heap.size, 8, none⟩ = some (.int .i64 v) := (by simp [World.cell?, q1, go_sem]); have cj9 : w9.cell? ⟨w.heap.size, 9, none⟩ = some (.int .i64 r) := (by simp [World.cell?, q1, go_sem]); go_simp <;> with_reducible rfl)
    try simp only [Act.put, tA, tZ, tS]
    refine wpAnyH_take (i := 1) (v := ?_) (by simp only [gA, gZ, gS]; rfl) (by kernel_rfl) (by kernel_rfl) (by kernel_rfl) (by intro _ _ _ h; exact h) (Or.inl ⟨by rfl, ?_⟩) (by assumption) ?_
    rotate_left
    · (intro w9 hSw; (try dsimp only at hSw); obtain ⟨q1, q2⟩ := hSw; have cx0 : w9.cell? ⟨w.heap.size + 1, 0, none⟩ = some (.int .i64 xn) := (by simp [World.cell?, q2, go_sem]); have cx1 : w9.cell? ⟨w.heap.size + 1, 1, none⟩ = some (.bool xop) := (by simp [World.cell?, q2, go_sem]); have cx2 : w9.cell? ⟨w.heap.size + 1, 2, none⟩ = some (.slice a2 l2 c2) := (by simp [World.cell?, q2, go_sem]); have cx3 : w9.cell? ⟨w.heap.size + 1, 3, none⟩ = some (.slice a3 l3 c3) := (by simp [World.cell?, q2, go_sem]); have cx4 : w9.cell? ⟨w.heap.size + 1, 4, none⟩ = some (.slice a4 l4 c4) := (by simp [World.cell?, q2, go_sem]); have cx5 : w9.cell? ⟨w.heap.size + 1, 5, none⟩ = some (.int .i64 xsfn) := (by simp [World.cell?, q2, go_sem]); have cx6 : w9.cell? ⟨w.heap.size + 1, 6, none⟩ = some (.slice a6 l6 c6) := (by simp [World.cell?, q2, go_sem]); have cx7 : w9.cell? ⟨w.heap.size + 1, 7, none⟩ = some (.slice a7 l7 c7) := (by simp [World.cell?, q2, go_sem]); go_simp <;> with_reducible rfl)
    try simp only [Act.put, tA, tZ, tS]
    refine wpAnyH_ready (rs := [2]) (by kernel_rfl) (by simp) ?_
    refine AllReadyH.cons (by simp only [gA, gZ, gS]; rfl) (fun K hK => ?_) AllReadyH.nil
    go_simp
    (go_at_call 20; refine (l9copy_any xn xop a2 l2 c2 a3 l3 c3 a4 l4 c4 xsfn a6 l6 c6 a7 l7 c7 B xsrc xtsk xsn xat xssn _ h1.src.1 h1.tsk.1 h1.sn h1.at_.1 h1.ssn n2 n3 n4 n6 n7 hL.2.2.1.2 hL.2.2.2.2.2).mono ?_; rintro e' w2 ⟨v2, v3, v4, v6, v7, s4, s7, rfl, hD, hb2⟩)
    (try go_wp2_with fail)
    obtain ⟨p2, q2, rfl⟩ := sliceC hD.o2
    obtain ⟨p3, q3, rfl⟩ := sliceC hD.o3
    obtain ⟨p4, q4, rfl⟩ := sliceC hD.o4
    obtain ⟨p6, q6, rfl⟩ := sliceC hD.o6
    obtain ⟨p7, q7, rfl⟩ := sliceC hD.o7
    have z2 : w1.heap.size ≤ w2.heap.size := by have h9 := hb2.size; simpa using h9
    have hJ2 := (hb2.block w.heap.size (sC)).trans hJ1
    have hX2 := (hb2.block (w.heap.size + 1) (sC)).trans hX1
    have hY2 := (hb2.block (w.heap.size + 2) (sC)).trans hY1
    have hbB : Below w.heap.size w w2 := bel_trans (bel_drew hbA) hb2
    have HD := hide hD
    clear hD hb2
    refine hK.out _ _ ?_ (fun hHeld2 => ?_)
    · (try dsimp only); exact ⟨hJ2, hX2⟩
    clear hK K hHeld
    have hHeld := hHeld2
    clear hHeld2
    try simp only [Act.put, tA, tZ, tS]
    refine wpAnyH_ready (rs := [3]) (by kernel_rfl) (by simp) ?_
    refine AllReadyH.cons (by simp only [gA, gZ, gS]; rfl) (fun K hK => ?_) AllReadyH.nil
    go_simp
    (go_at_call 23; refine (l9drop_any sN tN k z p l e b v r xn xop p2 xsrc.length q2 p3 xtsk.length q3 p4 s4.length q4 xsfn p6 xat.length q6 p7 s7.length q7 _ (by omega) (by omega)).mono ?_; rintro e' w3 ⟨u2, u3, u4, rfl, o2, o3, o4, hb3⟩)
    (try go_wp2_with fail)
    obtain ⟨m2, n2, rfl⟩ := sliceC o2
    obtain ⟨m3, n3, rfl⟩ := sliceC o3
    obtain ⟨m4, n4, rfl⟩ := sliceC o4
    have z3 : w2.heap.size ≤ w3.heap.size := hb3.size
    have z3a : w.heap.size + 1 + 1 < w3.heap.size := by omega
    have hJ3 := (hb3.block w.heap.size (by omega)).trans hJ2
    have hX3 := (hb3.block (w.heap.size + 1) (by omega)).trans hX2
    have hY3 := (hb3.block (w.heap.size + 2) (by omega)).trans hY2
    have hbC : Below w.heap.size w w3 := bel_trans hbB hb3
    have HR := hide ((unhide HD).rest hb3 (Nat.le_refl _) (sC) o2 o3 o4)
    clear HD o2 o3 o4 hb3 hJ2 hX2 hY2
    refine hK.out _ _ ?_ (fun hHeld2 => ?_)
    · (try dsimp only); exact ⟨hJ3, hX3⟩
    clear hK K hHeld
    have hHeld := hHeld2
    clear hHeld2
    try simp only [Act.put, tA, tZ, tS]
    have y0 : w3.cell? ⟨w.heap.size + 1 + 1, 0, none⟩ = some (.int .i64 0) := by simp [World.cell?, hY3, go_sem]
    have yf0 : w3.frozen? ⟨w.heap.size + 1 + 1, 0, none⟩ = false := by simp [World.frozen?, hY3, go_sem]
    have y1 : w3.cell? ⟨w.heap.size + 1 + 1, 1, none⟩ = some (.bool false) := by simp [World.cell?, hY3, go_sem]
    have yf1 : w3.frozen? ⟨w.heap.size + 1 + 1, 1, none⟩ = false := by simp [World.frozen?, hY3, go_sem]
    have y2 : w3.cell? ⟨w.heap.size + 1 + 1, 2, none⟩ = some (.slice none 0 0) := by simp [World.cell?, hY3, go_sem]
    have yf2 : w3.frozen? ⟨w.heap.size + 1 + 1, 2, none⟩ = false := by simp [World.frozen?, hY3, go_sem]
    have y3 : w3.cell? ⟨w.heap.size + 1 + 1, 3, none⟩ = some (.slice none 0 0) := by simp [World.cell?, hY3, go_sem]
    have yf3 : w3.frozen? ⟨w.heap.size + 1 + 1, 3, none⟩ = false := by simp [World.frozen?, hY3, go_sem]
    have y4 : w3.cell? ⟨w.heap.size + 1 + 1, 4, none⟩ = some (.slice none 0 0) := by simp [World.cell?, hY3, go_sem]
    have yf4 : w3.frozen? ⟨w.heap.size + 1 + 1, 4, none⟩ = false := by simp [World.frozen?, hY3, go_sem]
    have y5 : w3.cell? ⟨w.heap.size + 1 + 1, 5, none⟩ = some (.int .i64 0) := by simp [World.cell?, hY3, go_sem]
    have yf5 : w3.frozen? ⟨w.heap.size + 1 + 1, 5, none⟩ = false := by simp [World.frozen?, hY3, go_sem]
    have y6 : w3.cell? ⟨w.heap.size + 1 + 1, 6, none⟩ = some (.slice none 0 0) := by simp [World.cell?, hY3, go_sem]
    have yf6 : w3.frozen? ⟨w.heap.size + 1 + 1, 6, none⟩ = false := by simp [World.frozen?, hY3, go_sem]
    have y7 : w3.cell? ⟨w.heap.size + 1 + 1, 7, none⟩ = some (.slice none 0 0) := by simp [World.cell?, hY3, go_sem]
    have yf7 : w3.frozen? ⟨w.heap.size + 1 + 1, 7, none⟩ = false := by simp [World.frozen?, hY3, go_sem]
    clear hY3
    refine wpAnyH_ready (rs := [4]) (by kernel_rfl) (by simp) ?_
    refine AllReadyH.cons (by simp only [gA, gZ, gS]; rfl) (fun K hK => ?_) AllReadyH.nil
    go_simp
    refine hK.out _ _ ?_ (fun hHeld2 => ?_)
    · (try dsimp only); exact ⟨(by repeat (first | (with_reducible exact hJ3) | (with_reducible exact hX3) | (with_reducible refine (Below.heap_setCell _ _ _ _ (sC)).trans ?_))), (by repeat (first | (with_reducible exact hJ3) | (with_reducible exact hX3) | (with_reducible refine (Below.heap_setCell _ _ _ _ (sC)).trans ?_)))⟩
    clear hK K hHeld
    have hHeld := hHeld2
    clear hHeld2
    try simp only [Act.put, tA, tZ, tS]
    refine wpAnyH_done (by kernel_rfl) ?_ _
    go_wp2
    have fin : ∀ F : World, (∀ c, w1.heap.size ≤ c → c < w3.heap.size → F.heap[c]? = w3.heap[c]?) → Below w.heap.size w F → NewK w (restD sN tN ⟨xn, xop, xsrc, xtsk, xsn, xsfn, xat, xssn⟩) (.returned (.agg #[.int .i64 xn, .bool false, .slice m2 sN n2, .slice m3 tN n3, .slice m4 tN n4, .int .i64 xsfn, .slice p6 xat.length q6, .slice p7 s7.length q7])) F := by
      intro F hk hbF
      exact CkDis.newk (D := restD sN tN ⟨xn, xop, xsrc, xtsk, xsn, xsfn, xat, xssn⟩) (((unhide HR).keepB (fun c h1 h2 => hk c (by simpa using h1) h2)).base (sC)) (ckLim_rest hL (by omega) (by omega)) hbF
    refine bodyPost_ret (v := .agg #[.int .i64 xn, .bool false, .slice m2 sN n2, .slice m3 tN n3, .slice m4 tN n4, .int .i64 xsfn, .slice p6 xat.length q6, .slice p7 s7.length q7]) (by simp (maxDischargeDepth := 9) [results, Tryz.results13, go_sem, *]) rfl ?_
    rw [hDr]
    refine fin _ ?_ ?_
    · intro c hc1 hc2
      repeat (first | (with_reducible rfl) | (with_reducible refine (Below.heap_setCell _ _ _ _ (by simp; omega)).trans ?_) | (with_reducible refine (Below.heap_alloc _ _ _ (by simp; omega)).trans ?_))
    · repeat (first | (with_reducible exact hbC) | (with_reducible refine bel_set ?_ (by simp <;> omega) _) | (with_reducible refine bel_alloc ?_ _) | (with_reducible refine bel_drew ?_))

set_option linter.unusedSimpArgs false in
set_option maxRecDepth 20000 in
set_option maxHeartbeats 4000000 in
theorem impldrop_any (s t k z p l e : Int) (b : Bool) (v r : Int) (x : CkD) (a2 : Option Addr) (l2 c2 : Nat) (a3 : Option Addr) (l3 c3 : Nat) (a4 : Option Addr) (l4 c4 : Nat) (a6 : Option Addr) (l6 c6 : Nat) (a7 : Option Addr) (l7 c7 : Nat) (B : Nat) (w : World) (h : CkIs w B a2 l2 a3 l3 a4 l4 a6 l6 a7 l7 x) (hL : CkLim x) : Calls Tryz.prog 14 #[.agg #[.int .i64 s, .int .i64 t, .int .i64 k, .int .i64 z, .int .i64 p, .int .i64 l, .int .i64 e, .bool b, .int .i64 v, .int .i64 r], .agg #[.int .i64 x.n, .bool x.op, .slice a2 l2 c2, .slice a3 l3 c3, .slice a4 l4 c4, .int .i64 x.sfn, .slice a6 l6 c6, .slice a7 l7 c7]] w fun e' w' => NewK w (dropD (okCk s t k z p l e v r x) s t x) e' w' := by
  obtain ⟨xn, xop, xsrc, xtsk, xsn, xsfn, xat, xssn⟩ := x
  obtain ⟨ok, hok⟩ : ∃ ok, okCk s t k z p l e v r ⟨xn, xop, xsrc, xtsk, xsn, xsfn, xat, xssn⟩ = ok := ⟨_, rfl⟩
  have hlens : l2 ≤ 1048576 ∧ l3 ≤ 1048576 ∧ l4 ≤ 1048576 ∧ l6 ≤ 1048576 ∧ l7 ≤ 1048576 := by
    have q2 := h.src.1.1
    have q3 := h.tsk.1.1
    have q4 := h.sn.1
    have q6 := h.at_.1.1
    have q7 := h.ssn.1
    obtain ⟨r2, r3, ⟨r4, _⟩, r6, ⟨r7, _⟩⟩ := hL
    simp only at *
    omega
  obtain ⟨n2, n3, n4, n6, n7⟩ := hlens
  have hbz : Below w.heap.size w (((w.alloc (.cells #[.int .i64 s, .int .i64 t, .int .i64 k, .int .i64 z, .int .i64 p, .int .i64 l, .int .i64 e, .bool b, .int .i64 v, .int .i64 r] 39)).alloc (.cells #[.int .i64 xn, .bool xop, .slice a2 l2 c2, .slice a3 l3 c3, .slice a4 l4 c4, .int .i64 xsfn, .slice a6 l6 c6, .slice a7 l7 c7] 36)).alloc (.cells #[.int .i64 0, .bool false, .slice none 0 0, .slice none 0 0, .slice none 0 0, .int .i64 0, .slice none 0 0, .slice none 0 0] 36)) := bel_alloc (bel_alloc (bel_one _ _) _) _
  have h0 := h.below hbz
  have hJ0 : (((w.alloc (.cells #[.int .i64 s, .int .i64 t, .int .i64 k, .int .i64 z, .int .i64 p, .int .i64 l, .int .i64 e, .bool b, .int .i64 v, .int .i64 r] 39)).alloc (.cells #[.int .i64 xn, .bool xop, .slice a2 l2 c2, .slice a3 l3 c3, .slice a4 l4 c4, .int .i64 xsfn, .slice a6 l6 c6, .slice a7 l7 c7] 36)).alloc (.cells #[.int .i64 0, .bool false, .slice none 0 0, .slice none 0 0, .slice none 0 0, .int .i64 0, .slice none 0 0, .slice none 0 0] 36)).heap[w.heap.size]? = some (.cells #[.int .i64 s, .int .i64 t, .int .i64 k, .int .i64 z, .int .i64 p, .int .i64 l, .int .i64 e, .bool b, .int .i64 v, .int .i64 r] 39 (0, 0)) := ((bel_one _ _).block _ (by simp <;> omega)).trans (((bel_one _ _).block _ (by simp <;> omega)).trans (blk_new rfl))
  have hX0 : (((w.alloc (.cells #[.int .i64 s, .int .i64 t, .int .i64 k, .int .i64 z, .int .i64 p, .int .i64 l, .int .i64 e, .bool b, .int .i64 v, .int .i64 r] 39)).alloc (.cells #[.int .i64 xn, .bool xop, .slice a2 l2 c2, .slice a3 l3 c3, .slice a4 l4 c4, .int .i64 xsfn, .slice a6 l6 c6, .slice a7 l7 c7] 36)).alloc (.cells #[.int .i64 0, .bool false, .slice none 0 0, .slice none 0 0, .slice none 0 0, .int .i64 0, .slice none 0 0, .slice none 0 0] 36)).heap[w.heap.size + 1]? = some (.cells #[.int .i64 xn, .bool xop, .slice a2 l2 c2, .slice a3 l3 c3, .slice a4 l4 c4, .int .i64 xsfn, .slice a6 l6 c6, .slice a7 l7 c7] 36 (0, 0)) := ((bel_one _ _).block _ (by simp)).trans (blk_new (by simp))
  have hY0 : (((w.alloc (.cells #[.int .i64 s, .int .i64 t, .int .i64 k, .int .i64 z, .int .i64 p, .int .i64 l, .int .i64 e, .bool b, .int .i64 v, .int .i64 r] 39)).alloc (.cells #[.int .i64 xn, .bool xop, .slice a2 l2 c2, .slice a3 l3 c3, .slice a4 l4 c4, .int .i64 xsfn, .slice a6 l6 c6, .slice a7 l7 c7] 36)).alloc (.cells #[.int .i64 0, .bool false, .slice none 0 0, .slice none 0 0, .slice none 0 0, .int .i64 0, .slice none 0 0, .slice none 0 0] 36)).heap[w.heap.size + 2]? = some (.cells #[.int .i64 0, .bool false, .slice none 0 0, .slice none 0 0, .slice none 0 0, .int .i64 0, .slice none 0 0, .slice none 0 0] 36 (0, 0)) := blk_new (by simp)
  rw [hok]
  have hjob : ok = true → (1 ≤ s ∧ s ≤ 3) ∧ (1 ≤ t ∧ t ≤ 2) := fun e9 => okCk_job (hok.trans e9)
  have HOK := hide hok
  clear hok
  go_enter Tryz.func14, Tryz.ntmps14
  go_wp2_with fail
  refine (implckpok_any s t k z p l e b v r ⟨xn, xop, xsrc, xtsk, xsn, xsfn, xat, xssn⟩ a2 l2 c2 a3 l3 c3 a4 l4 c4 a6 l6 c6 a7 l7 c7 B _ h0).mono ?_
  rw [unhide HOK]
  rintro e' w1 ⟨rfl, hb1⟩
  clear HOK
  have z1 : w.heap.size + 2 < w1.heap.size := by have h9 := hb1.size; simp at h9; omega
  have z1a : w.heap.size + 1 < w1.heap.size := by omega
  have hJ1 := (hb1.block w.heap.size (by simp; omega)).trans hJ0
  have hX1 := (hb1.block (w.heap.size + 1) (by simp)).trans hX0
  have hY1 := (hb1.block (w.heap.size + 2) (by simp)).trans hY0
  have hbA : Below w.heap.size w w1 := bel_trans hbz hb1
  clear hJ0 hX0 hY0
  cases ok with
  | false =>
    clear hjob hJ1 hX1
    have z1b : w.heap.size + 1 + 1 < w1.heap.size := by omega
    have y0 : w1.cell? ⟨w.heap.size + 1 + 1, 0, none⟩ = some (.int .i64 0) := by simp [World.cell?, hY1, go_sem]
    have yf0 : w1.frozen? ⟨w.heap.size + 1 + 1, 0, none⟩ = false := by simp [World.frozen?, hY1, go_sem]
    have y1 : w1.cell? ⟨w.heap.size + 1 + 1, 1, none⟩ = some (.bool false) := by simp [World.cell?, hY1, go_sem]
    have yf1 : w1.frozen? ⟨w.heap.size + 1 + 1, 1, none⟩ = false := by simp [World.frozen?, hY1, go_sem]
    have y2 : w1.cell? ⟨w.heap.size + 1 + 1, 2, none⟩ = some (.slice none 0 0) := by simp [World.cell?, hY1, go_sem]
    have yf2 : w1.frozen? ⟨w.heap.size + 1 + 1, 2, none⟩ = false := by simp [World.frozen?, hY1, go_sem]
    have y3 : w1.cell? ⟨w.heap.size + 1 + 1, 3, none⟩ = some (.slice none 0 0) := by simp [World.cell?, hY1, go_sem]
    have yf3 : w1.frozen? ⟨w.heap.size + 1 + 1, 3, none⟩ = false := by simp [World.frozen?, hY1, go_sem]
    have y4 : w1.cell? ⟨w.heap.size + 1 + 1, 4, none⟩ = some (.slice none 0 0) := by simp [World.cell?, hY1, go_sem]
    have yf4 : w1.frozen? ⟨w.heap.size + 1 + 1, 4, none⟩ = false := by simp [World.frozen?, hY1, go_sem]
    have y5 : w1.cell? ⟨w.heap.size + 1 + 1, 5, none⟩ = some (.int .i64 0) := by simp [World.cell?, hY1, go_sem]
    have yf5 : w1.frozen? ⟨w.heap.size + 1 + 1, 5, none⟩ = false := by simp [World.frozen?, hY1, go_sem]
    have y6 : w1.cell? ⟨w.heap.size + 1 + 1, 6, none⟩ = some (.slice none 0 0) := by simp [World.cell?, hY1, go_sem]
    have yf6 : w1.frozen? ⟨w.heap.size + 1 + 1, 6, none⟩ = false := by simp [World.frozen?, hY1, go_sem]
    have y7 : w1.cell? ⟨w.heap.size + 1 + 1, 7, none⟩ = some (.slice none 0 0) := by simp [World.cell?, hY1, go_sem]
    have yf7 : w1.frozen? ⟨w.heap.size + 1 + 1, 7, none⟩ = false := by simp [World.frozen?, hY1, go_sem]
    clear hY1
    go_wp2
    refine bodyPost_ret (v := .agg #[.int .i64 0, .bool false, .slice none 0 0, .slice none 0 0, .slice none 0 0, .int .i64 0, .slice none 0 0, .slice none 0 0]) (by simp (maxDischargeDepth := 9) [results, Tryz.results14, go_sem, *]) rfl ?_
    have hz : dropD false s t ⟨xn, xop, xsrc, xtsk, xsn, xsfn, xat, xssn⟩ = ckZero := rfl
    rw [hz]
    refine zero_newk ?_
    repeat (first | (with_reducible exact hbA) | (with_reducible refine bel_set ?_ (by simp <;> omega) _))
  | true =>
    obtain ⟨⟨s1, s2⟩, t1, t2⟩ := hjob rfl
    clear hjob
    obtain ⟨sN, rfl⟩ : ∃ n : Nat, s = n := ⟨s.toNat, by omega⟩
    obtain ⟨tN, rfl⟩ : ∃ n : Nat, t = n := ⟨t.toNat, by omega⟩
    have hDr : dropD true sN tN ⟨xn, xop, xsrc, xtsk, xsn, xsfn, xat, xssn⟩ = restD sN tN ⟨xn, xop, xsrc, xtsk, xsn, xsfn, xat, xssn⟩ := by simp [dropD]
    have h1 := (h0.below hb1).below (bel_drew (Below.refl _ _))
    clear h h0 hbz hb1
    go_wp2_with fail
    refine wp_region_held_drew (S := (fun W => W.heap[w.heap.size]? = some (.cells #[.int .i64 sN, .int .i64 tN, .int .i64 k, .int .i64 z, .int .i64 p, .int .i64 l, .int .i64 e, .bool b, .int .i64 v, .int .i64 r] 39 (0, 0)) ∧ W.heap[w.heap.size + 1]? = some (.cells #[.int .i64 xn, .bool xop, .slice a2 l2 c2, .slice a3 l3 c3, .slice a4 l4 c4, .int .i64 xsfn, .slice a6 l6 c6, .slice a7 l7 c7] 36 (0, 0)))) (by kernel_rfl) ?_ (fun hHeld => ?_)
    · (try dsimp only); exact ⟨hJ1, hX1⟩
    refine wpAnyH_take (i := 0) (v := ?_) (by simp only [gA, gZ, gS]; rfl) (by kernel_rfl) (by kernel_rfl) (by kernel_rfl) (by intro _ _ _ h; exact h) (Or.inl ⟨by rfl, ?_⟩) (by assumption) ?_
    rotate_left
    · (intro w9 hSw; (try dsimp only at hSw); obtain ⟨q1, q2⟩ := hSw; have cx0 : w9.cell? ⟨w.heap.size + 1, 0, none⟩ = some (.int .i64 xn) := (by simp [World.cell?, q2, go_sem]); have cx1 : w9.cell? ⟨w.heap.size + 1, 1, none⟩ = some (.bool xop) := (by simp [World.cell?, q2, go_sem]); have cx2 : w9.cell? ⟨w.heap.size + 1, 2, none⟩ = some (.slice a2 l2 c2) := (by simp [World.cell?, q2, go_sem]); have cx3 : w9.cell? ⟨w.heap.size + 1, 3, none⟩ = some (.slice a3 l3 c3) := (by simp [World.cell?, q2, go_sem]); have cx4 : w9.cell? ⟨w.heap.size + 1, 4, none⟩ = some (.slice a4 l4 c4) := (by simp [World.cell?, q2, go_sem]); have cx5 : w9.cell? ⟨w.heap.size + 1, 5, none⟩ = some (.int .i64 xsfn) := (by simp [World.cell?, q2, go_sem]); have cx6 : w9.cell? ⟨w.heap.size + 1, 6, none⟩ = some (.slice a6 l6 c6) := (by simp [World.cell?, q2, go_sem]); have cx7 : w9.cell? ⟨w.heap.size + 1, 7, none⟩ = some (.slice a7 l7 c7) := (by simp [World.cell?, q2, go_sem]); go_simp <;> with_reducible rfl)
    try simp only [Act.put, tA, tZ, tS]
    refine wpAnyH_take (i := 2) (v := ?_) (by simp only [gA, gZ, gS]; rfl) (by kernel_rfl) (by kernel_rfl) (by kernel_rfl) (by intro _ _ _ h; exact h) (Or.inl ⟨by rfl, ?_⟩) (by assumption) ?_
    rotate_left
    · (intro w9 hSw; (try dsimp only at hSw); obtain ⟨q1, q2⟩ := hSw; have cj0 : w9.cell? ⟨w.heap.size, 0, none⟩ = some (.int .i64 sN) := (by simp [World.cell?, q1, go_sem]); have cj1 : w9.cell? ⟨w.heap.size, 1, none⟩ = some (.int .i64 tN) := (by simp [World.cell?, q1, go_sem]); have cj2 : w9.cell? ⟨w.heap.size, 2, none⟩ = some (.int .i64 k) := (by simp [World.cell?, q1, go_sem]); have cj3 : w9.cell? ⟨w.heap.size, 3, none⟩ = some (.int .i64 z) := (by simp [World.cell?, q1, go_sem]); have cj4 : w9.cell? ⟨w.heap.size, 4, none⟩ = some (.int .i64 p) := (by simp [World.cell?, q1, go_sem]); have cj5 : w9.cell? ⟨w.heap.size, 5, none⟩ = some (.int .i64 l) := (by simp [World.cell?, q1, go_sem]); have cj6 : w9.cell? ⟨w.heap.size, 6, none⟩ = some (.int .i64 e) := (by simp [World.cell?, q1, go_sem]); have cj7 : w9.cell? ⟨w.heap.size, 7, none⟩ = some (.bool b) := (by simp [World.cell?, q1, go_sem]); have cj8 : w9.cell? ⟨w.heap.size, 8, none⟩ = some (.int .i64 v) := (by simp [World.cell?, q1, go_sem]); have cj9 : w9.cell? ⟨w.heap.size, 9, none⟩ = some (.int .i64 r) := (by simp [World.cell?, q1, go_sem]); go_simp <;> with_reducible rfl)
    try simp only [Act.put, tA, tZ, tS]
    refine wpAnyH_ready (rs := [1]) (by kernel_rfl) (by simp) ?_
    refine AllReadyH.cons (by simp only [gA, gZ, gS]; rfl) (fun K hK => ?_) AllReadyH.nil
    go_simp
    (go_at_call 29; refine ((implcopied_any xn xop a2 l2 c2 a3 l3 c3 a4 l4 c4 xsfn a6 l6 c6 a7 l7 c7 B xsrc xtsk xsn xat xssn _ h1.src.1 h1.tsk.1 h1.sn h1.at_.1 h1.ssn n2 n3 n4 n6 n7 hL.2.2.1.2 hL.2.2.2.2.2).mono (fun e' w' h9 => h9.dis)).mono ?_; rintro e' w2 ⟨v2, v3, v4, v6, v7, s4, s7, rfl, hD, hb2⟩)
    (try go_wp2_with fail)
    obtain ⟨p2, q2, rfl⟩ := sliceC hD.o2
    obtain ⟨p3, q3, rfl⟩ := sliceC hD.o3
    obtain ⟨p4, q4, rfl⟩ := sliceC hD.o4
    obtain ⟨p6, q6, rfl⟩ := sliceC hD.o6
    obtain ⟨p7, q7, rfl⟩ := sliceC hD.o7
    have z2 : w1.heap.size ≤ w2.heap.size := by have h9 := hb2.size; simpa using h9
    have hJ2 := (hb2.block w.heap.size (sC)).trans hJ1
    have hX2 := (hb2.block (w.heap.size + 1) (sC)).trans hX1
    have hY2 := (hb2.block (w.heap.size + 2) (sC)).trans hY1
    have hbB : Below w.heap.size w w2 := bel_trans (bel_drew hbA) hb2
    have HD := hide hD
    clear hD hb2
    refine hK.out _ _ ?_ (fun hHeld2 => ?_)
    · (try dsimp only); exact ⟨hJ2, hX2⟩
    clear hK K hHeld
    have hHeld := hHeld2
    clear hHeld2
    try simp only [Act.put, tA, tZ, tS]
    refine wpAnyH_ready (rs := [3]) (by kernel_rfl) (by simp) ?_
    refine AllReadyH.cons (by simp only [gA, gZ, gS]; rfl) (fun K hK => ?_) AllReadyH.nil
    go_simp
    (go_at_call 31; refine (restG_any sN tN k z p l e b v r xn xop p2 xsrc.length q2 p3 xtsk.length q3 p4 s4.length q4 xsfn p6 xat.length q6 p7 s7.length q7 _ ⟨by omega, by omega⟩ ⟨by omega, by omega⟩).mono ?_; rintro e' w3 ⟨u2, u3, u4, rfl, o2, o3, o4, hb3⟩)
    (try go_wp2_with fail)
    obtain ⟨m2, n2, rfl⟩ := sliceC o2
    obtain ⟨m3, n3, rfl⟩ := sliceC o3
    obtain ⟨m4, n4, rfl⟩ := sliceC o4
    have z3 : w2.heap.size ≤ w3.heap.size := hb3.size
    have z3a : w.heap.size + 1 + 1 < w3.heap.size := by omega
    have hJ3 := (hb3.block w.heap.size (by omega)).trans hJ2
    have hX3 := (hb3.block (w.heap.size + 1) (by omega)).trans hX2
    have hY3 := (hb3.block (w.heap.size + 2) (by omega)).trans hY2
    have hbC : Below w.heap.size w w3 := bel_trans hbB hb3
    have HR := hide ((unhide HD).rest hb3 (Nat.le_refl _) (sC) o2 o3 o4)
    clear HD o2 o3 o4 hb3 hJ2 hX2 hY2
    refine hK.out _ _ ?_ (fun hHeld2 => ?_)
    · (try dsimp only); exact ⟨hJ3, hX3⟩
    clear hK K hHeld
    have hHeld := hHeld2
    clear hHeld2
    try simp only [Act.put, tA, tZ, tS]
    have y0 : w3.cell? ⟨w.heap.size + 1 + 1, 0, none⟩ = some (.int .i64 0) := by simp [World.cell?, hY3, go_sem]
    have yf0 : w3.frozen? ⟨w.heap.size + 1 + 1, 0, none⟩ = false := by simp [World.frozen?, hY3, go_sem]
    have y1 : w3.cell? ⟨w.heap.size + 1 + 1, 1, none⟩ = some (.bool false) := by simp [World.cell?, hY3, go_sem]
    have yf1 : w3.frozen? ⟨w.heap.size + 1 + 1, 1, none⟩ = false := by simp [World.frozen?, hY3, go_sem]
    have y2 : w3.cell? ⟨w.heap.size + 1 + 1, 2, none⟩ = some (.slice none 0 0) := by simp [World.cell?, hY3, go_sem]
    have yf2 : w3.frozen? ⟨w.heap.size + 1 + 1, 2, none⟩ = false := by simp [World.frozen?, hY3, go_sem]
    have y3 : w3.cell? ⟨w.heap.size + 1 + 1, 3, none⟩ = some (.slice none 0 0) := by simp [World.cell?, hY3, go_sem]
    have yf3 : w3.frozen? ⟨w.heap.size + 1 + 1, 3, none⟩ = false := by simp [World.frozen?, hY3, go_sem]
    have y4 : w3.cell? ⟨w.heap.size + 1 + 1, 4, none⟩ = some (.slice none 0 0) := by simp [World.cell?, hY3, go_sem]
    have yf4 : w3.frozen? ⟨w.heap.size + 1 + 1, 4, none⟩ = false := by simp [World.frozen?, hY3, go_sem]
    have y5 : w3.cell? ⟨w.heap.size + 1 + 1, 5, none⟩ = some (.int .i64 0) := by simp [World.cell?, hY3, go_sem]
    have yf5 : w3.frozen? ⟨w.heap.size + 1 + 1, 5, none⟩ = false := by simp [World.frozen?, hY3, go_sem]
    have y6 : w3.cell? ⟨w.heap.size + 1 + 1, 6, none⟩ = some (.slice none 0 0) := by simp [World.cell?, hY3, go_sem]
    have yf6 : w3.frozen? ⟨w.heap.size + 1 + 1, 6, none⟩ = false := by simp [World.frozen?, hY3, go_sem]
    have y7 : w3.cell? ⟨w.heap.size + 1 + 1, 7, none⟩ = some (.slice none 0 0) := by simp [World.cell?, hY3, go_sem]
    have yf7 : w3.frozen? ⟨w.heap.size + 1 + 1, 7, none⟩ = false := by simp [World.frozen?, hY3, go_sem]
    clear hY3
    refine wpAnyH_ready (rs := [4]) (by kernel_rfl) (by simp) ?_
    refine AllReadyH.cons (by simp only [gA, gZ, gS]; rfl) (fun K hK => ?_) AllReadyH.nil
    go_simp
    refine hK.out _ _ ?_ (fun hHeld2 => ?_)
    · (try dsimp only); exact ⟨(by repeat (first | (with_reducible exact hJ3) | (with_reducible exact hX3) | (with_reducible refine (Below.heap_setCell _ _ _ _ (sC)).trans ?_))), (by repeat (first | (with_reducible exact hJ3) | (with_reducible exact hX3) | (with_reducible refine (Below.heap_setCell _ _ _ _ (sC)).trans ?_)))⟩
    clear hK K hHeld
    have hHeld := hHeld2
    clear hHeld2
    try simp only [Act.put, tA, tZ, tS]
    refine wpAnyH_done (by kernel_rfl) ?_ _
    go_wp2
    have fin : ∀ F : World, (∀ c, w1.heap.size ≤ c → c < w3.heap.size → F.heap[c]? = w3.heap[c]?) → Below w.heap.size w F → NewK w (restD sN tN ⟨xn, xop, xsrc, xtsk, xsn, xsfn, xat, xssn⟩) (.returned (.agg #[.int .i64 xn, .bool false, .slice m2 sN n2, .slice m3 tN n3, .slice m4 tN n4, .int .i64 xsfn, .slice p6 xat.length q6, .slice p7 s7.length q7])) F := by
      intro F hk hbF
      exact CkDis.newk (D := restD sN tN ⟨xn, xop, xsrc, xtsk, xsn, xsfn, xat, xssn⟩) (((unhide HR).keepB (fun c h1 h2 => hk c (by simpa using h1) h2)).base (sC)) (ckLim_rest hL (by omega) (by omega)) hbF
    refine bodyPost_ret (v := .agg #[.int .i64 xn, .bool false, .slice m2 sN n2, .slice m3 tN n3, .slice m4 tN n4, .int .i64 xsfn, .slice p6 xat.length q6, .slice p7 s7.length q7]) (by simp (maxDischargeDepth := 9) [results, Tryz.results14, go_sem, *]) rfl ?_
    rw [hDr]
    refine fin _ ?_ ?_
    · intro c hc1 hc2
      repeat (first | (with_reducible rfl) | (with_reducible refine (Below.heap_setCell _ _ _ _ (by simp; omega)).trans ?_) | (with_reducible refine (Below.heap_alloc _ _ _ (by simp; omega)).trans ?_))
    · repeat (first | (with_reducible exact hbC) | (with_reducible refine bel_set ?_ (by simp <;> omega) _) | (with_reducible refine bel_alloc ?_ _) | (with_reducible refine bel_drew ?_))
end Go.Proofs.YtbjhpiannjepkaaGreat
