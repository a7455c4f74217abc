/- Laid together: what the claim needs of the texts that were built one by one. -/
import Derived.Test.YtabphkmhafflbaaPkCkpH
import Derived.Test.YtabphkmhafflbaaPkCkpRd
import Derived.Test.YtabphkmhafflbaaPkBase
namespace Go.Proofs.Ytabphkmhafflbaa
open Go.ChangeShapes Go.WideShapes Go.ChangeAt Go.RowKit Go.Deep
set_option linter.unusedVariables false

/-- What checkpoints are behind a saving, and whether it went well. -/
def sfD (x : CkD) : CkD := { x with sfn := x.n, at_ := x.src, ssn := x.sn }

def saveD (ok : Bool) (s t : Int) (x : CkD) : CkD × Bool := if ok then (if rdyB x then (restD s.toNat t.toNat (sfD x), true) else (x, false)) else (ckZero, false)

def NewKB (w : World) (D : CkD × Bool) (e : Ending) (w' : World) : Prop := ∃ ev, e = .returned (.tuple #[ev, .bool D.2]) ∧ NewK w D.1 (.returned ev) w'

theorem CkDis.saved {W W' : World} {B B' s t : Nat} {src : List Int} {tsk : List Bool} {sn : List SnD} {at_ : List Int} {ssn : List SnD} {v2 v3 v4 v6 v7 u2 u3 u4 : Value} {l4 l7 : List (Int × SnV)} (h : CkDis W B src tsk sn at_ ssn v2 v3 v4 v6 v7 l4 l7) (hb : Below W.heap.size W W') (hB : W.heap.size ≤ B') (hBB : B ≤ B') (o2 : W'.ownsRow B' 3 1 u2 s (List.replicate s (.int .i64 (-1)))) (o3 : W'.ownsRow B' 4 1 u3 t (List.replicate t (.bool false))) (o4 : W'.ownsRow B' 48 3 u4 t (flatSV (List.replicate t noSn))) : CkDis W' B (List.replicate s (-1)) (List.replicate t false) (List.replicate t ⟨0, [], []⟩) src sn u2 u3 u4 v2 v4 (List.replicate t noSn) l4 := by
  refine ⟨?_, ?_, ?_, copS_rep _ _ _, own_bel h.o2 hb, own_bel h.o4 hb, h.k4.below hb, ?_, ?_, ?_, ?_, ?_⟩
  · rw [List.length_replicate, ← rep_map]; exact World.ownsRow.mono o2 hBB
  · rw [List.length_replicate, ← rep_mapB]; exact World.ownsRow.mono o3 hBB
  · unfold OwnSn; rw [List.length_replicate]; exact World.ownsRow.mono o4 hBB
  · intro b x y
    have h1 := (World.ownsRow.lt o2 b x).1
    have h2 := (World.ownsRow.lt h.o2 b y).2
    omega
  · intro b x y
    have h1 := (World.ownsRow.lt o4 b x).1
    have h2 := (World.ownsRow.lt h.o4 b y).2
    omega
  · intro i p hp b hb9
    rcases hp with hp | hp
    · obtain rfl := get_rep hp; cases hb9
    · refine ⟨fun x => ?_, (h.dm i p (Or.inl hp) b hb9).1⟩
      have h1 := (World.ownsRow.lt o2 b x).1
      have h2 := (h.k4.rngs i p hp b (Or.inr hb9)).2
      omega
  · intro i j p q hp hq b x
    obtain rfl := get_rep hp; cases x
  · intro i j p q hp hq b x
    obtain rfl := get_rep hp; cases x

theorem CkDis.is {W : World} {B : Nat} {D : CkD} {p2 p3 p4 p6 p7 : Option Addr} {q2 q3 q4 q6 q7 m4 m7 : Nat} {l4 l7 : List (Int × SnV)} (h : CkDis W B D.src D.tsk D.sn D.at_ D.ssn (.slice p2 D.src.length q2) (.slice p3 D.tsk.length q3) (.slice p4 m4 q4) (.slice p6 D.at_.length q6) (.slice p7 m7 q7) l4 l7) (hL : CkLim D) : CkIs W B p2 D.src.length p3 D.tsk.length p4 m4 p6 D.at_.length p7 m7 D := by
  obtain ⟨L2, L3, ⟨L4, M4⟩, L6, ⟨L7, M7⟩⟩ := hL
  obtain ⟨a2, c2, e2, i2, _, _⟩ := ownIn_of h.o2 rfl L2
  obtain ⟨a3, c3, e3, i3, _, _⟩ := ownBo_of h.o3 rfl L3
  obtain ⟨a4, c4, e4, i4, _, _⟩ := copS_wr h.o4 h.k4 L4 M4
  obtain ⟨a6, c6, e6, i6, _, _⟩ := ownIn_of h.o6 rfl L6
  obtain ⟨a7, c7, e7, i7, _, _⟩ := copS_wr h.o7 h.k7 L7 M7
  simp only [Value.slice.injEq] at e2 e3 e4 e6 e7
  obtain ⟨rfl, _, _⟩ := e2
  obtain ⟨rfl, _, _⟩ := e3
  obtain ⟨rfl, rfl, _⟩ := e4
  obtain ⟨rfl, _, _⟩ := e6
  obtain ⟨rfl, rfl, _⟩ := e7
  exact ⟨i2, i3, i4, i6, i7⟩

theorem ckLim_sf {x : CkD} (h : CkLim x) : CkLim (sfD x) := ⟨h.1, h.2.1, h.2.2.1, h.1, h.2.2.1⟩

theorem okCk_lens {s t k z p l e v r : Int} {x : CkD} (h : okCk s t k z p l e v r x = true) : (x.src.length : Int) = s ∧ (x.tsk.length : Int) = t := ⟨(okCk_and h).1, (okCk_and h).2.1⟩

set_option linter.unusedSimpArgs false in
set_option maxRecDepth 20000 in
set_option maxHeartbeats 4000000 in
theorem implsave_any (s t k z p l e : Int) (b : Bool) (v r : Int) (x : CkD) (a2 : Option Addr) (l2 c2 : Nat) (a3 : Option Addr) (l3 c3 : Nat) (a4 : Option Addr) (l4 c4 : Nat) (a6 : Option Addr) (l6 c6 : Nat) (a7 : Option Addr) (l7 c7 : Nat) (B : Nat) (w : World) (h : CkIs w B a2 l2 a3 l3 a4 l4 a6 l6 a7 l7 x) (hL : CkLim x) : Calls Try.prog 11 #[.agg #[.int .i64 s, .int .i64 t, .int .i64 k, .int .i64 z, .int .i64 p, .int .i64 l, .int .i64 e, .bool b, .int .i64 v, .int .i64 r], .agg #[.int .i64 x.n, .bool x.op, .slice a2 l2 c2, .slice a3 l3 c3, .slice a4 l4 c4, .int .i64 x.sfn, .slice a6 l6 c6, .slice a7 l7 c7]] w fun e' w' => NewKB w (saveD (okCk s t k z p l e v r x) s t x) e' w' := by
  obtain ⟨xn, xop, xsrc, xtsk, xsn, xsfn, xat, xssn⟩ := x
  obtain ⟨ok, hok⟩ : ∃ ok, okCk s t k z p l e v r ⟨xn, xop, xsrc, xtsk, xsn, xsfn, xat, xssn⟩ = ok := ⟨_, rfl⟩
  have hlens : l2 ≤ 1048576 ∧ l3 ≤ 1048576 ∧ l4 ≤ 1048576 ∧ l6 ≤ 1048576 ∧ l7 ≤ 1048576 := by
    have q2 := h.src.1.1
    have q3 := h.tsk.1.1
    have q4 := h.sn.1
    have q6 := h.at_.1.1
    have q7 := h.ssn.1
    obtain ⟨r2, r3, ⟨r4, _⟩, r6, ⟨r7, _⟩⟩ := hL
    simp only at *
    omega
  obtain ⟨n2, n3, n4, n6, n7⟩ := hlens
  have hbz : Below w.heap.size w (((w.alloc (.cells #[.int .i64 s, .int .i64 t, .int .i64 k, .int .i64 z, .int .i64 p, .int .i64 l, .int .i64 e, .bool b, .int .i64 v, .int .i64 r] 24)).alloc (.cells #[.int .i64 xn, .bool xop, .slice a2 l2 c2, .slice a3 l3 c3, .slice a4 l4 c4, .int .i64 xsfn, .slice a6 l6 c6, .slice a7 l7 c7] 32)).alloc (.cells #[.int .i64 0, .bool false, .slice none 0 0, .slice none 0 0, .slice none 0 0, .int .i64 0, .slice none 0 0, .slice none 0 0] 32)) := bel_alloc (bel_alloc (bel_one _ _) _) _
  have h0 := h.below hbz
  have hJ0 : (((w.alloc (.cells #[.int .i64 s, .int .i64 t, .int .i64 k, .int .i64 z, .int .i64 p, .int .i64 l, .int .i64 e, .bool b, .int .i64 v, .int .i64 r] 24)).alloc (.cells #[.int .i64 xn, .bool xop, .slice a2 l2 c2, .slice a3 l3 c3, .slice a4 l4 c4, .int .i64 xsfn, .slice a6 l6 c6, .slice a7 l7 c7] 32)).alloc (.cells #[.int .i64 0, .bool false, .slice none 0 0, .slice none 0 0, .slice none 0 0, .int .i64 0, .slice none 0 0, .slice none 0 0] 32)).heap[w.heap.size]? = some (.cells #[.int .i64 s, .int .i64 t, .int .i64 k, .int .i64 z, .int .i64 p, .int .i64 l, .int .i64 e, .bool b, .int .i64 v, .int .i64 r] 24 (0, 0)) := ((bel_one _ _).block _ (by simp <;> omega)).trans (((bel_one _ _).block _ (by simp <;> omega)).trans (blk_new rfl))
  have hX0 : (((w.alloc (.cells #[.int .i64 s, .int .i64 t, .int .i64 k, .int .i64 z, .int .i64 p, .int .i64 l, .int .i64 e, .bool b, .int .i64 v, .int .i64 r] 24)).alloc (.cells #[.int .i64 xn, .bool xop, .slice a2 l2 c2, .slice a3 l3 c3, .slice a4 l4 c4, .int .i64 xsfn, .slice a6 l6 c6, .slice a7 l7 c7] 32)).alloc (.cells #[.int .i64 0, .bool false, .slice none 0 0, .slice none 0 0, .slice none 0 0, .int .i64 0, .slice none 0 0, .slice none 0 0] 32)).heap[w.heap.size + 1]? = some (.cells #[.int .i64 xn, .bool xop, .slice a2 l2 c2, .slice a3 l3 c3, .slice a4 l4 c4, .int .i64 xsfn, .slice a6 l6 c6, .slice a7 l7 c7] 32 (0, 0)) := ((bel_one _ _).block _ (by simp)).trans (blk_new (by simp))
  have hY0 : (((w.alloc (.cells #[.int .i64 s, .int .i64 t, .int .i64 k, .int .i64 z, .int .i64 p, .int .i64 l, .int .i64 e, .bool b, .int .i64 v, .int .i64 r] 24)).alloc (.cells #[.int .i64 xn, .bool xop, .slice a2 l2 c2, .slice a3 l3 c3, .slice a4 l4 c4, .int .i64 xsfn, .slice a6 l6 c6, .slice a7 l7 c7] 32)).alloc (.cells #[.int .i64 0, .bool false, .slice none 0 0, .slice none 0 0, .slice none 0 0, .int .i64 0, .slice none 0 0, .slice none 0 0] 32)).heap[w.heap.size + 2]? = some (.cells #[.int .i64 0, .bool false, .slice none 0 0, .slice none 0 0, .slice none 0 0, .int .i64 0, .slice none 0 0, .slice none 0 0] 32 (0, 0)) := blk_new (by simp)
  rw [hok]
  have hjob : ok = true → (1 ≤ s ∧ s ≤ 3) ∧ (1 ≤ t ∧ t ≤ 2) := fun e9 => okCk_job (hok.trans e9)
  have hlen : ok = true → (xsrc.length : Int) = s ∧ (xtsk.length : Int) = t := fun e9 => okCk_lens (hok.trans e9)
  have HRD : Hid (ok = true → (xop && ((xsrc.map hasT).all id && xtsk.all id)) = rdyB ⟨xn, xop, xsrc, xtsk, xsn, xsfn, xat, xssn⟩) := hide (fun e9 => rdy_eq (hok.trans e9))
  have HOK := hide hok
  clear hok
  go_enter Try.func11, Try.ntmps11
  go_wp2_with fail
  refine (implckpok_any s t k z p l e b v r ⟨xn, xop, xsrc, xtsk, xsn, xsfn, xat, xssn⟩ a2 l2 c2 a3 l3 c3 a4 l4 c4 a6 l6 c6 a7 l7 c7 B _ h0).mono ?_
  rw [unhide HOK]
  rintro e' w1 ⟨rfl, hb1⟩
  clear HOK
  have z1 : w.heap.size + 2 < w1.heap.size := by have h9 := hb1.size; simp at h9; omega
  have z1a : w.heap.size + 1 < w1.heap.size := by omega
  have hJ1 := (hb1.block w.heap.size (by simp; omega)).trans hJ0
  have hX1 := (hb1.block (w.heap.size + 1) (by simp)).trans hX0
  have hY1 := (hb1.block (w.heap.size + 2) (by simp)).trans hY0
  have hbA : Below w.heap.size w w1 := bel_trans hbz hb1
  clear hJ0 hX0 hY0
  cases ok with
  | false =>
    clear hjob hlen HRD hJ1 hX1
    have z1b : w.heap.size + 1 + 1 < w1.heap.size := by omega
    have y0 : w1.cell? ⟨w.heap.size + 1 + 1, 0, none⟩ = some (.int .i64 0) := by simp [World.cell?, hY1, go_sem]
    have yf0 : w1.frozen? ⟨w.heap.size + 1 + 1, 0, none⟩ = false := by simp [World.frozen?, hY1, go_sem]
    have y1 : w1.cell? ⟨w.heap.size + 1 + 1, 1, none⟩ = some (.bool false) := by simp [World.cell?, hY1, go_sem]
    have yf1 : w1.frozen? ⟨w.heap.size + 1 + 1, 1, none⟩ = false := by simp [World.frozen?, hY1, go_sem]
    have y2 : w1.cell? ⟨w.heap.size + 1 + 1, 2, none⟩ = some (.slice none 0 0) := by simp [World.cell?, hY1, go_sem]
    have yf2 : w1.frozen? ⟨w.heap.size + 1 + 1, 2, none⟩ = false := by simp [World.frozen?, hY1, go_sem]
    have y3 : w1.cell? ⟨w.heap.size + 1 + 1, 3, none⟩ = some (.slice none 0 0) := by simp [World.cell?, hY1, go_sem]
    have yf3 : w1.frozen? ⟨w.heap.size + 1 + 1, 3, none⟩ = false := by simp [World.frozen?, hY1, go_sem]
    have y4 : w1.cell? ⟨w.heap.size + 1 + 1, 4, none⟩ = some (.slice none 0 0) := by simp [World.cell?, hY1, go_sem]
    have yf4 : w1.frozen? ⟨w.heap.size + 1 + 1, 4, none⟩ = false := by simp [World.frozen?, hY1, go_sem]
    have y5 : w1.cell? ⟨w.heap.size + 1 + 1, 5, none⟩ = some (.int .i64 0) := by simp [World.cell?, hY1, go_sem]
    have yf5 : w1.frozen? ⟨w.heap.size + 1 + 1, 5, none⟩ = false := by simp [World.frozen?, hY1, go_sem]
    have y6 : w1.cell? ⟨w.heap.size + 1 + 1, 6, none⟩ = some (.slice none 0 0) := by simp [World.cell?, hY1, go_sem]
    have yf6 : w1.frozen? ⟨w.heap.size + 1 + 1, 6, none⟩ = false := by simp [World.frozen?, hY1, go_sem]
    have y7 : w1.cell? ⟨w.heap.size + 1 + 1, 7, none⟩ = some (.slice none 0 0) := by simp [World.cell?, hY1, go_sem]
    have yf7 : w1.frozen? ⟨w.heap.size + 1 + 1, 7, none⟩ = false := by simp [World.frozen?, hY1, go_sem]
    clear hY1
    go_wp2
    refine bodyPost_ret (v := .tuple #[.agg #[.int .i64 0, .bool false, .slice none 0 0, .slice none 0 0, .slice none 0 0, .int .i64 0, .slice none 0 0, .slice none 0 0], .bool false]) (by simp (maxDischargeDepth := 9) [results, Try.results11, go_sem, *]) rfl ?_
    have hz : saveD false s t ⟨xn, xop, xsrc, xtsk, xsn, xsfn, xat, xssn⟩ = (ckZero, false) := rfl
    rw [hz]
    refine ⟨_, rfl, zero_newk ?_⟩
    repeat (first | (with_reducible exact hbA) | (with_reducible refine bel_set ?_ (by simp <;> omega) _))
  | true =>
    obtain ⟨⟨s1, s2⟩, t1, t2⟩ := hjob rfl
    obtain ⟨rfl, rfl⟩ := hlen rfl
    have hRD := unhide HRD rfl
    clear hjob hlen HRD
    have h1 := h0.below hb1
    clear h h0 hbz hb1
    have cx0 : w1.cell? ⟨w.heap.size + 1, 0, none⟩ = some (.int .i64 xn) := by simp [World.cell?, hX1, go_sem]
    have cx1 : w1.cell? ⟨w.heap.size + 1, 1, none⟩ = some (.bool xop) := by simp [World.cell?, hX1, go_sem]
    have cx2 : w1.cell? ⟨w.heap.size + 1, 2, none⟩ = some (.slice a2 l2 c2) := by simp [World.cell?, hX1, go_sem]
    have cx3 : w1.cell? ⟨w.heap.size + 1, 3, none⟩ = some (.slice a3 l3 c3) := by simp [World.cell?, hX1, go_sem]
    have cx4 : w1.cell? ⟨w.heap.size + 1, 4, none⟩ = some (.slice a4 l4 c4) := by simp [World.cell?, hX1, go_sem]
    have cx5 : w1.cell? ⟨w.heap.size + 1, 5, none⟩ = some (.int .i64 xsfn) := by simp [World.cell?, hX1, go_sem]
    have cx6 : w1.cell? ⟨w.heap.size + 1, 6, none⟩ = some (.slice a6 l6 c6) := by simp [World.cell?, hX1, go_sem]
    have cx7 : w1.cell? ⟨w.heap.size + 1, 7, none⟩ = some (.slice a7 l7 c7) := by simp [World.cell?, hX1, go_sem]
    go_wp2_with fail
    refine ((implcopied_any xn xop a2 l2 c2 a3 l3 c3 a4 l4 c4 xsfn a6 l6 c6 a7 l7 c7 B xsrc xtsk xsn xat xssn _ h1.src.1 h1.tsk.1 h1.sn h1.at_.1 h1.ssn n2 n3 n4 n6 n7 hL.2.2.1.2 hL.2.2.2.2.2).mono (fun e' w' h9 => h9.dis)).mono ?_
    rintro e' w2 ⟨v2, v3, v4, v6, v7, s4, s7, rfl, hD, hb2⟩
    obtain ⟨p2, q2, rfl⟩ := sliceC hD.o2
    obtain ⟨p3, q3, rfl⟩ := sliceC hD.o3
    obtain ⟨p4, q4, rfl⟩ := sliceC hD.o4
    obtain ⟨p6, q6, rfl⟩ := sliceC hD.o6
    obtain ⟨p7, q7, rfl⟩ := sliceC hD.o7
    clear cx0 cx1 cx2 cx3 cx4 cx5 cx6 cx7
    have z2 : w1.heap.size ≤ w2.heap.size := hb2.size
    have hJ2 := (hb2.block w.heap.size (by omega)).trans hJ1
    have hY2 := (hb2.block (w.heap.size + 2) (by omega)).trans hY1
    have hbB : Below w.heap.size w w2 := bel_trans hbA hb2
    clear hb2 hJ1 hX1 hY1
    have hK3 : (w2.alloc (.cells #[.int .i64 xn, .bool xop, .slice p2 xsrc.length q2, .slice p3 xtsk.length q3, .slice p4 s4.length q4, .int .i64 xsfn, .slice p6 xat.length q6, .slice p7 s7.length q7] 32)).heap[w2.heap.size]? = some (.cells #[.int .i64 xn, .bool xop, .slice p2 xsrc.length q2, .slice p3 xtsk.length q3, .slice p4 s4.length q4, .int .i64 xsfn, .slice p6 xat.length q6, .slice p7 s7.length q7] 32 (0, 0)) := blk_new rfl
    have hJ3 : (w2.alloc (.cells #[.int .i64 xn, .bool xop, .slice p2 xsrc.length q2, .slice p3 xtsk.length q3, .slice p4 s4.length q4, .int .i64 xsfn, .slice p6 xat.length q6, .slice p7 s7.length q7] 32)).heap[w.heap.size]? = some (.cells #[.int .i64 xsrc.length, .int .i64 xtsk.length, .int .i64 k, .int .i64 z, .int .i64 p, .int .i64 l, .int .i64 e, .bool b, .int .i64 v, .int .i64 r] 24 (0, 0)) := ((bel_one w2 _).block _ (by omega)).trans hJ2
    have hY3 : (w2.alloc (.cells #[.int .i64 xn, .bool xop, .slice p2 xsrc.length q2, .slice p3 xtsk.length q3, .slice p4 s4.length q4, .int .i64 xsfn, .slice p6 xat.length q6, .slice p7 s7.length q7] 32)).heap[w.heap.size + 2]? = some (.cells #[.int .i64 0, .bool false, .slice none 0 0, .slice none 0 0, .slice none 0 0, .int .i64 0, .slice none 0 0, .slice none 0 0] 32 (0, 0)) := ((bel_one w2 _).block _ (by omega)).trans hY2
    have hD3 := hD.bel (bel_one w2 (.cells #[.int .i64 xn, .bool xop, .slice p2 xsrc.length q2, .slice p3 xtsk.length q3, .slice p4 s4.length q4, .int .i64 xsfn, .slice p6 xat.length q6, .slice p7 s7.length q7] 32))
    have hbC : Below w.heap.size w (w2.alloc (.cells #[.int .i64 xn, .bool xop, .slice p2 xsrc.length q2, .slice p3 xtsk.length q3, .slice p4 s4.length q4, .int .i64 xsfn, .slice p6 xat.length q6, .slice p7 s7.length q7] 32)) := bel_alloc hbB _
    have z3 : (w2.alloc (.cells #[.int .i64 xn, .bool xop, .slice p2 xsrc.length q2, .slice p3 xtsk.length q3, .slice p4 s4.length q4, .int .i64 xsfn, .slice p6 xat.length q6, .slice p7 s7.length q7] 32)).heap.size = w2.heap.size + 1 := by simp
    have hI3 := CkDis.is (D := ⟨xn, xop, xsrc, xtsk, xsn, xsfn, xat, xssn⟩) hD3 hL
    have hk3 : ∀ c, c < w2.heap.size → (w2.alloc (.cells #[.int .i64 xn, .bool xop, .slice p2 xsrc.length q2, .slice p3 xtsk.length q3, .slice p4 s4.length q4, .int .i64 xsfn, .slice p6 xat.length q6, .slice p7 s7.length q7] 32)).heap[c]? = w2.heap[c]? := fun c hc => (bel_one w2 _).block c hc
    have HD := hide hD
    clear hD hD3 hJ2 hY2 hbB
    have cj0 : (w2.alloc (.cells #[.int .i64 xn, .bool xop, .slice p2 xsrc.length q2, .slice p3 xtsk.length q3, .slice p4 s4.length q4, .int .i64 xsfn, .slice p6 xat.length q6, .slice p7 s7.length q7] 32)).cell? ⟨w.heap.size, 0, none⟩ = some (.int .i64 xsrc.length) := by simp [World.cell?, hJ3, go_sem]
    have cj1 : (w2.alloc (.cells #[.int .i64 xn, .bool xop, .slice p2 xsrc.length q2, .slice p3 xtsk.length q3, .slice p4 s4.length q4, .int .i64 xsfn, .slice p6 xat.length q6, .slice p7 s7.length q7] 32)).cell? ⟨w.heap.size, 1, none⟩ = some (.int .i64 xtsk.length) := by simp [World.cell?, hJ3, go_sem]
    have cj2 : (w2.alloc (.cells #[.int .i64 xn, .bool xop, .slice p2 xsrc.length q2, .slice p3 xtsk.length q3, .slice p4 s4.length q4, .int .i64 xsfn, .slice p6 xat.length q6, .slice p7 s7.length q7] 32)).cell? ⟨w.heap.size, 2, none⟩ = some (.int .i64 k) := by simp [World.cell?, hJ3, go_sem]
    have cj3 : (w2.alloc (.cells #[.int .i64 xn, .bool xop, .slice p2 xsrc.length q2, .slice p3 xtsk.length q3, .slice p4 s4.length q4, .int .i64 xsfn, .slice p6 xat.length q6, .slice p7 s7.length q7] 32)).cell? ⟨w.heap.size, 3, none⟩ = some (.int .i64 z) := by simp [World.cell?, hJ3, go_sem]
    have cj4 : (w2.alloc (.cells #[.int .i64 xn, .bool xop, .slice p2 xsrc.length q2, .slice p3 xtsk.length q3, .slice p4 s4.length q4, .int .i64 xsfn, .slice p6 xat.length q6, .slice p7 s7.length q7] 32)).cell? ⟨w.heap.size, 4, none⟩ = some (.int .i64 p) := by simp [World.cell?, hJ3, go_sem]
    have cj5 : (w2.alloc (.cells #[.int .i64 xn, .bool xop, .slice p2 xsrc.length q2, .slice p3 xtsk.length q3, .slice p4 s4.length q4, .int .i64 xsfn, .slice p6 xat.length q6, .slice p7 s7.length q7] 32)).cell? ⟨w.heap.size, 5, none⟩ = some (.int .i64 l) := by simp [World.cell?, hJ3, go_sem]
    have cj6 : (w2.alloc (.cells #[.int .i64 xn, .bool xop, .slice p2 xsrc.length q2, .slice p3 xtsk.length q3, .slice p4 s4.length q4, .int .i64 xsfn, .slice p6 xat.length q6, .slice p7 s7.length q7] 32)).cell? ⟨w.heap.size, 6, none⟩ = some (.int .i64 e) := by simp [World.cell?, hJ3, go_sem]
    have cj7 : (w2.alloc (.cells #[.int .i64 xn, .bool xop, .slice p2 xsrc.length q2, .slice p3 xtsk.length q3, .slice p4 s4.length q4, .int .i64 xsfn, .slice p6 xat.length q6, .slice p7 s7.length q7] 32)).cell? ⟨w.heap.size, 7, none⟩ = some (.bool b) := by simp [World.cell?, hJ3, go_sem]
    have cj8 : (w2.alloc (.cells #[.int .i64 xn, .bool xop, .slice p2 xsrc.length q2, .slice p3 xtsk.length q3, .slice p4 s4.length q4, .int .i64 xsfn, .slice p6 xat.length q6, .slice p7 s7.length q7] 32)).cell? ⟨w.heap.size, 8, none⟩ = some (.int .i64 v) := by simp [World.cell?, hJ3, go_sem]
    have cj9 : (w2.alloc (.cells #[.int .i64 xn, .bool xop, .slice p2 xsrc.length q2, .slice p3 xtsk.length q3, .slice p4 s4.length q4, .int .i64 xsfn, .slice p6 xat.length q6, .slice p7 s7.length q7] 32)).cell? ⟨w.heap.size, 9, none⟩ = some (.int .i64 r) := by simp [World.cell?, hJ3, go_sem]
    go_wp2_with fail
    clear cj0 cj1 cj2 cj3 cj4 cj5 cj6 cj7 cj8 cj9
    generalize (w2.alloc (.cells #[.int .i64 xn, .bool xop, .slice p2 xsrc.length q2, .slice p3 xtsk.length q3, .slice p4 s4.length q4, .int .i64 xsfn, .slice p6 xat.length q6, .slice p7 s7.length q7] 32)) = w3 at hK3 hJ3 hY3 hk3 hbC z3 hI3 ⊢
    refine (isready_any k z p l e b v r xn xop xsrc xtsk xsn xsfn xat xssn p2 xsrc.length q2 p3 xtsk.length q3 p4 s4.length q4 p6 xat.length q6 p7 s7.length q7 _ _ hI3 (by omega) (by omega)).mono ?_
    rw [hRD]
    rintro e' w4 ⟨rfl, hb4⟩
    clear hI3 hRD
    have z4 : w3.heap.size ≤ w4.heap.size := hb4.size
    have hK4 := (hb4.block w2.heap.size (by omega)).trans hK3
    have hJ4 := (hb4.block w.heap.size (by omega)).trans hJ3
    have hY4 := (hb4.block (w.heap.size + 2) (by omega)).trans hY3
    have hk4 : ∀ c, c < w2.heap.size → w4.heap[c]? = w2.heap[c]? := fun c hc => (hb4.block c (by omega)).trans (hk3 c hc)
    have hbD : Below w.heap.size w w4 := bel_trans hbC hb4
    clear hb4 hK3 hJ3 hY3 hk3 hbC
    obtain ⟨rd, hrd⟩ : ∃ rd, rdyB ⟨xn, xop, xsrc, xtsk, xsn, xsfn, xat, xssn⟩ = rd := ⟨_, rfl⟩
    rw [hrd]
    have HRd := hide hrd
    clear hrd
    have zy : w.heap.size + 1 + 1 < w4.heap.size := by omega
    have zk : w2.heap.size < w4.heap.size := by omega
    have zne : w2.heap.size ≠ w.heap.size + 1 + 1 := by omega
    have zne2 : w.heap.size + 1 + 1 ≠ w2.heap.size := by omega
    have ck0 : w4.cell? ⟨w2.heap.size, 0, none⟩ = some (.int .i64 xn) := by simp [World.cell?, hK4, go_sem]
    have ckf0 : w4.frozen? ⟨w2.heap.size, 0, none⟩ = false := by simp [World.frozen?, hK4, go_sem]
    have ck1 : w4.cell? ⟨w2.heap.size, 1, none⟩ = some (.bool xop) := by simp [World.cell?, hK4, go_sem]
    have ckf1 : w4.frozen? ⟨w2.heap.size, 1, none⟩ = false := by simp [World.frozen?, hK4, go_sem]
    have ck2 : w4.cell? ⟨w2.heap.size, 2, none⟩ = some (.slice p2 xsrc.length q2) := by simp [World.cell?, hK4, go_sem]
    have ckf2 : w4.frozen? ⟨w2.heap.size, 2, none⟩ = false := by simp [World.frozen?, hK4, go_sem]
    have ck3 : w4.cell? ⟨w2.heap.size, 3, none⟩ = some (.slice p3 xtsk.length q3) := by simp [World.cell?, hK4, go_sem]
    have ckf3 : w4.frozen? ⟨w2.heap.size, 3, none⟩ = false := by simp [World.frozen?, hK4, go_sem]
    have ck4 : w4.cell? ⟨w2.heap.size, 4, none⟩ = some (.slice p4 s4.length q4) := by simp [World.cell?, hK4, go_sem]
    have ckf4 : w4.frozen? ⟨w2.heap.size, 4, none⟩ = false := by simp [World.frozen?, hK4, go_sem]
    have ck5 : w4.cell? ⟨w2.heap.size, 5, none⟩ = some (.int .i64 xsfn) := by simp [World.cell?, hK4, go_sem]
    have ckf5 : w4.frozen? ⟨w2.heap.size, 5, none⟩ = false := by simp [World.frozen?, hK4, go_sem]
    have ck6 : w4.cell? ⟨w2.heap.size, 6, none⟩ = some (.slice p6 xat.length q6) := by simp [World.cell?, hK4, go_sem]
    have ckf6 : w4.frozen? ⟨w2.heap.size, 6, none⟩ = false := by simp [World.frozen?, hK4, go_sem]
    have ck7 : w4.cell? ⟨w2.heap.size, 7, none⟩ = some (.slice p7 s7.length q7) := by simp [World.cell?, hK4, go_sem]
    have ckf7 : w4.frozen? ⟨w2.heap.size, 7, none⟩ = false := by simp [World.frozen?, hK4, go_sem]
    have y0 : w4.cell? ⟨w.heap.size + 1 + 1, 0, none⟩ = some (.int .i64 0) := by simp [World.cell?, hY4, go_sem]
    have yf0 : w4.frozen? ⟨w.heap.size + 1 + 1, 0, none⟩ = false := by simp [World.frozen?, hY4, go_sem]
    have y1 : w4.cell? ⟨w.heap.size + 1 + 1, 1, none⟩ = some (.bool false) := by simp [World.cell?, hY4, go_sem]
    have yf1 : w4.frozen? ⟨w.heap.size + 1 + 1, 1, none⟩ = false := by simp [World.frozen?, hY4, go_sem]
    have y2 : w4.cell? ⟨w.heap.size + 1 + 1, 2, none⟩ = some (.slice none 0 0) := by simp [World.cell?, hY4, go_sem]
    have yf2 : w4.frozen? ⟨w.heap.size + 1 + 1, 2, none⟩ = false := by simp [World.frozen?, hY4, go_sem]
    have y3 : w4.cell? ⟨w.heap.size + 1 + 1, 3, none⟩ = some (.slice none 0 0) := by simp [World.cell?, hY4, go_sem]
    have yf3 : w4.frozen? ⟨w.heap.size + 1 + 1, 3, none⟩ = false := by simp [World.frozen?, hY4, go_sem]
    have y4 : w4.cell? ⟨w.heap.size + 1 + 1, 4, none⟩ = some (.slice none 0 0) := by simp [World.cell?, hY4, go_sem]
    have yf4 : w4.frozen? ⟨w.heap.size + 1 + 1, 4, none⟩ = false := by simp [World.frozen?, hY4, go_sem]
    have y5 : w4.cell? ⟨w.heap.size + 1 + 1, 5, none⟩ = some (.int .i64 0) := by simp [World.cell?, hY4, go_sem]
    have yf5 : w4.frozen? ⟨w.heap.size + 1 + 1, 5, none⟩ = false := by simp [World.frozen?, hY4, go_sem]
    have y6 : w4.cell? ⟨w.heap.size + 1 + 1, 6, none⟩ = some (.slice none 0 0) := by simp [World.cell?, hY4, go_sem]
    have yf6 : w4.frozen? ⟨w.heap.size + 1 + 1, 6, none⟩ = false := by simp [World.frozen?, hY4, go_sem]
    have y7 : w4.cell? ⟨w.heap.size + 1 + 1, 7, none⟩ = some (.slice none 0 0) := by simp [World.cell?, hY4, go_sem]
    have yf7 : w4.frozen? ⟨w.heap.size + 1 + 1, 7, none⟩ = false := by simp [World.frozen?, hY4, go_sem]
    have HK4 := hide hk4
    clear hk4 hK4
    cases rd with
    | false =>
      clear hJ4
      go_wp2
      have hz : saveD true xsrc.length xtsk.length ⟨xn, xop, xsrc, xtsk, xsn, xsfn, xat, xssn⟩ = (⟨xn, xop, xsrc, xtsk, xsn, xsfn, xat, xssn⟩, false) := by simp [saveD, unhide HRd]
      rw [hz]
      have fin : ∀ F : World, (∀ c, w1.heap.size ≤ c → c < w2.heap.size → F.heap[c]? = w4.heap[c]?) → Below w.heap.size w F → NewKB w (⟨xn, xop, xsrc, xtsk, xsn, xsfn, xat, xssn⟩, false) (.returned (.tuple #[.agg #[.int .i64 xn, .bool xop, .slice p2 xsrc.length q2, .slice p3 xtsk.length q3, .slice p4 s4.length q4, .int .i64 xsfn, .slice p6 xat.length q6, .slice p7 s7.length q7], .bool false])) F := by
        intro F hk hbF
        exact ⟨_, rfl, CkDis.newk (D := ⟨xn, xop, xsrc, xtsk, xsn, xsfn, xat, xssn⟩) (((unhide HD).keepB (fun c h1 h2 => (hk c h1 h2).trans (unhide HK4 c h2))).base (by omega)) hL hbF⟩
      refine bodyPost_ret (v := .tuple #[.agg #[.int .i64 xn, .bool xop, .slice p2 xsrc.length q2, .slice p3 xtsk.length q3, .slice p4 s4.length q4, .int .i64 xsfn, .slice p6 xat.length q6, .slice p7 s7.length q7], .bool false]) (by simp (maxDischargeDepth := 9) [results, Try.results11, go_sem, *]) rfl ?_
      refine fin _ ?_ ?_
      · intro c hc1 hc2
        repeat (first | (with_reducible rfl) | (with_reducible refine (Below.heap_setCell _ _ _ _ (by simp; omega)).trans ?_) | (with_reducible refine (Below.heap_alloc _ _ _ (by simp; omega)).trans ?_))
      · repeat (first | (with_reducible exact hbD) | (with_reducible refine bel_set ?_ (by simp <;> omega) _) | (with_reducible refine bel_alloc ?_ _))
    | true =>
      have cj0 : w4.cell? ⟨w.heap.size, 0, none⟩ = some (.int .i64 xsrc.length) := by simp [World.cell?, hJ4, go_sem]
      have cj1 : w4.cell? ⟨w.heap.size, 1, none⟩ = some (.int .i64 xtsk.length) := by simp [World.cell?, hJ4, go_sem]
      have cj2 : w4.cell? ⟨w.heap.size, 2, none⟩ = some (.int .i64 k) := by simp [World.cell?, hJ4, go_sem]
      have cj3 : w4.cell? ⟨w.heap.size, 3, none⟩ = some (.int .i64 z) := by simp [World.cell?, hJ4, go_sem]
      have cj4 : w4.cell? ⟨w.heap.size, 4, none⟩ = some (.int .i64 p) := by simp [World.cell?, hJ4, go_sem]
      have cj5 : w4.cell? ⟨w.heap.size, 5, none⟩ = some (.int .i64 l) := by simp [World.cell?, hJ4, go_sem]
      have cj6 : w4.cell? ⟨w.heap.size, 6, none⟩ = some (.int .i64 e) := by simp [World.cell?, hJ4, go_sem]
      have cj7 : w4.cell? ⟨w.heap.size, 7, none⟩ = some (.bool b) := by simp [World.cell?, hJ4, go_sem]
      have cj8 : w4.cell? ⟨w.heap.size, 8, none⟩ = some (.int .i64 v) := by simp [World.cell?, hJ4, go_sem]
      have cj9 : w4.cell? ⟨w.heap.size, 9, none⟩ = some (.int .i64 r) := by simp [World.cell?, hJ4, go_sem]
      have znj : w2.heap.size ≠ w.heap.size := by omega
      have zj : w.heap.size < w4.heap.size := by omega
      go_wp2_with fail
      obtain ⟨w5, hw5⟩ : ∃ w5, w5 = (((w4.setCell ⟨w2.heap.size, 5, none⟩ (.int .i64 xn)).setCell ⟨w2.heap.size, 6, none⟩ (.slice p2 xsrc.length q2)).setCell ⟨w2.heap.size, 7, none⟩ (.slice p4 s4.length q4)) := ⟨_, rfl⟩
      have hk5 : ∀ c, c ≠ w2.heap.size → w5.heap[c]? = w4.heap[c]? := fun c hc => by rw [hw5]; exact (Below.heap_setCell _ _ _ _ (by first | exact hc | exact Ne.symm hc)).trans ((Below.heap_setCell _ _ _ _ (by first | exact hc | exact Ne.symm hc)).trans (Below.heap_setCell _ _ _ _ (by first | exact hc | exact Ne.symm hc)))
      have hs5 : w5.heap.size = w4.heap.size := by rw [hw5]; simp [World.setCell]
      have hbE : Below w.heap.size w w5 := by rw [hw5]; exact bel_set (bel_set (bel_set hbD (by simp; omega) _) (by simp; omega) _) (by simp; omega) _
      rw [← hw5]
      clear hw5
      clear cj0 cj1 cj2 cj3 cj4 cj5 cj6 cj7 cj8 cj9 ck0 ck1 ck2 ck3 ck4 ck5 ck6 ck7 ckf0 ckf1 ckf2 ckf3 ckf4 ckf5 ckf6 ckf7 y0 y1 y2 y3 y4 y5 y6 y7 yf0 yf1 yf2 yf3 yf4 yf5 yf6 yf7
      refine (restG_any xsrc.length xtsk.length k z p l e b v r xn xop p2 xsrc.length q2 p3 xtsk.length q3 p4 s4.length q4 xn p2 xsrc.length q2 p4 s4.length q4 _ ⟨by omega, by omega⟩ ⟨by omega, by omega⟩).mono ?_
      rintro e' w6 ⟨u2, u3, u4, rfl, o2, o3, o4, hb6⟩
      obtain ⟨m2, n2', rfl⟩ := sliceC o2
      obtain ⟨m3, n3', rfl⟩ := sliceC o3
      obtain ⟨m4, n4', rfl⟩ := sliceC o4
      have z6 : w5.heap.size ≤ w6.heap.size := hb6.size
      have hD5 := (unhide HD).keepB (fun c h1 h2 => (hk5 c (by omega)).trans (unhide HK4 c h2))
      have HS := hide (hD5.saved hb6 (Nat.le_refl _) (by omega) o2 o3 o4)
      have hY6 := (hb6.block (w.heap.size + 2) (by omega)).trans ((hk5 (w.heap.size + 2) (by omega)).trans hY4)
      have hbF : Below w.heap.size w w6 := bel_trans hbE hb6
      have zy6 : w.heap.size + 1 + 1 < w6.heap.size := by omega
      clear hD5 o2 o3 o4 hb6 HD HK4 hk5 hY4 hJ4 hbE hbD
      have y0 : w6.cell? ⟨w.heap.size + 1 + 1, 0, none⟩ = some (.int .i64 0) := by simp [World.cell?, hY6, go_sem]
      have yf0 : w6.frozen? ⟨w.heap.size + 1 + 1, 0, none⟩ = false := by simp [World.frozen?, hY6, go_sem]
      have y1 : w6.cell? ⟨w.heap.size + 1 + 1, 1, none⟩ = some (.bool false) := by simp [World.cell?, hY6, go_sem]
      have yf1 : w6.frozen? ⟨w.heap.size + 1 + 1, 1, none⟩ = false := by simp [World.frozen?, hY6, go_sem]
      have y2 : w6.cell? ⟨w.heap.size + 1 + 1, 2, none⟩ = some (.slice none 0 0) := by simp [World.cell?, hY6, go_sem]
      have yf2 : w6.frozen? ⟨w.heap.size + 1 + 1, 2, none⟩ = false := by simp [World.frozen?, hY6, go_sem]
      have y3 : w6.cell? ⟨w.heap.size + 1 + 1, 3, none⟩ = some (.slice none 0 0) := by simp [World.cell?, hY6, go_sem]
      have yf3 : w6.frozen? ⟨w.heap.size + 1 + 1, 3, none⟩ = false := by simp [World.frozen?, hY6, go_sem]
      have y4 : w6.cell? ⟨w.heap.size + 1 + 1, 4, none⟩ = some (.slice none 0 0) := by simp [World.cell?, hY6, go_sem]
      have yf4 : w6.frozen? ⟨w.heap.size + 1 + 1, 4, none⟩ = false := by simp [World.frozen?, hY6, go_sem]
      have y5 : w6.cell? ⟨w.heap.size + 1 + 1, 5, none⟩ = some (.int .i64 0) := by simp [World.cell?, hY6, go_sem]
      have yf5 : w6.frozen? ⟨w.heap.size + 1 + 1, 5, none⟩ = false := by simp [World.frozen?, hY6, go_sem]
      have y6 : w6.cell? ⟨w.heap.size + 1 + 1, 6, none⟩ = some (.slice none 0 0) := by simp [World.cell?, hY6, go_sem]
      have yf6 : w6.frozen? ⟨w.heap.size + 1 + 1, 6, none⟩ = false := by simp [World.frozen?, hY6, go_sem]
      have y7 : w6.cell? ⟨w.heap.size + 1 + 1, 7, none⟩ = some (.slice none 0 0) := by simp [World.cell?, hY6, go_sem]
      have yf7 : w6.frozen? ⟨w.heap.size + 1 + 1, 7, none⟩ = false := by simp [World.frozen?, hY6, go_sem]
      clear hY6
      go_wp2
      have fin : ∀ F : World, (∀ c, w1.heap.size ≤ c → c < w6.heap.size → F.heap[c]? = w6.heap[c]?) → Below w.heap.size w F → NewKB w (restD xsrc.length xtsk.length (sfD ⟨xn, xop, xsrc, xtsk, xsn, xsfn, xat, xssn⟩), true) (.returned (.tuple #[.agg #[.int .i64 xn, .bool false, .slice m2 xsrc.length n2', .slice m3 xtsk.length n3', .slice m4 xtsk.length n4', .int .i64 xn, .slice p2 xsrc.length q2, .slice p4 s4.length q4], .bool true])) F := by
        intro F hk hbF
        exact ⟨_, rfl, CkDis.newk (D := restD xsrc.length xtsk.length (sfD ⟨xn, xop, xsrc, xtsk, xsn, xsfn, xat, xssn⟩)) (((unhide HS).keepB hk).base (by omega)) (ckLim_rest (ckLim_sf hL) (by omega) (by omega)) hbF⟩
      refine bodyPost_ret (v := .tuple #[.agg #[.int .i64 xn, .bool false, .slice m2 xsrc.length n2', .slice m3 xtsk.length n3', .slice m4 xtsk.length n4', .int .i64 xn, .slice p2 xsrc.length q2, .slice p4 s4.length q4], .bool true]) (by simp (maxDischargeDepth := 9) [results, Try.results11, go_sem, *]) rfl ?_
      have hz : saveD true xsrc.length xtsk.length ⟨xn, xop, xsrc, xtsk, xsn, xsfn, xat, xssn⟩ = (restD xsrc.length xtsk.length (sfD ⟨xn, xop, xsrc, xtsk, xsn, xsfn, xat, xssn⟩), true) := by simp [saveD, unhide HRd]
      rw [hz]
      refine fin _ ?_ ?_
      · intro c hc1 hc2
        repeat (first | (with_reducible rfl) | (with_reducible refine (Below.heap_setCell _ _ _ _ (by simp; omega)).trans ?_) | (with_reducible refine (Below.heap_alloc _ _ _ (by simp; omega)).trans ?_))
      · repeat (first | (with_reducible exact hbF) | (with_reducible refine bel_set ?_ (by simp <;> omega) _) | (with_reducible refine bel_alloc ?_ _))
end Go.Proofs.Ytabphkmhafflbaa
