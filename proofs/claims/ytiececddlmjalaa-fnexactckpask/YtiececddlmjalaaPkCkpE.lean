/- Laid together: what the claim needs of the texts that were built one by one. -/
import Derived.Test.YtiececddlmjalaaPkCkpA
import Derived.Test.YtiececddlmjalaaPkCkpS4
import Derived.Test.YtiececddlmjalaaPkCkpI4
import Derived.Test.YtiececddlmjalaaPkBase
namespace Go.Proofs.Ytiececddlmjalaa
open Go.ChangeShapes Go.WideShapes Go.ChangeAt Go.RowKit Go.Deep
set_option linter.unusedVariables false

theorem CkDis.keepB {W W' : World} {B : Nat} {src : List Int} {tsk : List Bool} {sn : List SnD} {at_ : List Int} {ssn : List SnD} {v2 v3 v4 v6 v7 : Value} {l4 l7 : List (Int × SnV)} (h : CkDis W B src tsk sn at_ ssn v2 v3 v4 v6 v7 l4 l7) (hb : ∀ b, B ≤ b → b < W.heap.size → W'.heap[b]? = W.heap[b]?) : CkDis W' B src tsk sn at_ ssn v2 v3 v4 v6 v7 l4 l7 := by
  have up : ∀ {e : TypeId} {size n : Nat} {v : Value} {xs : List Value}, W.ownsRow B e size v n xs → W'.ownsRow B e size v n xs := fun h9 => own_upB h9 (fun b hv => hb b (World.ownsRow.lt h9 b hv).1 (World.ownsRow.lt h9 b hv).2)
  exact ⟨up h.o2, up h.o3, up h.o4, h.k4.keepB hb, up h.o6, up h.o7, h.k7.keepB hb, h.d26, h.d47, h.dm, h.dr, h.dk⟩

/-- What checkpoints are behind an asking. -/
def askD (ok : Bool) (x : CkD) : CkD := if ok then (if x.op = false ∧ x.n < 900 then { x with n := x.n + 1, op := true } else x) else ckZero

theorem okCk_n {s t k z p l e v r : Int} {x : CkD} (h : okCk s t k z p l e v r x = true) : 0 ≤ x.n ∧ x.n ≤ 900 := by
  unfold okCk okCs at h
  simp only [Bool.and_eq_true] at h
  have h1 := inB_iff.1 h.1.1.1.1.1.1.1.2
  have h2 := inB_iff.1 h.1.1.2.1.1.1.1
  omega

theorem zero_newk {w w' : World} (hb : Below w.heap.size w w') : NewK w ckZero (.returned (.agg #[.int .i64 0, .bool false, .slice none 0 0, .slice none 0 0, .slice none 0 0, .int .i64 0, .slice none 0 0, .slice none 0 0])) w' := by
  obtain ⟨a2, c2, a3, c3, a4, c4, a6, c6, a7, c7, v4, v7, e, hM, hW, hS, hb'⟩ := zero_newC hb
  exact ⟨a2, c2, a3, c3, a4, c4, a6, c6, a7, c7, v4, v7, e, hM, hW, hS, hb'⟩

set_option linter.unusedSimpArgs false in
set_option maxRecDepth 20000 in
set_option maxHeartbeats 4000000 in
theorem specask_any (s t k z p l e : Int) (b : Bool) (v r : Int) (x : CkD) (a2 : Option Addr) (l2 c2 : Nat) (a3 : Option Addr) (l3 c3 : Nat) (a4 : Option Addr) (l4 c4 : Nat) (a6 : Option Addr) (l6 c6 : Nat) (a7 : Option Addr) (l7 c7 : Nat) (B : Nat) (w : World) (h : CkIs w B a2 l2 a3 l3 a4 l4 a6 l6 a7 l7 x) (hL : CkLim x) : Calls Try.prog 17 #[.agg #[.int .i64 s, .int .i64 t, .int .i64 k, .int .i64 z, .int .i64 p, .int .i64 l, .int .i64 e, .bool b, .int .i64 v, .int .i64 r], .agg #[.int .i64 x.n, .bool x.op, .slice a2 l2 c2, .slice a3 l3 c3, .slice a4 l4 c4, .int .i64 x.sfn, .slice a6 l6 c6, .slice a7 l7 c7]] w fun e' w' => NewK w (askD (okCk s t k z p l e v r x) x) e' w' := by
  obtain ⟨xn, xop, xsrc, xtsk, xsn, xsfn, xat, xssn⟩ := x
  obtain ⟨ok, hok⟩ : ∃ ok, okCk s t k z p l e v r ⟨xn, xop, xsrc, xtsk, xsn, xsfn, xat, xssn⟩ = ok := ⟨_, rfl⟩
  have hlens : l2 ≤ 1048576 ∧ l3 ≤ 1048576 ∧ l4 ≤ 1048576 ∧ l6 ≤ 1048576 ∧ l7 ≤ 1048576 := by
    have q2 := h.src.1.1
    have q3 := h.tsk.1.1
    have q4 := h.sn.1
    have q6 := h.at_.1.1
    have q7 := h.ssn.1
    obtain ⟨r2, r3, ⟨r4, _⟩, r6, ⟨r7, _⟩⟩ := hL
    simp only at *
    omega
  obtain ⟨n2, n3, n4, n6, n7⟩ := hlens
  have hbz : Below w.heap.size w (((w.alloc (.cells #[.int .i64 s, .int .i64 t, .int .i64 k, .int .i64 z, .int .i64 p, .int .i64 l, .int .i64 e, .bool b, .int .i64 v, .int .i64 r] 32)).alloc (.cells #[.int .i64 xn, .bool xop, .slice a2 l2 c2, .slice a3 l3 c3, .slice a4 l4 c4, .int .i64 xsfn, .slice a6 l6 c6, .slice a7 l7 c7] 30)).alloc (.cells #[.int .i64 0, .bool false, .slice none 0 0, .slice none 0 0, .slice none 0 0, .int .i64 0, .slice none 0 0, .slice none 0 0] 30)) := bel_alloc (bel_alloc (bel_one _ _) _) _
  have h0 := h.below hbz
  have hX0 : (((w.alloc (.cells #[.int .i64 s, .int .i64 t, .int .i64 k, .int .i64 z, .int .i64 p, .int .i64 l, .int .i64 e, .bool b, .int .i64 v, .int .i64 r] 32)).alloc (.cells #[.int .i64 xn, .bool xop, .slice a2 l2 c2, .slice a3 l3 c3, .slice a4 l4 c4, .int .i64 xsfn, .slice a6 l6 c6, .slice a7 l7 c7] 30)).alloc (.cells #[.int .i64 0, .bool false, .slice none 0 0, .slice none 0 0, .slice none 0 0, .int .i64 0, .slice none 0 0, .slice none 0 0] 30)).heap[w.heap.size + 1]? = some (.cells #[.int .i64 xn, .bool xop, .slice a2 l2 c2, .slice a3 l3 c3, .slice a4 l4 c4, .int .i64 xsfn, .slice a6 l6 c6, .slice a7 l7 c7] 30 (0, 0)) := ((bel_one _ _).block _ (by simp)).trans (blk_new (by simp))
  have hY0 : (((w.alloc (.cells #[.int .i64 s, .int .i64 t, .int .i64 k, .int .i64 z, .int .i64 p, .int .i64 l, .int .i64 e, .bool b, .int .i64 v, .int .i64 r] 32)).alloc (.cells #[.int .i64 xn, .bool xop, .slice a2 l2 c2, .slice a3 l3 c3, .slice a4 l4 c4, .int .i64 xsfn, .slice a6 l6 c6, .slice a7 l7 c7] 30)).alloc (.cells #[.int .i64 0, .bool false, .slice none 0 0, .slice none 0 0, .slice none 0 0, .int .i64 0, .slice none 0 0, .slice none 0 0] 30)).heap[w.heap.size + 2]? = some (.cells #[.int .i64 0, .bool false, .slice none 0 0, .slice none 0 0, .slice none 0 0, .int .i64 0, .slice none 0 0, .slice none 0 0] 30 (0, 0)) := blk_new (by simp)
  rw [hok]
  have hxn : ok = true → 0 ≤ xn ∧ xn ≤ 900 := fun e9 => okCk_n (hok.trans e9)
  have HOK := hide hok
  clear hok
  go_enter Try.func17, Try.ntmps17
  go_wp2_with fail
  refine (specckpok_any s t k z p l e b v r ⟨xn, xop, xsrc, xtsk, xsn, xsfn, xat, xssn⟩ a2 l2 c2 a3 l3 c3 a4 l4 c4 a6 l6 c6 a7 l7 c7 B _ h0 hL.2.2.1.2).mono ?_
  rw [unhide HOK]
  rintro e' w1 ⟨rfl, hb1⟩
  clear HOK
  have z1 : w.heap.size + 2 < w1.heap.size := by have h9 := hb1.size; simp at h9; omega
  have z1a : w.heap.size + 1 < w1.heap.size := by omega
  have hX1 := (hb1.block (w.heap.size + 1) (by simp)).trans hX0
  have hY1 := (hb1.block (w.heap.size + 2) (by simp)).trans hY0
  have c0x : w1.cell? ⟨w.heap.size + 1, 0, none⟩ = some (.int .i64 xn) := by simp [World.cell?, hX1, go_sem]
  have c1x : w1.cell? ⟨w.heap.size + 1, 1, none⟩ = some (.bool xop) := by simp [World.cell?, hX1, go_sem]
  have c2x : w1.cell? ⟨w.heap.size + 1, 2, none⟩ = some (.slice a2 l2 c2) := by simp [World.cell?, hX1, go_sem]
  have c3x : w1.cell? ⟨w.heap.size + 1, 3, none⟩ = some (.slice a3 l3 c3) := by simp [World.cell?, hX1, go_sem]
  have c4x : w1.cell? ⟨w.heap.size + 1, 4, none⟩ = some (.slice a4 l4 c4) := by simp [World.cell?, hX1, go_sem]
  have c5x : w1.cell? ⟨w.heap.size + 1, 5, none⟩ = some (.int .i64 xsfn) := by simp [World.cell?, hX1, go_sem]
  have c6x : w1.cell? ⟨w.heap.size + 1, 6, none⟩ = some (.slice a6 l6 c6) := by simp [World.cell?, hX1, go_sem]
  have c7x : w1.cell? ⟨w.heap.size + 1, 7, none⟩ = some (.slice a7 l7 c7) := by simp [World.cell?, hX1, go_sem]
  have y0 : w1.cell? ⟨w.heap.size + 1 + 1, 0, none⟩ = some (.int .i64 0) := by simp [World.cell?, hY1, go_sem]
  have f0 : w1.frozen? ⟨w.heap.size + 1 + 1, 0, none⟩ = false := by simp [World.frozen?, hY1, go_sem]
  have y1 : w1.cell? ⟨w.heap.size + 1 + 1, 1, none⟩ = some (.bool false) := by simp [World.cell?, hY1, go_sem]
  have f1 : w1.frozen? ⟨w.heap.size + 1 + 1, 1, none⟩ = false := by simp [World.frozen?, hY1, go_sem]
  have y2 : w1.cell? ⟨w.heap.size + 1 + 1, 2, none⟩ = some (.slice none 0 0) := by simp [World.cell?, hY1, go_sem]
  have f2 : w1.frozen? ⟨w.heap.size + 1 + 1, 2, none⟩ = false := by simp [World.frozen?, hY1, go_sem]
  have y3 : w1.cell? ⟨w.heap.size + 1 + 1, 3, none⟩ = some (.slice none 0 0) := by simp [World.cell?, hY1, go_sem]
  have f3 : w1.frozen? ⟨w.heap.size + 1 + 1, 3, none⟩ = false := by simp [World.frozen?, hY1, go_sem]
  have y4 : w1.cell? ⟨w.heap.size + 1 + 1, 4, none⟩ = some (.slice none 0 0) := by simp [World.cell?, hY1, go_sem]
  have f4 : w1.frozen? ⟨w.heap.size + 1 + 1, 4, none⟩ = false := by simp [World.frozen?, hY1, go_sem]
  have y5 : w1.cell? ⟨w.heap.size + 1 + 1, 5, none⟩ = some (.int .i64 0) := by simp [World.cell?, hY1, go_sem]
  have f5 : w1.frozen? ⟨w.heap.size + 1 + 1, 5, none⟩ = false := by simp [World.frozen?, hY1, go_sem]
  have y6 : w1.cell? ⟨w.heap.size + 1 + 1, 6, none⟩ = some (.slice none 0 0) := by simp [World.cell?, hY1, go_sem]
  have f6 : w1.frozen? ⟨w.heap.size + 1 + 1, 6, none⟩ = false := by simp [World.frozen?, hY1, go_sem]
  have y7 : w1.cell? ⟨w.heap.size + 1 + 1, 7, none⟩ = some (.slice none 0 0) := by simp [World.cell?, hY1, go_sem]
  have f7 : w1.frozen? ⟨w.heap.size + 1 + 1, 7, none⟩ = false := by simp [World.frozen?, hY1, go_sem]
  have hbA : Below w.heap.size w w1 := bel_trans hbz hb1
  cases ok with
  | false =>
    clear hxn
    go_wp2
    refine bodyPost_ret (v := .agg #[.int .i64 0, .bool false, .slice none 0 0, .slice none 0 0, .slice none 0 0, .int .i64 0, .slice none 0 0, .slice none 0 0]) (by simp (maxDischargeDepth := 9) [results, Try.results17, go_sem, *]) rfl ?_
    have hz : askD false ⟨xn, xop, xsrc, xtsk, xsn, xsfn, xat, xssn⟩ = ckZero := rfl
    rw [hz]
    refine zero_newk ?_
    repeat (first | (with_reducible exact hbA) | (with_reducible refine bel_set ?_ (by simp <;> omega) _))
  | true =>
    obtain ⟨xn0, xn9⟩ := hxn rfl
    clear hxn
    have h1 := h0.below hb1
    go_wp2_with fail
    refine (l9copy_any xn xop a2 l2 c2 a3 l3 c3 a4 l4 c4 xsfn a6 l6 c6 a7 l7 c7 B xsrc xtsk xsn xat xssn _ h1.src.1 h1.tsk.1 h1.sn h1.at_.1 h1.ssn n2 n3 n4 n6 n7 hL.2.2.1.2 hL.2.2.2.2.2).mono ?_
    rintro e' w2 ⟨v2, v3, v4, v6, v7, s4, s7, rfl, hD, hb2⟩
    obtain ⟨p2, q2, rfl⟩ := sliceC hD.o2
    obtain ⟨p3, q3, rfl⟩ := sliceC hD.o3
    obtain ⟨p4, q4, rfl⟩ := sliceC hD.o4
    obtain ⟨p6, q6, rfl⟩ := sliceC hD.o6
    obtain ⟨p7, q7, rfl⟩ := sliceC hD.o7
    have z2 : w.heap.size + 1 + 1 < w2.heap.size := by have h9 := hb2.size; omega
    have hY2 := (hb2.block (w.heap.size + 2) z1).trans hY1
    clear y0 f0 c0x y1 f1 c1x y2 f2 c2x y3 f3 c3x y4 f4 c4x y5 f5 c5x y6 f6 c6x y7 f7 c7x
    have y0 : w2.cell? ⟨w.heap.size + 1 + 1, 0, none⟩ = some (.int .i64 0) := by simp [World.cell?, hY2, go_sem]
    have f0 : w2.frozen? ⟨w.heap.size + 1 + 1, 0, none⟩ = false := by simp [World.frozen?, hY2, go_sem]
    have y1 : w2.cell? ⟨w.heap.size + 1 + 1, 1, none⟩ = some (.bool false) := by simp [World.cell?, hY2, go_sem]
    have f1 : w2.frozen? ⟨w.heap.size + 1 + 1, 1, none⟩ = false := by simp [World.frozen?, hY2, go_sem]
    have y2 : w2.cell? ⟨w.heap.size + 1 + 1, 2, none⟩ = some (.slice none 0 0) := by simp [World.cell?, hY2, go_sem]
    have f2 : w2.frozen? ⟨w.heap.size + 1 + 1, 2, none⟩ = false := by simp [World.frozen?, hY2, go_sem]
    have y3 : w2.cell? ⟨w.heap.size + 1 + 1, 3, none⟩ = some (.slice none 0 0) := by simp [World.cell?, hY2, go_sem]
    have f3 : w2.frozen? ⟨w.heap.size + 1 + 1, 3, none⟩ = false := by simp [World.frozen?, hY2, go_sem]
    have y4 : w2.cell? ⟨w.heap.size + 1 + 1, 4, none⟩ = some (.slice none 0 0) := by simp [World.cell?, hY2, go_sem]
    have f4 : w2.frozen? ⟨w.heap.size + 1 + 1, 4, none⟩ = false := by simp [World.frozen?, hY2, go_sem]
    have y5 : w2.cell? ⟨w.heap.size + 1 + 1, 5, none⟩ = some (.int .i64 0) := by simp [World.cell?, hY2, go_sem]
    have f5 : w2.frozen? ⟨w.heap.size + 1 + 1, 5, none⟩ = false := by simp [World.frozen?, hY2, go_sem]
    have y6 : w2.cell? ⟨w.heap.size + 1 + 1, 6, none⟩ = some (.slice none 0 0) := by simp [World.cell?, hY2, go_sem]
    have f6 : w2.frozen? ⟨w.heap.size + 1 + 1, 6, none⟩ = false := by simp [World.frozen?, hY2, go_sem]
    have y7 : w2.cell? ⟨w.heap.size + 1 + 1, 7, none⟩ = some (.slice none 0 0) := by simp [World.cell?, hY2, go_sem]
    have f7 : w2.frozen? ⟨w.heap.size + 1 + 1, 7, none⟩ = false := by simp [World.frozen?, hY2, go_sem]
    have hbB : Below w.heap.size w w2 := bel_trans hbA hb2
    have HD := hide hD
    clear hD hX1 hX0 hY0 hY1 hY2
    have fin : ∀ (F : World) (D : CkD), D.src = xsrc → D.tsk = xtsk → D.sn = xsn → D.at_ = xat → D.ssn = xssn → D.sfn = xsfn → (∀ c, w1.heap.size ≤ c → c < w2.heap.size → F.heap[c]? = w2.heap[c]?) → Below w.heap.size w F → NewK w D (.returned (.agg #[.int .i64 D.n, .bool D.op, .slice p2 xsrc.length q2, .slice p3 xtsk.length q3, .slice p4 s4.length q4, .int .i64 xsfn, .slice p6 xat.length q6, .slice p7 s7.length q7])) F := by
      rintro F ⟨Dn, Dop, Dsrc, Dtsk, Dsn, Dsfn, Dat, Dssn⟩ rfl rfl rfl rfl rfl rfl hk hbF
      exact CkDis.newk (D := ⟨Dn, Dop, _, _, _, _, _, _⟩) (((unhide HD).keepB hk).base (by omega)) hL hbF
    have HFIN := hide fin
    clear fin
    cases xop with
    | false =>
      by_cases hn : xn < 900
      · have hA : askD true ⟨xn, false, xsrc, xtsk, xsn, xsfn, xat, xssn⟩ = ⟨xn + 1, true, xsrc, xtsk, xsn, xsfn, xat, xssn⟩ := by simp [askD, hn]
        have hnD : decide (xn < 900) = true := decide_eq_true hn
        go_wp2
        refine bodyPost_ret (v := .agg #[.int .i64 (xn + 1), .bool true, .slice p2 xsrc.length q2, .slice p3 xtsk.length q3, .slice p4 s4.length q4, .int .i64 xsfn, .slice p6 xat.length q6, .slice p7 s7.length q7]) (by simp (maxDischargeDepth := 9) [results, Try.results17, go_sem, *]) rfl ?_
        rw [hA]
        refine (unhide HFIN) _ ⟨(xn + 1), true, xsrc, xtsk, xsn, xsfn, xat, xssn⟩ rfl rfl rfl rfl rfl rfl ?_ ?_
        · intro c hc1 hc2
          repeat (first | (with_reducible rfl) | (with_reducible refine (Below.heap_setCell _ _ _ _ (by simp; omega)).trans ?_) | (with_reducible refine (Below.heap_alloc _ _ _ (by simp; omega)).trans ?_))
        · repeat (first | (with_reducible exact hbB) | (with_reducible refine bel_set ?_ (by simp <;> omega) _) | (with_reducible refine bel_alloc ?_ _))
      · have hA : askD true ⟨xn, false, xsrc, xtsk, xsn, xsfn, xat, xssn⟩ = ⟨xn, false, xsrc, xtsk, xsn, xsfn, xat, xssn⟩ := by simp [askD, hn]
        have hnD : decide (xn < 900) = false := decide_eq_false hn
        go_wp2
        refine bodyPost_ret (v := .agg #[.int .i64 xn, .bool false, .slice p2 xsrc.length q2, .slice p3 xtsk.length q3, .slice p4 s4.length q4, .int .i64 xsfn, .slice p6 xat.length q6, .slice p7 s7.length q7]) (by simp (maxDischargeDepth := 9) [results, Try.results17, go_sem, *]) rfl ?_
        rw [hA]
        refine (unhide HFIN) _ ⟨xn, false, xsrc, xtsk, xsn, xsfn, xat, xssn⟩ rfl rfl rfl rfl rfl rfl ?_ ?_
        · intro c hc1 hc2
          repeat (first | (with_reducible rfl) | (with_reducible refine (Below.heap_setCell _ _ _ _ (by simp; omega)).trans ?_) | (with_reducible refine (Below.heap_alloc _ _ _ (by simp; omega)).trans ?_))
        · repeat (first | (with_reducible exact hbB) | (with_reducible refine bel_set ?_ (by simp <;> omega) _) | (with_reducible refine bel_alloc ?_ _))
    | true =>
      have hA : askD true ⟨xn, true, xsrc, xtsk, xsn, xsfn, xat, xssn⟩ = ⟨xn, true, xsrc, xtsk, xsn, xsfn, xat, xssn⟩ := by simp [askD]
      go_wp2
      refine bodyPost_ret (v := .agg #[.int .i64 xn, .bool true, .slice p2 xsrc.length q2, .slice p3 xtsk.length q3, .slice p4 s4.length q4, .int .i64 xsfn, .slice p6 xat.length q6, .slice p7 s7.length q7]) (by simp (maxDischargeDepth := 9) [results, Try.results17, go_sem, *]) rfl ?_
      rw [hA]
      refine (unhide HFIN) _ ⟨xn, true, xsrc, xtsk, xsn, xsfn, xat, xssn⟩ rfl rfl rfl rfl rfl rfl ?_ ?_
      · intro c hc1 hc2
        repeat (first | (with_reducible rfl) | (with_reducible refine (Below.heap_setCell _ _ _ _ (by simp; omega)).trans ?_) | (with_reducible refine (Below.heap_alloc _ _ _ (by simp; omega)).trans ?_))
      · repeat (first | (with_reducible exact hbB) | (with_reducible refine bel_set ?_ (by simp <;> omega) _) | (with_reducible refine bel_alloc ?_ _))

set_option linter.unusedSimpArgs false in
set_option maxRecDepth 20000 in
set_option maxHeartbeats 4000000 in
theorem implask_any (s t k z p l e : Int) (b : Bool) (v r : Int) (x : CkD) (a2 : Option Addr) (l2 c2 : Nat) (a3 : Option Addr) (l3 c3 : Nat) (a4 : Option Addr) (l4 c4 : Nat) (a6 : Option Addr) (l6 c6 : Nat) (a7 : Option Addr) (l7 c7 : Nat) (B : Nat) (w : World) (h : CkIs w B a2 l2 a3 l3 a4 l4 a6 l6 a7 l7 x) (hL : CkLim x) : Calls Try.prog 18 #[.agg #[.int .i64 s, .int .i64 t, .int .i64 k, .int .i64 z, .int .i64 p, .int .i64 l, .int .i64 e, .bool b, .int .i64 v, .int .i64 r], .agg #[.int .i64 x.n, .bool x.op, .slice a2 l2 c2, .slice a3 l3 c3, .slice a4 l4 c4, .int .i64 x.sfn, .slice a6 l6 c6, .slice a7 l7 c7]] w fun e' w' => NewK w (askD (okCk s t k z p l e v r x) x) e' w' := by
  obtain ⟨xn, xop, xsrc, xtsk, xsn, xsfn, xat, xssn⟩ := x
  obtain ⟨ok, hok⟩ : ∃ ok, okCk s t k z p l e v r ⟨xn, xop, xsrc, xtsk, xsn, xsfn, xat, xssn⟩ = ok := ⟨_, rfl⟩
  have hlens : l2 ≤ 1048576 ∧ l3 ≤ 1048576 ∧ l4 ≤ 1048576 ∧ l6 ≤ 1048576 ∧ l7 ≤ 1048576 := by
    have q2 := h.src.1.1
    have q3 := h.tsk.1.1
    have q4 := h.sn.1
    have q6 := h.at_.1.1
    have q7 := h.ssn.1
    obtain ⟨r2, r3, ⟨r4, _⟩, r6, ⟨r7, _⟩⟩ := hL
    simp only at *
    omega
  obtain ⟨n2, n3, n4, n6, n7⟩ := hlens
  have hbz : Below w.heap.size w (((w.alloc (.cells #[.int .i64 s, .int .i64 t, .int .i64 k, .int .i64 z, .int .i64 p, .int .i64 l, .int .i64 e, .bool b, .int .i64 v, .int .i64 r] 32)).alloc (.cells #[.int .i64 xn, .bool xop, .slice a2 l2 c2, .slice a3 l3 c3, .slice a4 l4 c4, .int .i64 xsfn, .slice a6 l6 c6, .slice a7 l7 c7] 30)).alloc (.cells #[.int .i64 0, .bool false, .slice none 0 0, .slice none 0 0, .slice none 0 0, .int .i64 0, .slice none 0 0, .slice none 0 0] 30)) := bel_alloc (bel_alloc (bel_one _ _) _) _
  have h0 := h.below hbz
  have hX0 : (((w.alloc (.cells #[.int .i64 s, .int .i64 t, .int .i64 k, .int .i64 z, .int .i64 p, .int .i64 l, .int .i64 e, .bool b, .int .i64 v, .int .i64 r] 32)).alloc (.cells #[.int .i64 xn, .bool xop, .slice a2 l2 c2, .slice a3 l3 c3, .slice a4 l4 c4, .int .i64 xsfn, .slice a6 l6 c6, .slice a7 l7 c7] 30)).alloc (.cells #[.int .i64 0, .bool false, .slice none 0 0, .slice none 0 0, .slice none 0 0, .int .i64 0, .slice none 0 0, .slice none 0 0] 30)).heap[w.heap.size + 1]? = some (.cells #[.int .i64 xn, .bool xop, .slice a2 l2 c2, .slice a3 l3 c3, .slice a4 l4 c4, .int .i64 xsfn, .slice a6 l6 c6, .slice a7 l7 c7] 30 (0, 0)) := ((bel_one _ _).block _ (by simp)).trans (blk_new (by simp))
  have hY0 : (((w.alloc (.cells #[.int .i64 s, .int .i64 t, .int .i64 k, .int .i64 z, .int .i64 p, .int .i64 l, .int .i64 e, .bool b, .int .i64 v, .int .i64 r] 32)).alloc (.cells #[.int .i64 xn, .bool xop, .slice a2 l2 c2, .slice a3 l3 c3, .slice a4 l4 c4, .int .i64 xsfn, .slice a6 l6 c6, .slice a7 l7 c7] 30)).alloc (.cells #[.int .i64 0, .bool false, .slice none 0 0, .slice none 0 0, .slice none 0 0, .int .i64 0, .slice none 0 0, .slice none 0 0] 30)).heap[w.heap.size + 2]? = some (.cells #[.int .i64 0, .bool false, .slice none 0 0, .slice none 0 0, .slice none 0 0, .int .i64 0, .slice none 0 0, .slice none 0 0] 30 (0, 0)) := blk_new (by simp)
  rw [hok]
  have hxn : ok = true → 0 ≤ xn ∧ xn ≤ 900 := fun e9 => okCk_n (hok.trans e9)
  have HOK := hide hok
  clear hok
  go_enter Try.func18, Try.ntmps18
  go_wp2_with fail
  refine (implckpok_any s t k z p l e b v r ⟨xn, xop, xsrc, xtsk, xsn, xsfn, xat, xssn⟩ a2 l2 c2 a3 l3 c3 a4 l4 c4 a6 l6 c6 a7 l7 c7 B _ h0).mono ?_
  rw [unhide HOK]
  rintro e' w1 ⟨rfl, hb1⟩
  clear HOK
  have z1 : w.heap.size + 2 < w1.heap.size := by have h9 := hb1.size; simp at h9; omega
  have z1a : w.heap.size + 1 < w1.heap.size := by omega
  have hX1 := (hb1.block (w.heap.size + 1) (by simp)).trans hX0
  have hY1 := (hb1.block (w.heap.size + 2) (by simp)).trans hY0
  have c0x : w1.cell? ⟨w.heap.size + 1, 0, none⟩ = some (.int .i64 xn) := by simp [World.cell?, hX1, go_sem]
  have c1x : w1.cell? ⟨w.heap.size + 1, 1, none⟩ = some (.bool xop) := by simp [World.cell?, hX1, go_sem]
  have c2x : w1.cell? ⟨w.heap.size + 1, 2, none⟩ = some (.slice a2 l2 c2) := by simp [World.cell?, hX1, go_sem]
  have c3x : w1.cell? ⟨w.heap.size + 1, 3, none⟩ = some (.slice a3 l3 c3) := by simp [World.cell?, hX1, go_sem]
  have c4x : w1.cell? ⟨w.heap.size + 1, 4, none⟩ = some (.slice a4 l4 c4) := by simp [World.cell?, hX1, go_sem]
  have c5x : w1.cell? ⟨w.heap.size + 1, 5, none⟩ = some (.int .i64 xsfn) := by simp [World.cell?, hX1, go_sem]
  have c6x : w1.cell? ⟨w.heap.size + 1, 6, none⟩ = some (.slice a6 l6 c6) := by simp [World.cell?, hX1, go_sem]
  have c7x : w1.cell? ⟨w.heap.size + 1, 7, none⟩ = some (.slice a7 l7 c7) := by simp [World.cell?, hX1, go_sem]
  have y0 : w1.cell? ⟨w.heap.size + 1 + 1, 0, none⟩ = some (.int .i64 0) := by simp [World.cell?, hY1, go_sem]
  have f0 : w1.frozen? ⟨w.heap.size + 1 + 1, 0, none⟩ = false := by simp [World.frozen?, hY1, go_sem]
  have y1 : w1.cell? ⟨w.heap.size + 1 + 1, 1, none⟩ = some (.bool false) := by simp [World.cell?, hY1, go_sem]
  have f1 : w1.frozen? ⟨w.heap.size + 1 + 1, 1, none⟩ = false := by simp [World.frozen?, hY1, go_sem]
  have y2 : w1.cell? ⟨w.heap.size + 1 + 1, 2, none⟩ = some (.slice none 0 0) := by simp [World.cell?, hY1, go_sem]
  have f2 : w1.frozen? ⟨w.heap.size + 1 + 1, 2, none⟩ = false := by simp [World.frozen?, hY1, go_sem]
  have y3 : w1.cell? ⟨w.heap.size + 1 + 1, 3, none⟩ = some (.slice none 0 0) := by simp [World.cell?, hY1, go_sem]
  have f3 : w1.frozen? ⟨w.heap.size + 1 + 1, 3, none⟩ = false := by simp [World.frozen?, hY1, go_sem]
  have y4 : w1.cell? ⟨w.heap.size + 1 + 1, 4, none⟩ = some (.slice none 0 0) := by simp [World.cell?, hY1, go_sem]
  have f4 : w1.frozen? ⟨w.heap.size + 1 + 1, 4, none⟩ = false := by simp [World.frozen?, hY1, go_sem]
  have y5 : w1.cell? ⟨w.heap.size + 1 + 1, 5, none⟩ = some (.int .i64 0) := by simp [World.cell?, hY1, go_sem]
  have f5 : w1.frozen? ⟨w.heap.size + 1 + 1, 5, none⟩ = false := by simp [World.frozen?, hY1, go_sem]
  have y6 : w1.cell? ⟨w.heap.size + 1 + 1, 6, none⟩ = some (.slice none 0 0) := by simp [World.cell?, hY1, go_sem]
  have f6 : w1.frozen? ⟨w.heap.size + 1 + 1, 6, none⟩ = false := by simp [World.frozen?, hY1, go_sem]
  have y7 : w1.cell? ⟨w.heap.size + 1 + 1, 7, none⟩ = some (.slice none 0 0) := by simp [World.cell?, hY1, go_sem]
  have f7 : w1.frozen? ⟨w.heap.size + 1 + 1, 7, none⟩ = false := by simp [World.frozen?, hY1, go_sem]
  have hbA : Below w.heap.size w w1 := bel_trans hbz hb1
  cases ok with
  | false =>
    clear hxn
    go_wp2
    refine bodyPost_ret (v := .agg #[.int .i64 0, .bool false, .slice none 0 0, .slice none 0 0, .slice none 0 0, .int .i64 0, .slice none 0 0, .slice none 0 0]) (by simp (maxDischargeDepth := 9) [results, Try.results18, go_sem, *]) rfl ?_
    have hz : askD false ⟨xn, xop, xsrc, xtsk, xsn, xsfn, xat, xssn⟩ = ckZero := rfl
    rw [hz]
    refine zero_newk ?_
    repeat (first | (with_reducible exact hbA) | (with_reducible refine bel_set ?_ (by simp <;> omega) _))
  | true =>
    obtain ⟨xn0, xn9⟩ := hxn rfl
    clear hxn
    have h1 := h0.below hb1
    go_wp2_with fail
    refine ((implcopied_any xn xop a2 l2 c2 a3 l3 c3 a4 l4 c4 xsfn a6 l6 c6 a7 l7 c7 B xsrc xtsk xsn xat xssn _ h1.src.1 h1.tsk.1 h1.sn h1.at_.1 h1.ssn n2 n3 n4 n6 n7 hL.2.2.1.2 hL.2.2.2.2.2).mono (fun e' w' h9 => h9.dis)).mono ?_
    rintro e' w2 ⟨v2, v3, v4, v6, v7, s4, s7, rfl, hD, hb2⟩
    obtain ⟨p2, q2, rfl⟩ := sliceC hD.o2
    obtain ⟨p3, q3, rfl⟩ := sliceC hD.o3
    obtain ⟨p4, q4, rfl⟩ := sliceC hD.o4
    obtain ⟨p6, q6, rfl⟩ := sliceC hD.o6
    obtain ⟨p7, q7, rfl⟩ := sliceC hD.o7
    have z2 : w.heap.size + 1 + 1 < w2.heap.size := by have h9 := hb2.size; omega
    have hY2 := (hb2.block (w.heap.size + 2) z1).trans hY1
    clear y0 f0 c0x y1 f1 c1x y2 f2 c2x y3 f3 c3x y4 f4 c4x y5 f5 c5x y6 f6 c6x y7 f7 c7x
    have y0 : w2.cell? ⟨w.heap.size + 1 + 1, 0, none⟩ = some (.int .i64 0) := by simp [World.cell?, hY2, go_sem]
    have f0 : w2.frozen? ⟨w.heap.size + 1 + 1, 0, none⟩ = false := by simp [World.frozen?, hY2, go_sem]
    have y1 : w2.cell? ⟨w.heap.size + 1 + 1, 1, none⟩ = some (.bool false) := by simp [World.cell?, hY2, go_sem]
    have f1 : w2.frozen? ⟨w.heap.size + 1 + 1, 1, none⟩ = false := by simp [World.frozen?, hY2, go_sem]
    have y2 : w2.cell? ⟨w.heap.size + 1 + 1, 2, none⟩ = some (.slice none 0 0) := by simp [World.cell?, hY2, go_sem]
    have f2 : w2.frozen? ⟨w.heap.size + 1 + 1, 2, none⟩ = false := by simp [World.frozen?, hY2, go_sem]
    have y3 : w2.cell? ⟨w.heap.size + 1 + 1, 3, none⟩ = some (.slice none 0 0) := by simp [World.cell?, hY2, go_sem]
    have f3 : w2.frozen? ⟨w.heap.size + 1 + 1, 3, none⟩ = false := by simp [World.frozen?, hY2, go_sem]
    have y4 : w2.cell? ⟨w.heap.size + 1 + 1, 4, none⟩ = some (.slice none 0 0) := by simp [World.cell?, hY2, go_sem]
    have f4 : w2.frozen? ⟨w.heap.size + 1 + 1, 4, none⟩ = false := by simp [World.frozen?, hY2, go_sem]
    have y5 : w2.cell? ⟨w.heap.size + 1 + 1, 5, none⟩ = some (.int .i64 0) := by simp [World.cell?, hY2, go_sem]
    have f5 : w2.frozen? ⟨w.heap.size + 1 + 1, 5, none⟩ = false := by simp [World.frozen?, hY2, go_sem]
    have y6 : w2.cell? ⟨w.heap.size + 1 + 1, 6, none⟩ = some (.slice none 0 0) := by simp [World.cell?, hY2, go_sem]
    have f6 : w2.frozen? ⟨w.heap.size + 1 + 1, 6, none⟩ = false := by simp [World.frozen?, hY2, go_sem]
    have y7 : w2.cell? ⟨w.heap.size + 1 + 1, 7, none⟩ = some (.slice none 0 0) := by simp [World.cell?, hY2, go_sem]
    have f7 : w2.frozen? ⟨w.heap.size + 1 + 1, 7, none⟩ = false := by simp [World.frozen?, hY2, go_sem]
    have hbB : Below w.heap.size w w2 := bel_trans hbA hb2
    have HD := hide hD
    clear hD hX1 hX0 hY0 hY1 hY2
    have fin : ∀ (F : World) (D : CkD), D.src = xsrc → D.tsk = xtsk → D.sn = xsn → D.at_ = xat → D.ssn = xssn → D.sfn = xsfn → (∀ c, w1.heap.size ≤ c → c < w2.heap.size → F.heap[c]? = w2.heap[c]?) → Below w.heap.size w F → NewK w D (.returned (.agg #[.int .i64 D.n, .bool D.op, .slice p2 xsrc.length q2, .slice p3 xtsk.length q3, .slice p4 s4.length q4, .int .i64 xsfn, .slice p6 xat.length q6, .slice p7 s7.length q7])) F := by
      rintro F ⟨Dn, Dop, Dsrc, Dtsk, Dsn, Dsfn, Dat, Dssn⟩ rfl rfl rfl rfl rfl rfl hk hbF
      exact CkDis.newk (D := ⟨Dn, Dop, _, _, _, _, _, _⟩) (((unhide HD).keepB hk).base (by omega)) hL hbF
    have HFIN := hide fin
    clear fin
    cases xop with
    | false =>
      by_cases hn : xn < 900
      · have hA : askD true ⟨xn, false, xsrc, xtsk, xsn, xsfn, xat, xssn⟩ = ⟨xn + 1, true, xsrc, xtsk, xsn, xsfn, xat, xssn⟩ := by simp [askD, hn]
        have hnD : decide (xn < 900) = true := decide_eq_true hn
        go_wp2
        refine bodyPost_ret (v := .agg #[.int .i64 (xn + 1), .bool true, .slice p2 xsrc.length q2, .slice p3 xtsk.length q3, .slice p4 s4.length q4, .int .i64 xsfn, .slice p6 xat.length q6, .slice p7 s7.length q7]) (by simp (maxDischargeDepth := 9) [results, Try.results18, go_sem, *]) rfl ?_
        rw [hA]
        refine (unhide HFIN) _ ⟨(xn + 1), true, xsrc, xtsk, xsn, xsfn, xat, xssn⟩ rfl rfl rfl rfl rfl rfl ?_ ?_
        · intro c hc1 hc2
          repeat (first | (with_reducible rfl) | (with_reducible refine (Below.heap_setCell _ _ _ _ (by simp; omega)).trans ?_) | (with_reducible refine (Below.heap_alloc _ _ _ (by simp; omega)).trans ?_))
        · repeat (first | (with_reducible exact hbB) | (with_reducible refine bel_set ?_ (by simp <;> omega) _) | (with_reducible refine bel_alloc ?_ _))
      · have hA : askD true ⟨xn, false, xsrc, xtsk, xsn, xsfn, xat, xssn⟩ = ⟨xn, false, xsrc, xtsk, xsn, xsfn, xat, xssn⟩ := by simp [askD, hn]
        have hnD : decide (xn < 900) = false := decide_eq_false hn
        go_wp2
        refine bodyPost_ret (v := .agg #[.int .i64 xn, .bool false, .slice p2 xsrc.length q2, .slice p3 xtsk.length q3, .slice p4 s4.length q4, .int .i64 xsfn, .slice p6 xat.length q6, .slice p7 s7.length q7]) (by simp (maxDischargeDepth := 9) [results, Try.results18, go_sem, *]) rfl ?_
        rw [hA]
        refine (unhide HFIN) _ ⟨xn, false, xsrc, xtsk, xsn, xsfn, xat, xssn⟩ rfl rfl rfl rfl rfl rfl ?_ ?_
        · intro c hc1 hc2
          repeat (first | (with_reducible rfl) | (with_reducible refine (Below.heap_setCell _ _ _ _ (by simp; omega)).trans ?_) | (with_reducible refine (Below.heap_alloc _ _ _ (by simp; omega)).trans ?_))
        · repeat (first | (with_reducible exact hbB) | (with_reducible refine bel_set ?_ (by simp <;> omega) _) | (with_reducible refine bel_alloc ?_ _))
    | true =>
      have hA : askD true ⟨xn, true, xsrc, xtsk, xsn, xsfn, xat, xssn⟩ = ⟨xn, true, xsrc, xtsk, xsn, xsfn, xat, xssn⟩ := by simp [askD]
      go_wp2
      refine bodyPost_ret (v := .agg #[.int .i64 xn, .bool true, .slice p2 xsrc.length q2, .slice p3 xtsk.length q3, .slice p4 s4.length q4, .int .i64 xsfn, .slice p6 xat.length q6, .slice p7 s7.length q7]) (by simp (maxDischargeDepth := 9) [results, Try.results18, go_sem, *]) rfl ?_
      rw [hA]
      refine (unhide HFIN) _ ⟨xn, true, xsrc, xtsk, xsn, xsfn, xat, xssn⟩ rfl rfl rfl rfl rfl rfl ?_ ?_
      · intro c hc1 hc2
        repeat (first | (with_reducible rfl) | (with_reducible refine (Below.heap_setCell _ _ _ _ (by simp; omega)).trans ?_) | (with_reducible refine (Below.heap_alloc _ _ _ (by simp; omega)).trans ?_))
      · repeat (first | (with_reducible exact hbB) | (with_reducible refine bel_set ?_ (by simp <;> omega) _) | (with_reducible refine bel_alloc ?_ _))
end Go.Proofs.Ytiececddlmjalaa
