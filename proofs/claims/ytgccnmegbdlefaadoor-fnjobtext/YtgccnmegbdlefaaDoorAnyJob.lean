/- Proved here: any job is drawn. -/
import Derived.Test.YtgccnmegbdlefaaDoorDrawJob
namespace Go.Proofs.YtgccnmegbdlefaaDoor
open Go.ChangeShapes Go.WideShapes Go.ChangeAt Go.RowKit
set_option linter.unusedVariables false

theorem elm1_0_3_4_5_21_10_1_ (y : Int) (h3 : 0 ≤ y) (h4 : y < 8) : ∃ t : Int, (#[Value.int .i64 (-1), Value.int .i64 0, Value.int .i64 3, Value.int .i64 4, Value.int .i64 5, Value.int .i64 21, Value.int .i64 10, Value.int .i64 1] : Array Value)[y.toNat]? = some (.int .i64 t) ∧ (-1) ≤ t ∧ t ≤ 21 := by
  obtain rfl | rfl | rfl | rfl | rfl | rfl | rfl | rfl : y = 0 ∨ y = 1 ∨ y = 2 ∨ y = 3 ∨ y = 4 ∨ y = 5 ∨ y = 6 ∨ y = 7 := by omega
  · exact ⟨(-1), rfl, by decide, by decide⟩
  · exact ⟨0, rfl, by decide, by decide⟩
  · exact ⟨3, rfl, by decide, by decide⟩
  · exact ⟨4, rfl, by decide, by decide⟩
  · exact ⟨5, rfl, by decide, by decide⟩
  · exact ⟨21, rfl, by decide, by decide⟩
  · exact ⟨10, rfl, by decide, by decide⟩
  · exact ⟨1, rfl, by decide, by decide⟩

def AnyJobP (R : Nat) (w : World) (a : Option Addr) (len cap p : Nat) (e' : Ending) (w' : World) : Prop := ∃ (s t k z q l e : Int) (b : Bool) (v r : Int), e' = .returned (.agg #[.int .i64 s, .int .i64 t, .int .i64 k, .int .i64 z, .int .i64 q, .int .i64 l, .int .i64 e, .bool b, .int .i64 v, .int .i64 r]) ∧ Kp R w w' ∧ ∃ p', p' ≤ p + 14 ∧ Rd R w' a len cap p'

set_option linter.unusedSimpArgs false in
set_option maxRecDepth 20000 in
set_option maxHeartbeats 16000000 in
theorem anyjob_any (R : Nat) (a : Option Addr) (len cap p : Nat) (n : Int) (w : World) (hn : 1 ≤ n) (hn2 : n ≤ 100000) (hp : p ≤ 800000) (hR0 : R < w.heap.size) (h : Rd R w a len cap p) : Calls Tryd.prog 21 #[.pointer (some ⟨R, 0, none⟩), .int .i64 n] w fun e w' => AnyJobP R w a len cap p e w' := by
  have hb0 : Below w.heap.size w (w.alloc (.cells #[.int .i64 0, .int .i64 0, .int .i64 0, .int .i64 0, .int .i64 0, .int .i64 0, .int .i64 0, .bool false, .int .i64 0, .int .i64 0] 24)) := bel_one _ _
  have k0 : Kp R w (w.alloc (.cells #[.int .i64 0, .int .i64 0, .int .i64 0, .int .i64 0, .int .i64 0, .int .i64 0, .int .i64 0, .bool false, .int .i64 0, .int .i64 0] 24)) := Kp.of_bel (Nat.le_of_lt hR0) hb0
  have hn0 : w.heap.size ≠ R := by omega
  go_enter Tryd.func21, Tryd.ntmps21
  go_wp2_with fail
  refine (job_any R a len cap p _ (by omega) (by simp; omega) (h.kp hR0 hb0)).mono ?_
  rintro e' wa ⟨s, t, k, z, q, l, e, b, v, r, rfl, ka, pa, hpa, da⟩
  have za : w.heap.size < wa.heap.size := by have h9 := ka.low.size; simp at h9; omega
  have hBa : Below wa.heap.size wa (wa.alloc (.cells #[.int .i64 s, .int .i64 t, .int .i64 k, .int .i64 z, .int .i64 q, .int .i64 l, .int .i64 e, .bool b, .int .i64 v, .int .i64 r] 24)) := bel_one _ _
  have hRa : (wa.alloc (.cells #[.int .i64 s, .int .i64 t, .int .i64 k, .int .i64 z, .int .i64 q, .int .i64 l, .int .i64 e, .bool b, .int .i64 v, .int .i64 r] 24)).heap[w.heap.size]? = some (.cells #[.int .i64 0, .int .i64 0, .int .i64 0, .int .i64 0, .int .i64 0, .int .i64 0, .int .i64 0, .bool false, .int .i64 0, .int .i64 0] 24 (0, 0)) := (hBa.block _ za).trans ((ka.all _ (by simp) hn0).trans (heap_alloc_new _ _))
  have hXa : (wa.alloc (.cells #[.int .i64 s, .int .i64 t, .int .i64 k, .int .i64 z, .int .i64 q, .int .i64 l, .int .i64 e, .bool b, .int .i64 v, .int .i64 r] 24)).heap[wa.heap.size]? = some (.cells #[.int .i64 s, .int .i64 t, .int .i64 k, .int .i64 z, .int .i64 q, .int .i64 l, .int .i64 e, .bool b, .int .i64 v, .int .i64 r] 24 (0, 0)) := heap_alloc_new _ _
  have HD := hide (da.kp (by omega) hBa)
  have HK := hide ((k0.trans ka).trans (Kp.of_bel (by omega) hBa))
  clear da ka
  go_wp2_with fail
  refine (pick_any R a len cap pa n _ hn hn2 (unhide HD)).mono ?_
  rintro e' wb ⟨x, rfl, x0', x1', kb, rb⟩
  have zb : wa.heap.size < wb.heap.size := by have h9 := kb.low.size; simp at h9; omega
  have hRb : wb.heap[w.heap.size]? = some (.cells #[.int .i64 0, .int .i64 0, .int .i64 0, .int .i64 0, .int .i64 0, .int .i64 0, .int .i64 0, .bool false, .int .i64 0, .int .i64 0] 24 (0, 0)) := (kb.all _ (by simp; omega) hn0).trans hRa
  have hXb : wb.heap[wa.heap.size]? = some (.cells #[.int .i64 s, .int .i64 t, .int .i64 k, .int .i64 z, .int .i64 q, .int .i64 l, .int .i64 e, .bool b, .int .i64 v, .int .i64 r] 24 (0, 0)) := (kb.all _ (by simp) (by omega)).trans hXa
  have hKb := hide ((unhide HK).trans kb)
  have hDb := hide (rb (by omega))
  clear HK HD kb rb hRa hXa
  have ne1 : w.heap.size ≠ wa.heap.size := by omega
  have ne2 : wa.heap.size ≠ w.heap.size := by omega
  by_cases hx : 0 < x
  · have hK := unhide hKb
    have hD := unhide hDb
    have hP : pa + 1 ≤ p + 14 := by omega
    clear hKb hDb
    obtain ⟨x0, f0⟩ := cells_blk (n := 0) hXb 0
    obtain ⟨x1, f1⟩ := cells_blk (n := 0) hXb 1
    obtain ⟨x2, f2⟩ := cells_blk (n := 0) hXb 2
    obtain ⟨x3, f3⟩ := cells_blk (n := 0) hXb 3
    obtain ⟨x4, f4⟩ := cells_blk (n := 0) hXb 4
    obtain ⟨x5, f5⟩ := cells_blk (n := 0) hXb 5
    obtain ⟨x6, f6⟩ := cells_blk (n := 0) hXb 6
    obtain ⟨x7, f7⟩ := cells_blk (n := 0) hXb 7
    obtain ⟨x8, f8⟩ := cells_blk (n := 0) hXb 8
    obtain ⟨x9, f9⟩ := cells_blk (n := 0) hXb 9
    simp only [List.getElem?_toArray, List.getElem?_cons_zero, List.getElem?_cons_succ] at x0 x1 x2 x3 x4 x5 x6 x7 x8 x9
    obtain ⟨y0, h0⟩ := cells_blk (n := 0) hRb 0
    obtain ⟨y1, h1⟩ := cells_blk (n := 0) hRb 1
    obtain ⟨y2, h2⟩ := cells_blk (n := 0) hRb 2
    obtain ⟨y3, h3⟩ := cells_blk (n := 0) hRb 3
    obtain ⟨y4, h4⟩ := cells_blk (n := 0) hRb 4
    obtain ⟨y5, h5⟩ := cells_blk (n := 0) hRb 5
    obtain ⟨y6, h6⟩ := cells_blk (n := 0) hRb 6
    obtain ⟨y7, h7⟩ := cells_blk (n := 0) hRb 7
    obtain ⟨y8, h8⟩ := cells_blk (n := 0) hRb 8
    obtain ⟨y9, h9⟩ := cells_blk (n := 0) hRb 9
    simp only [List.getElem?_toArray, List.getElem?_cons_zero, List.getElem?_cons_succ] at y0 y1 y2 y3 y4 y5 y6 y7 y8 y9
    have y9 := y9
    have HH := hide (And.intro hK hD)
    clear hK hD
    go_wp2
    obtain ⟨hK, hD⟩ := unhide HH
    refine bodyPost_ret (v := .agg #[.int .i64 s, .int .i64 t, .int .i64 k, .int .i64 z, .int .i64 q, .int .i64 l, .int .i64 e, .bool b, .int .i64 v, .int .i64 r]) (by simp (maxDischargeDepth := 9) [results, Tryd.results21, go_sem, *]) rfl ?_
    exact ⟨_, _, _, _, _, _, _, _, _, _, rfl, (kp_setB (kp_setB (kp_setB (kp_setB (kp_setB (kp_setB (kp_setB (kp_setB (kp_setB (kp_setB hK hR0 (Nat.le_refl _)) hR0 (Nat.le_refl _)) hR0 (Nat.le_refl _)) hR0 (Nat.le_refl _)) hR0 (Nat.le_refl _)) hR0 (Nat.le_refl _)) hR0 (Nat.le_refl _)) hR0 (Nat.le_refl _)) hR0 (Nat.le_refl _)) hR0 (Nat.le_refl _)), _, hP, (rd_setB (rd_setB (rd_setB (rd_setB (rd_setB (rd_setB (rd_setB (rd_setB (rd_setB (rd_setB hD hR0) hR0) hR0) hR0) hR0) hR0) hR0) hR0) hR0) hR0)⟩
  · have hx0 : x = 0 := by omega
    subst hx0
    have hBb : Below wb.heap.size wb (wb.alloc (.cells #[.int .i64 (-1), .int .i64 0, .int .i64 3, .int .i64 4, .int .i64 5, .int .i64 21, .int .i64 10, .int .i64 1] 3)) := bel_one _ _
    go_wp2_with fail
    refine (pick_any R a len cap (pa + 1) 8 _ (by decide) (by decide) ((unhide hDb).kp (by omega) hBb)).mono ?_
    rintro e' wc ⟨x, rfl, xx0, xx1, kc, rc⟩
    have hS : wc.heap[wb.heap.size]? = some (.cells #[.int .i64 (-1), .int .i64 0, .int .i64 3, .int .i64 4, .int .i64 5, .int .i64 21, .int .i64 10, .int .i64 1] 3 (0, 0)) := (kc.all _ (by simp) (by omega)).trans (heap_alloc_new _ _)
    obtain ⟨t9, hz, zl, zu⟩ := elm1_0_3_4_5_21_10_1_ x xx0 xx1
    have hc9 := (cells_blk (n := 0) hS x.toNat).1.trans hz
    have hix1 : ¬ x < 0 := by omega
    have hix2 : x.toNat < 8 := by omega
    have hix3 : x < 8 := xx1
    have zc : wb.heap.size < wc.heap.size := by have h9 := kc.low.size; simp at h9; omega
    have hRc : wc.heap[w.heap.size]? = some (.cells #[.int .i64 0, .int .i64 0, .int .i64 0, .int .i64 0, .int .i64 0, .int .i64 0, .int .i64 0, .bool false, .int .i64 0, .int .i64 0] 24 (0, 0)) := (kc.all _ (by simp; omega) hn0).trans ((hBb.block _ (by omega)).trans hRb)
    have hXc : wc.heap[wa.heap.size]? = some (.cells #[.int .i64 s, .int .i64 t, .int .i64 k, .int .i64 z, .int .i64 q, .int .i64 l, .int .i64 e, .bool b, .int .i64 v, .int .i64 r] 24 (0, 0)) := (kc.all _ (by simp; omega) (by omega)).trans ((hBb.block _ (by omega)).trans hXb)
    have hKc := hide (((unhide hKb).trans (Kp.of_bel (by omega) hBb)).trans kc)
    have hDc := hide (rc (by omega))
    clear hKb hDb kc rc hRb hXb hS hz
    go_wp2_with fail
    refine (pick_any R a len cap (pa + 1 + 1) 9 _ (by decide) (by decide) (unhide hDc)).mono ?_
    rintro e' wd ⟨y, rfl, yy0, yy1, kd, rd⟩
    have zd : wc.heap.size ≤ wd.heap.size := kd.low.size
    have hRd : wd.heap[w.heap.size]? = some (.cells #[.int .i64 0, .int .i64 0, .int .i64 0, .int .i64 0, .int .i64 0, .int .i64 0, .int .i64 0, .bool false, .int .i64 0, .int .i64 0] 24 (0, 0)) := (kd.all _ (by omega) hn0).trans hRc
    have hXd : wd.heap[wa.heap.size]? = some (.cells #[.int .i64 s, .int .i64 t, .int .i64 k, .int .i64 z, .int .i64 q, .int .i64 l, .int .i64 e, .bool b, .int .i64 v, .int .i64 r] 24 (0, 0)) := (kd.all _ (by omega) (by omega)).trans hXc
    have hKd := hide ((unhide hKc).trans kd)
    have hDd := hide (rd (by omega))
    clear hKc hDc kd rd hRc hXc hc9
    have hP : pa + 1 + 1 + 1 ≤ p + 14 := by omega
    have lt1 : w.heap.size < wd.heap.size := by omega
    have lt2 : wa.heap.size < wd.heap.size := by omega
    have HX := hide hXd
    have HR := hide hRd
    obtain ⟨x0, f0⟩ := cells_blk (n := 0) hXd 0
    obtain ⟨x1, f1⟩ := cells_blk (n := 0) hXd 1
    obtain ⟨x2, f2⟩ := cells_blk (n := 0) hXd 2
    obtain ⟨x3, f3⟩ := cells_blk (n := 0) hXd 3
    obtain ⟨x4, f4⟩ := cells_blk (n := 0) hXd 4
    obtain ⟨x5, f5⟩ := cells_blk (n := 0) hXd 5
    obtain ⟨x6, f6⟩ := cells_blk (n := 0) hXd 6
    obtain ⟨x7, f7⟩ := cells_blk (n := 0) hXd 7
    obtain ⟨x8, f8⟩ := cells_blk (n := 0) hXd 8
    obtain ⟨x9, f9⟩ := cells_blk (n := 0) hXd 9
    simp only [List.getElem?_toArray, List.getElem?_cons_zero, List.getElem?_cons_succ] at x0 x1 x2 x3 x4 x5 x6 x7 x8 x9
    obtain ⟨y0, h0⟩ := cells_blk (n := 0) hRd 0
    obtain ⟨y1, h1⟩ := cells_blk (n := 0) hRd 1
    obtain ⟨y2, h2⟩ := cells_blk (n := 0) hRd 2
    obtain ⟨y3, h3⟩ := cells_blk (n := 0) hRd 3
    obtain ⟨y4, h4⟩ := cells_blk (n := 0) hRd 4
    obtain ⟨y5, h5⟩ := cells_blk (n := 0) hRd 5
    obtain ⟨y6, h6⟩ := cells_blk (n := 0) hRd 6
    obtain ⟨y7, h7⟩ := cells_blk (n := 0) hRd 7
    obtain ⟨y8, h8⟩ := cells_blk (n := 0) hRd 8
    obtain ⟨y9, h9⟩ := cells_blk (n := 0) hRd 9
    simp only [List.getElem?_toArray, List.getElem?_cons_zero, List.getElem?_cons_succ] at y0 y1 y2 y3 y4 y5 y6 y7 y8 y9
    clear hXd hRd
    have HH := hide (And.intro (unhide hKd) (unhide hDd))
    clear hKd hDd
    obtain rfl | rfl | rfl | rfl | rfl | rfl | rfl | rfl | rfl : y = 0 ∨ y = 1 ∨ y = 2 ∨ y = 3 ∨ y = 4 ∨ y = 5 ∨ y = 6 ∨ y = 7 ∨ y = 8 := by omega
    · go_wp2
      obtain ⟨hK, hD⟩ := unhide HH
      refine bodyPost_ret (v := .agg #[.int .i64 t9, .int .i64 t, .int .i64 k, .int .i64 z, .int .i64 q, .int .i64 l, .int .i64 e, .bool b, .int .i64 v, .int .i64 r]) (by simp (maxDischargeDepth := 9) [results, Tryd.results21, go_sem, *]) rfl ?_
      exact ⟨_, _, _, _, _, _, _, _, _, _, rfl, (kp_setB (kp_setB (kp_setB (kp_setB (kp_setB (kp_setB (kp_setB (kp_setB (kp_setB (kp_setB (kp_setB (o := 0) (B := wa.heap.size) hK (by omega) (by omega)) hR0 (Nat.le_refl _)) hR0 (Nat.le_refl _)) hR0 (Nat.le_refl _)) hR0 (Nat.le_refl _)) hR0 (Nat.le_refl _)) hR0 (Nat.le_refl _)) hR0 (Nat.le_refl _)) hR0 (Nat.le_refl _)) hR0 (Nat.le_refl _)) hR0 (Nat.le_refl _)), _, hP, (rd_setB (rd_setB (rd_setB (rd_setB (rd_setB (rd_setB (rd_setB (rd_setB (rd_setB (rd_setB (rd_setB (o := 0) (B := wa.heap.size) hD (by omega)) hR0) hR0) hR0) hR0) hR0) hR0) hR0) hR0) hR0) hR0)⟩
    · go_wp2
      obtain ⟨hK, hD⟩ := unhide HH
      refine bodyPost_ret (v := .agg #[.int .i64 s, .int .i64 t9, .int .i64 k, .int .i64 z, .int .i64 q, .int .i64 l, .int .i64 e, .bool b, .int .i64 v, .int .i64 r]) (by simp (maxDischargeDepth := 9) [results, Tryd.results21, go_sem, *]) rfl ?_
      exact ⟨_, _, _, _, _, _, _, _, _, _, rfl, (kp_setB (kp_setB (kp_setB (kp_setB (kp_setB (kp_setB (kp_setB (kp_setB (kp_setB (kp_setB (kp_setB (o := 1) (B := wa.heap.size) hK (by omega) (by omega)) hR0 (Nat.le_refl _)) hR0 (Nat.le_refl _)) hR0 (Nat.le_refl _)) hR0 (Nat.le_refl _)) hR0 (Nat.le_refl _)) hR0 (Nat.le_refl _)) hR0 (Nat.le_refl _)) hR0 (Nat.le_refl _)) hR0 (Nat.le_refl _)) hR0 (Nat.le_refl _)), _, hP, (rd_setB (rd_setB (rd_setB (rd_setB (rd_setB (rd_setB (rd_setB (rd_setB (rd_setB (rd_setB (rd_setB (o := 1) (B := wa.heap.size) hD (by omega)) hR0) hR0) hR0) hR0) hR0) hR0) hR0) hR0) hR0) hR0)⟩
    · go_wp2
      obtain ⟨hK, hD⟩ := unhide HH
      refine bodyPost_ret (v := .agg #[.int .i64 s, .int .i64 t, .int .i64 t9, .int .i64 z, .int .i64 q, .int .i64 l, .int .i64 e, .bool b, .int .i64 v, .int .i64 r]) (by simp (maxDischargeDepth := 9) [results, Tryd.results21, go_sem, *]) rfl ?_
      exact ⟨_, _, _, _, _, _, _, _, _, _, rfl, (kp_setB (kp_setB (kp_setB (kp_setB (kp_setB (kp_setB (kp_setB (kp_setB (kp_setB (kp_setB (kp_setB (o := 2) (B := wa.heap.size) hK (by omega) (by omega)) hR0 (Nat.le_refl _)) hR0 (Nat.le_refl _)) hR0 (Nat.le_refl _)) hR0 (Nat.le_refl _)) hR0 (Nat.le_refl _)) hR0 (Nat.le_refl _)) hR0 (Nat.le_refl _)) hR0 (Nat.le_refl _)) hR0 (Nat.le_refl _)) hR0 (Nat.le_refl _)), _, hP, (rd_setB (rd_setB (rd_setB (rd_setB (rd_setB (rd_setB (rd_setB (rd_setB (rd_setB (rd_setB (rd_setB (o := 2) (B := wa.heap.size) hD (by omega)) hR0) hR0) hR0) hR0) hR0) hR0) hR0) hR0) hR0) hR0)⟩
    · go_wp2
      obtain ⟨hK, hD⟩ := unhide HH
      refine bodyPost_ret (v := .agg #[.int .i64 s, .int .i64 t, .int .i64 k, .int .i64 t9, .int .i64 q, .int .i64 l, .int .i64 e, .bool b, .int .i64 v, .int .i64 r]) (by simp (maxDischargeDepth := 9) [results, Tryd.results21, go_sem, *]) rfl ?_
      exact ⟨_, _, _, _, _, _, _, _, _, _, rfl, (kp_setB (kp_setB (kp_setB (kp_setB (kp_setB (kp_setB (kp_setB (kp_setB (kp_setB (kp_setB (kp_setB (o := 3) (B := wa.heap.size) hK (by omega) (by omega)) hR0 (Nat.le_refl _)) hR0 (Nat.le_refl _)) hR0 (Nat.le_refl _)) hR0 (Nat.le_refl _)) hR0 (Nat.le_refl _)) hR0 (Nat.le_refl _)) hR0 (Nat.le_refl _)) hR0 (Nat.le_refl _)) hR0 (Nat.le_refl _)) hR0 (Nat.le_refl _)), _, hP, (rd_setB (rd_setB (rd_setB (rd_setB (rd_setB (rd_setB (rd_setB (rd_setB (rd_setB (rd_setB (rd_setB (o := 3) (B := wa.heap.size) hD (by omega)) hR0) hR0) hR0) hR0) hR0) hR0) hR0) hR0) hR0) hR0)⟩
    · go_wp2
      obtain ⟨hK, hD⟩ := unhide HH
      refine bodyPost_ret (v := .agg #[.int .i64 s, .int .i64 t, .int .i64 k, .int .i64 z, .int .i64 t9, .int .i64 l, .int .i64 e, .bool b, .int .i64 v, .int .i64 r]) (by simp (maxDischargeDepth := 9) [results, Tryd.results21, go_sem, *]) rfl ?_
      exact ⟨_, _, _, _, _, _, _, _, _, _, rfl, (kp_setB (kp_setB (kp_setB (kp_setB (kp_setB (kp_setB (kp_setB (kp_setB (kp_setB (kp_setB (kp_setB (o := 4) (B := wa.heap.size) hK (by omega) (by omega)) hR0 (Nat.le_refl _)) hR0 (Nat.le_refl _)) hR0 (Nat.le_refl _)) hR0 (Nat.le_refl _)) hR0 (Nat.le_refl _)) hR0 (Nat.le_refl _)) hR0 (Nat.le_refl _)) hR0 (Nat.le_refl _)) hR0 (Nat.le_refl _)) hR0 (Nat.le_refl _)), _, hP, (rd_setB (rd_setB (rd_setB (rd_setB (rd_setB (rd_setB (rd_setB (rd_setB (rd_setB (rd_setB (rd_setB (o := 4) (B := wa.heap.size) hD (by omega)) hR0) hR0) hR0) hR0) hR0) hR0) hR0) hR0) hR0) hR0)⟩
    · go_wp2
      obtain ⟨hK, hD⟩ := unhide HH
      refine bodyPost_ret (v := .agg #[.int .i64 s, .int .i64 t, .int .i64 k, .int .i64 z, .int .i64 q, .int .i64 t9, .int .i64 e, .bool b, .int .i64 v, .int .i64 r]) (by simp (maxDischargeDepth := 9) [results, Tryd.results21, go_sem, *]) rfl ?_
      exact ⟨_, _, _, _, _, _, _, _, _, _, rfl, (kp_setB (kp_setB (kp_setB (kp_setB (kp_setB (kp_setB (kp_setB (kp_setB (kp_setB (kp_setB (kp_setB (o := 5) (B := wa.heap.size) hK (by omega) (by omega)) hR0 (Nat.le_refl _)) hR0 (Nat.le_refl _)) hR0 (Nat.le_refl _)) hR0 (Nat.le_refl _)) hR0 (Nat.le_refl _)) hR0 (Nat.le_refl _)) hR0 (Nat.le_refl _)) hR0 (Nat.le_refl _)) hR0 (Nat.le_refl _)) hR0 (Nat.le_refl _)), _, hP, (rd_setB (rd_setB (rd_setB (rd_setB (rd_setB (rd_setB (rd_setB (rd_setB (rd_setB (rd_setB (rd_setB (o := 5) (B := wa.heap.size) hD (by omega)) hR0) hR0) hR0) hR0) hR0) hR0) hR0) hR0) hR0) hR0)⟩
    · go_wp2
      obtain ⟨hK, hD⟩ := unhide HH
      refine bodyPost_ret (v := .agg #[.int .i64 s, .int .i64 t, .int .i64 k, .int .i64 z, .int .i64 q, .int .i64 l, .int .i64 t9, .bool b, .int .i64 v, .int .i64 r]) (by simp (maxDischargeDepth := 9) [results, Tryd.results21, go_sem, *]) rfl ?_
      exact ⟨_, _, _, _, _, _, _, _, _, _, rfl, (kp_setB (kp_setB (kp_setB (kp_setB (kp_setB (kp_setB (kp_setB (kp_setB (kp_setB (kp_setB (kp_setB (o := 6) (B := wa.heap.size) hK (by omega) (by omega)) hR0 (Nat.le_refl _)) hR0 (Nat.le_refl _)) hR0 (Nat.le_refl _)) hR0 (Nat.le_refl _)) hR0 (Nat.le_refl _)) hR0 (Nat.le_refl _)) hR0 (Nat.le_refl _)) hR0 (Nat.le_refl _)) hR0 (Nat.le_refl _)) hR0 (Nat.le_refl _)), _, hP, (rd_setB (rd_setB (rd_setB (rd_setB (rd_setB (rd_setB (rd_setB (rd_setB (rd_setB (rd_setB (rd_setB (o := 6) (B := wa.heap.size) hD (by omega)) hR0) hR0) hR0) hR0) hR0) hR0) hR0) hR0) hR0) hR0)⟩
    · go_wp2
      obtain ⟨hK, hD⟩ := unhide HH
      refine bodyPost_ret (v := .agg #[.int .i64 s, .int .i64 t, .int .i64 k, .int .i64 z, .int .i64 q, .int .i64 l, .int .i64 e, .bool b, .int .i64 (t9 * 2), .int .i64 r]) (by simp (maxDischargeDepth := 9) [results, Tryd.results21, go_sem, *]) rfl ?_
      exact ⟨_, _, _, _, _, _, _, _, _, _, rfl, (kp_setB (kp_setB (kp_setB (kp_setB (kp_setB (kp_setB (kp_setB (kp_setB (kp_setB (kp_setB (kp_setB (o := 8) (B := wa.heap.size) hK (by omega) (by omega)) hR0 (Nat.le_refl _)) hR0 (Nat.le_refl _)) hR0 (Nat.le_refl _)) hR0 (Nat.le_refl _)) hR0 (Nat.le_refl _)) hR0 (Nat.le_refl _)) hR0 (Nat.le_refl _)) hR0 (Nat.le_refl _)) hR0 (Nat.le_refl _)) hR0 (Nat.le_refl _)), _, hP, (rd_setB (rd_setB (rd_setB (rd_setB (rd_setB (rd_setB (rd_setB (rd_setB (rd_setB (rd_setB (rd_setB (o := 8) (B := wa.heap.size) hD (by omega)) hR0) hR0) hR0) hR0) hR0) hR0) hR0) hR0) hR0) hR0)⟩
    · go_wp2
      obtain ⟨hK, hD⟩ := unhide HH
      refine bodyPost_ret (v := .agg #[.int .i64 s, .int .i64 t, .int .i64 k, .int .i64 z, .int .i64 q, .int .i64 l, .int .i64 e, .bool b, .int .i64 v, .int .i64 t9]) (by simp (maxDischargeDepth := 9) [results, Tryd.results21, go_sem, *]) rfl ?_
      exact ⟨_, _, _, _, _, _, _, _, _, _, rfl, (kp_setB (kp_setB (kp_setB (kp_setB (kp_setB (kp_setB (kp_setB (kp_setB (kp_setB (kp_setB (kp_setB (o := 9) (B := wa.heap.size) hK (by omega) (by omega)) hR0 (Nat.le_refl _)) hR0 (Nat.le_refl _)) hR0 (Nat.le_refl _)) hR0 (Nat.le_refl _)) hR0 (Nat.le_refl _)) hR0 (Nat.le_refl _)) hR0 (Nat.le_refl _)) hR0 (Nat.le_refl _)) hR0 (Nat.le_refl _)) hR0 (Nat.le_refl _)), _, hP, (rd_setB (rd_setB (rd_setB (rd_setB (rd_setB (rd_setB (rd_setB (rd_setB (rd_setB (rd_setB (rd_setB (o := 9) (B := wa.heap.size) hD (by omega)) hR0) hR0) hR0) hR0) hR0) hR0) hR0) hR0) hR0) hR0)⟩

end Go.Proofs.YtgccnmegbdlefaaDoor
