/- Proved here: what the law on a job's lines draws. -/
import Derived.Test.YtgccnmegbdlefaaDoorAnyJob
import Derived.Test.YtgccnmegbdlefaaDoorJlD
namespace Go.Proofs.YtgccnmegbdlefaaDoor
open Go.ChangeShapes Go.WideShapes Go.ChangeAt Go.RowKit
set_option linter.unusedVariables false
set_option linter.unusedSimpArgs false

theorem drawjobprint_any (a : Option Addr) (len cap : Nat) (w : World) (hlc : len ≤ cap) (hlm : len ≤ 1048576) (hb : BytesAt w a len) (hl : ∀ g o, a = some ⟨g, o, none⟩ → 0 < len → g < w.heap.size) (hn : a = none → cap = 0) : Calls Tryd.prog 6 #[.slice a len cap] w fun e' w' => ∃ (s t k z q l e : Int) (b : Bool) (v r : Int), e' = .returned (.agg #[.int .i64 s, .int .i64 t, .int .i64 k, .int .i64 z, .int .i64 q, .int .i64 l, .int .i64 e, .bool b, .int .i64 v, .int .i64 r]) ∧ Below w.heap.size w w' := by
  have hbX : Below w.heap.size w (w.alloc (.cells #[.int .i64 0, .int .i64 0, .int .i64 0, .int .i64 0, .int .i64 0, .int .i64 0, .int .i64 0, .bool false, .int .i64 0, .int .i64 0] 24)) := bel_one _ _
  have hb' := BytesAt.bel hb hl hbX
  have hl' : ∀ g o, a = some ⟨g, o, none⟩ → 0 < len → g < (w.alloc (.cells #[.int .i64 0, .int .i64 0, .int .i64 0, .int .i64 0, .int .i64 0, .int .i64 0, .int .i64 0, .bool false, .int .i64 0, .int .i64 0] 24)).heap.size := fun g o ha hp => Nat.lt_of_lt_of_le (hl g o ha hp) hbX.size
  go_enter Tryd.func6, Tryd.ntmps6
  go_wp2_with fail
  refine (open_any a len cap _ hlc hlm hb' hl' hn).mono ?_
  rintro e w1 ⟨R, len', cap', rfl, h1, h2, hb1, hr⟩
  have h1' : w.heap.size < R := by simp at h1; omega
  clear hb hb' hl hl'
  have hX1 : w1.heap[w.heap.size]? = some (.cells #[.int .i64 0, .int .i64 0, .int .i64 0, .int .i64 0, .int .i64 0, .int .i64 0, .int .i64 0, .bool false, .int .i64 0, .int .i64 0] 24 (0, 0)) := (hb1.block _ (by simp)).trans (heap_alloc_new _ _)
  go_wp2_with fail
  refine (anyjob_any R a len' cap' 0 6 w1 (by decide) (by decide) (by decide) h2 hr).mono ?_
  rintro e' w2 ⟨s, t, k, z, q, l, e, b, v, r, rfl, k2, p2, hp2, hr2⟩
  have hX2 : w2.heap[w.heap.size]? = some (.cells #[.int .i64 0, .int .i64 0, .int .i64 0, .int .i64 0, .int .i64 0, .int .i64 0, .int .i64 0, .bool false, .int .i64 0, .int .i64 0] 24 (0, 0)) := (k2.all _ (by omega) (by omega)).trans hX1
  have h3 := k2.low.size
  have h4 : w.heap.size < w2.heap.size := heap_lt hX2
  have hbF : Below w.heap.size w w2 := bel_trans hbX (hb1.trans (k2.low.mono h1))
  clear hr hr2 hX1
  obtain ⟨y0, h0⟩ := cells_blk (n := 0) hX2 0
  obtain ⟨y1, h1⟩ := cells_blk (n := 0) hX2 1
  obtain ⟨y2, h2⟩ := cells_blk (n := 0) hX2 2
  obtain ⟨y3, h3⟩ := cells_blk (n := 0) hX2 3
  obtain ⟨y4, h4⟩ := cells_blk (n := 0) hX2 4
  obtain ⟨y5, h5⟩ := cells_blk (n := 0) hX2 5
  obtain ⟨y6, h6⟩ := cells_blk (n := 0) hX2 6
  obtain ⟨y7, h7⟩ := cells_blk (n := 0) hX2 7
  obtain ⟨y8, h8⟩ := cells_blk (n := 0) hX2 8
  obtain ⟨y9, h9⟩ := cells_blk (n := 0) hX2 9
  simp only [List.getElem?_toArray, List.getElem?_cons_zero, List.getElem?_cons_succ] at y0 y1 y2 y3 y4 y5 y6 y7 y8 y9
  clear hX2
  go_wp2
  refine bodyPost_ret (v := .agg #[.int .i64 s, .int .i64 t, .int .i64 k, .int .i64 z, .int .i64 q, .int .i64 l, .int .i64 e, .bool b, .int .i64 v, .int .i64 r]) (by simp (maxDischargeDepth := 9) [results, Tryd.results6, go_sem, *]) rfl ⟨s, t, k, z, q, l, e, b, v, r, rfl, (bel_set (bel_set (bel_set (bel_set (bel_set (bel_set (bel_set (bel_set (bel_set (bel_set hbF (by simp) _) (by simp) _) (by simp) _) (by simp) _) (by simp) _) (by simp) _) (by simp) _) (by simp) _) (by simp) _) (by simp) _)⟩
theorem drawjobparse_any (a : Option Addr) (len cap : Nat) (w : World) (hlc : len ≤ cap) (hlm : len ≤ 1048576) (hb : BytesAt w a len) (hl : ∀ g o, a = some ⟨g, o, none⟩ → 0 < len → g < w.heap.size) (hn : a = none → cap = 0) : Calls Tryd.prog 8 #[.slice a len cap] w fun e w' => ∃ (v : Value) (L : List ByteArray), e = .returned v ∧ OwnSt w' w.heap.size v (stL L) ∧ L.length ≤ 11 ∧ (∀ x ∈ L, x.size ≤ 1000) ∧ Below w.heap.size w w' := by
  go_enter Tryd.func8, Tryd.ntmps8
  go_wp2_with fail
  refine (open_any a len cap _ hlc hlm hb hl hn).mono ?_
  rintro e w1 ⟨R, len', cap', rfl, h1, h2, hb1, hr⟩
  have z1 := hb1.size
  clear hb hl
  go_wp2_with fail
  refine (joblines_any R a len' cap' w1 h2 hr).mono ?_
  rintro e' w2 ⟨v, L, rfl, hO, hL, hs, k2⟩
  clear hr
  go_wp2_with fail
  go_ret
  exact ⟨v, L, rfl, World.ownsRow.mono hO z1, hL, hs, hb1.trans (k2.low.mono (by omega))⟩
end Go.Proofs.YtgccnmegbdlefaaDoor
