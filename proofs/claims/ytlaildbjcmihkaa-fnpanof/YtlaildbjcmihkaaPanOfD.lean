/- Proved here: panes, a key and a window are drawn; panes that are the same are alike. -/
import Derived.Test.YtlaildbjcmihkaaPaneD
import Derived.Test.YtlaildbjcmihkaaFrOk
import Derived.BigQuiet
namespace Go.Proofs.Ytlaildbjcmihkaa
open Go.ChangeShapes Go.WideShapes Go.ChangeAt Go.RowKit
set_option linter.unusedVariables false

/-- Panes, a key and a window, drawn. -/
def PanD (w : World) (e' : Ending) (w' : World) : Prop := ∃ (a5 : Option Addr) (c5 : Nat) (xs : List PnR) (ky : Int), e' = .returned (.tuple #[.slice a5 xs.length c5, .int .i64 ky, .agg #[.int .i64 0, .int .i64 5]]) ∧ PnRs w' a5 xs.length xs ∧ xs.length ≤ 8 ∧ Below w.heap.size w w'
set_option linter.unusedSimpArgs false in
set_option maxRecDepth 20000 in
theorem drawpanof_any (a : Option Addr) (len cap : Nat) (w : World) (hlc : len ≤ cap) (hlm : len ≤ 1048576) (hb : BytesAt w a len) (hl : ∀ g o, a = some ⟨g, o, none⟩ → 0 < len → g < w.heap.size) (hn : a = none → cap = 0) : Calls Try.prog 4 #[.slice a len cap] w fun e w' => PanD w e w' := by
  have hbX : Below w.heap.size w (w.alloc (.cells #[.int .i64 0, .int .i64 0] 25)) := bel_one _ _
  have hb' := BytesAt.bel hb hl hbX
  have hl' : ∀ g o, a = some ⟨g, o, none⟩ → 0 < len → g < (w.alloc (.cells #[.int .i64 0, .int .i64 0] 25)).heap.size := fun g o ha hp => Nat.lt_of_lt_of_le (hl g o ha hp) hbX.size
  go_enter Try.func4, Try.ntmps4
  go_wp2_with fail
  refine (open_any a len cap _ hlc hlm hb' hl' hn).mono ?_
  rintro e w1 ⟨R, len', cap', rfl, h1, h2, hb1, hr⟩
  have h1' : w.heap.size < R := by simp at h1; omega
  clear hb hb' hl hl'
  have hX1 : w1.heap[w.heap.size]? = some (.cells #[.int .i64 0, .int .i64 0] 25 (0, 0)) := (hb1.block _ (by simp)).trans (heap_alloc_new _ _)
  go_wp2_with fail
  refine (panes_any R a len' cap' 0 w1 (by decide) h2 hr).mono ?_
  rintro e' w2 ⟨v, xs, rfl, hO, hxl, k2, p2, hp2, hr2⟩
  have hX2 := (k2.all _ (by omega) (by omega)).trans hX1
  have h3 := k2.low.size
  have HR := hide hr2
  have HO := hide hO
  clear hr hr2 hX1 hO
  go_wp2_with fail
  refine (pick_any R a len' cap' p2 3 w2 (by decide) (by decide) (unhide HR)).mono ?_
  rintro e' w3 ⟨x, rfl, xl, xu, k3, hr3⟩
  have hX3 := (k3.all _ (by omega) (by omega)).trans hX2
  have h4 : w.heap.size < w3.heap.size := heap_lt hX3
  have hbF : Below w.heap.size w w3 := bel_trans hbX ((hb1.trans (k2.low.mono h1)).trans (k3.low.mono h1))
  have hO3 := ownPn_kp (unhide HO) k3 h2
  obtain ⟨a5, c5, rfl, _, _, _⟩ := holdPn hO3 (by omega)
  have HO3 := hide hO3
  clear HR hr3 hX2 HO hO3
  obtain ⟨y0, f0⟩ := cells_blk (n := 0) hX3 0
  obtain ⟨y1, f1⟩ := cells_blk (n := 0) hX3 1
  simp only [List.getElem?_toArray, List.getElem?_cons_zero, List.getElem?_cons_succ] at y0 y1
  clear hX3
  go_wp2
  refine bodyPost_ret (v := .tuple #[.slice a5 xs.length c5, .int .i64 x, .agg #[.int .i64 0, .int .i64 5]]) (by simp (maxDischargeDepth := 9) [results, Try.results4, go_sem, *]) rfl ⟨a5, c5, xs, x, rfl, ?_, hxl, bel_set (bel_set hbF (by simp) _) (by simp) _⟩
  have lt9 := World.ownsRow.lt (unhide HO3)
  obtain ⟨a6, c6, he, hRs, _, _⟩ := holdPn (B := w1.heap.size) (pn_upB (unhide HO3) (fun b9 hv => (Below.heap_setCell _ ⟨w.heap.size, 1, none⟩ (.int .i64 5) b9 (show b9 ≠ w.heap.size by have := (lt9 b9 hv).1; omega)).trans (Below.heap_setCell w3 ⟨w.heap.size, 0, none⟩ (.int .i64 0) b9 (show b9 ≠ w.heap.size by have := (lt9 b9 hv).1; omega)))) (by omega)
  cases he
  exact hRs
end Go.Proofs.Ytlaildbjcmihkaa
