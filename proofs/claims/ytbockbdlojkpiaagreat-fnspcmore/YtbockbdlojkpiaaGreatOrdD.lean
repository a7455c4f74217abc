/- Proved here: a job and records are drawn, as the laws over tables draw them. -/
import Derived.Test.YtbockbdlojkpiaaGreatRecsC
import Derived.Test.YtbockbdlojkpiaaGreatAnyJob
import Derived.RangeFuncRecord
namespace Go.Proofs.YtbockbdlojkpiaaGreat
open Go.ChangeShapes Go.WideShapes Go.ChangeAt Go.RowKit
set_option linter.unusedVariables false

/-- What is drawn for the pairs. -/
def DrawSPT (w : World) (e' : Ending) (w' : World) : Prop := ∃ (s t k z q l e : Int) (b : Bool) (v r : Int) (u : Value) (xs : List IwR), e' = .returned (.tuple #[.agg #[.int .i64 s, .int .i64 t, .int .i64 k, .int .i64 z, .int .i64 q, .int .i64 l, .int .i64 e, .bool b, .int .i64 v, .int .i64 r], u]) ∧ OwnIw w' w.heap.size u xs ∧ u ≠ .slice none 0 0 ∧ xs.length ≤ 14 ∧ Below w.heap.size w w'
set_option linter.unusedSimpArgs false in
set_option maxRecDepth 20000 in
set_option maxHeartbeats 4000000 in
theorem drawspt_any (a : Option Addr) (len cap : Nat) (w : World) (hlc : len ≤ cap) (hm : len ≤ 1048576) (hb : BytesAt w a len) (hl : ∀ g o, a = some ⟨g, o, none⟩ → 0 < len → g < w.heap.size) (hn : a = none → cap = 0) : Calls Tryz.prog 20 #[.slice a len cap] w fun e w' => DrawSPT w e w' := by
  have hbA : Below w.heap.size w (w.alloc (.cells #[.int .i64 0, .int .i64 0, .int .i64 0, .int .i64 0, .int .i64 0, .int .i64 0, .int .i64 0, .bool false, .int .i64 0, .int .i64 0] 24)) := bel_one _ _
  have hX0 : (w.alloc (.cells #[.int .i64 0, .int .i64 0, .int .i64 0, .int .i64 0, .int .i64 0, .int .i64 0, .int .i64 0, .bool false, .int .i64 0, .int .i64 0] 24)).heap[w.heap.size]? = some (.cells #[.int .i64 0, .int .i64 0, .int .i64 0, .int .i64 0, .int .i64 0, .int .i64 0, .int .i64 0, .bool false, .int .i64 0, .int .i64 0] 24 (0, 0)) := World.alloc_heap_new w _
  go_enter Tryz.func20, Tryz.ntmps20
  go_wp2_with fail
  refine (open_any a len cap _ hlc hm (hb.bel hl hbA) (fun g o h1 h2 => Nat.lt_of_lt_of_le (hl g o h1 h2) hbA.size) hn).mono ?_
  rintro e' w1 ⟨R, ln, cp, rfl, hR1, hR2, hb1, hrd⟩
  have hX1 := (hb1.block w.heap.size (by simp)).trans hX0
  have hRw : w.heap.size < R := by simp at hR1; omega
  clear hb hl hn hX0 hR1
  go_wp2_with fail
  refine (anyjob_any R a ln cp 0 16 _ (by decide) (by decide) (by omega) hR2 hrd).mono ?_
  rintro e' w2 ⟨s, t, k, z, q, l, e, b, v, r, rfl, k2, p2, hp2, rd2⟩
  have hX2 := (k2.all w.heap.size (by have := hb1.size; simp at this; omega) (by omega)).trans hX1
  have z2 : R < w2.heap.size := Nat.lt_of_lt_of_le hR2 k2.low.size
  clear hrd hX1
  go_wp2_with fail
  refine (recsC_any R a ln cp p2 16 _ (by decide) (by decide) (by omega) z2 rd2).mono ?_
  rintro e' w3 ⟨u, xs, rfl, hO, hnn, _, hxl, k3, _, _, _⟩
  have HNN := hide hnn
  clear hnn
  have hX3 := (k3.all w.heap.size (by omega) (by omega)).trans hX2
  have HO : Hid (w3.ownsRow w2.heap.size 41 5 u xs.length (flatIw xs)) := hide hO
  clear rd2 hX2 hO
  have hbF : Below w.heap.size w w3 := hbA.trans ((hb1.mono (by simp)).trans ((k2.low.mono (Nat.le_of_lt hRw)).trans (k3.low.mono (Nat.le_of_lt hRw))))
  have r0 : w3.cell? ⟨w.heap.size, 0, none⟩ = some (.int .i64 0) := by simp [World.cell?, hX3, go_sem]
  have r1 : w3.cell? ⟨w.heap.size, 1, none⟩ = some (.int .i64 0) := by simp [World.cell?, hX3, go_sem]
  have r2 : w3.cell? ⟨w.heap.size, 2, none⟩ = some (.int .i64 0) := by simp [World.cell?, hX3, go_sem]
  have r3 : w3.cell? ⟨w.heap.size, 3, none⟩ = some (.int .i64 0) := by simp [World.cell?, hX3, go_sem]
  have r4 : w3.cell? ⟨w.heap.size, 4, none⟩ = some (.int .i64 0) := by simp [World.cell?, hX3, go_sem]
  have r5 : w3.cell? ⟨w.heap.size, 5, none⟩ = some (.int .i64 0) := by simp [World.cell?, hX3, go_sem]
  have r6 : w3.cell? ⟨w.heap.size, 6, none⟩ = some (.int .i64 0) := by simp [World.cell?, hX3, go_sem]
  have r7 : w3.cell? ⟨w.heap.size, 7, none⟩ = some (.bool false) := by simp [World.cell?, hX3, go_sem]
  have r8 : w3.cell? ⟨w.heap.size, 8, none⟩ = some (.int .i64 0) := by simp [World.cell?, hX3, go_sem]
  have r9 : w3.cell? ⟨w.heap.size, 9, none⟩ = some (.int .i64 0) := by simp [World.cell?, hX3, go_sem]
  have hF0 : ∀ o, w3.frozen? ⟨w.heap.size, o, none⟩ = false := by intro o; simp [World.frozen?, hX3, go_sem]
  have g0 := hF0 0
  have g1 := hF0 1
  have g2 := hF0 2
  have g3 := hF0 3
  have g4 := hF0 4
  have g5 := hF0 5
  have g6 := hF0 6
  have g7 := hF0 7
  have g8 := hF0 8
  have g9 := hF0 9
  have z3 : w.heap.size < w2.heap.size := by omega
  clear hF0 hX3
  go_wp2
  refine bodyPost_ret (v := .tuple #[.agg #[.int .i64 s, .int .i64 t, .int .i64 k, .int .i64 z, .int .i64 q, .int .i64 l, .int .i64 e, .bool b, .int .i64 v, .int .i64 r], u]) (by simp (maxDischargeDepth := 9) [results, Tryz.results20, go_sem, *]) rfl ⟨s, t, k, z, q, l, e, b, v, r, u, xs, rfl, ?_, unhide HNN, hxl, ?_⟩
  · refine World.ownsRow.mono (base := w2.heap.size) ?_ (Nat.le_of_lt z3)
    repeat (first | (with_reducible exact unhide HO) | (with_reducible refine own_setR ?_ (by simp; omega)))
  · repeat (first | (with_reducible exact hbF) | (with_reducible refine bel_set ?_ (by simp) _))

set_option linter.unusedSimpArgs false in
set_option maxRecDepth 20000 in
set_option maxHeartbeats 4000000 in
theorem drawtab_any (a : Option Addr) (len cap : Nat) (w : World) (hlc : len ≤ cap) (hm : len ≤ 1048576) (hb : BytesAt w a len) (hl : ∀ g o, a = some ⟨g, o, none⟩ → 0 < len → g < w.heap.size) (hn : a = none → cap = 0) : Calls Tryz.prog 7 #[.slice a len cap] w fun e w' => DrawSPT w e w' := by
  have hbA : Below w.heap.size w (w.alloc (.cells #[.int .i64 0, .int .i64 0, .int .i64 0, .int .i64 0, .int .i64 0, .int .i64 0, .int .i64 0, .bool false, .int .i64 0, .int .i64 0] 24)) := bel_one _ _
  have hX0 : (w.alloc (.cells #[.int .i64 0, .int .i64 0, .int .i64 0, .int .i64 0, .int .i64 0, .int .i64 0, .int .i64 0, .bool false, .int .i64 0, .int .i64 0] 24)).heap[w.heap.size]? = some (.cells #[.int .i64 0, .int .i64 0, .int .i64 0, .int .i64 0, .int .i64 0, .int .i64 0, .int .i64 0, .bool false, .int .i64 0, .int .i64 0] 24 (0, 0)) := World.alloc_heap_new w _
  go_enter Tryz.func7, Tryz.ntmps7
  go_wp2_with fail
  refine (drawspt_any a len cap _ hlc hm (hb.bel hl hbA) (fun g o h1 h2 => Nat.lt_of_lt_of_le (hl g o h1 h2) hbA.size) hn).mono ?_
  rintro e' w3 ⟨s, t, k, z, q, l, e, b, v, r, u, xs, rfl, hO, hnn, hxl, hb3⟩
  have HNN := hide hnn
  have HO := hide hO
  have hX3 := (hb3.block w.heap.size (by simp)).trans hX0
  have z3 : w.heap.size + 1 ≤ w3.heap.size := by have := hb3.size; simp at this; omega
  have hbF : Below w.heap.size w w3 := bel_trans hbA hb3
  clear hb hl hn hX0 hnn hO
  have r0 : w3.cell? ⟨w.heap.size, 0, none⟩ = some (.int .i64 0) := by simp [World.cell?, hX3, go_sem]
  have r1 : w3.cell? ⟨w.heap.size, 1, none⟩ = some (.int .i64 0) := by simp [World.cell?, hX3, go_sem]
  have r2 : w3.cell? ⟨w.heap.size, 2, none⟩ = some (.int .i64 0) := by simp [World.cell?, hX3, go_sem]
  have r3 : w3.cell? ⟨w.heap.size, 3, none⟩ = some (.int .i64 0) := by simp [World.cell?, hX3, go_sem]
  have r4 : w3.cell? ⟨w.heap.size, 4, none⟩ = some (.int .i64 0) := by simp [World.cell?, hX3, go_sem]
  have r5 : w3.cell? ⟨w.heap.size, 5, none⟩ = some (.int .i64 0) := by simp [World.cell?, hX3, go_sem]
  have r6 : w3.cell? ⟨w.heap.size, 6, none⟩ = some (.int .i64 0) := by simp [World.cell?, hX3, go_sem]
  have r7 : w3.cell? ⟨w.heap.size, 7, none⟩ = some (.bool false) := by simp [World.cell?, hX3, go_sem]
  have r8 : w3.cell? ⟨w.heap.size, 8, none⟩ = some (.int .i64 0) := by simp [World.cell?, hX3, go_sem]
  have r9 : w3.cell? ⟨w.heap.size, 9, none⟩ = some (.int .i64 0) := by simp [World.cell?, hX3, go_sem]
  have hF0 : ∀ o, w3.frozen? ⟨w.heap.size, o, none⟩ = false := by intro o; simp [World.frozen?, hX3, go_sem]
  have g0 := hF0 0
  have g1 := hF0 1
  have g2 := hF0 2
  have g3 := hF0 3
  have g4 := hF0 4
  have g5 := hF0 5
  have g6 := hF0 6
  have g7 := hF0 7
  have g8 := hF0 8
  have g9 := hF0 9
  clear hF0 hX3
  go_wp2
  refine bodyPost_ret (v := .tuple #[.agg #[.int .i64 s, .int .i64 t, .int .i64 k, .int .i64 z, .int .i64 q, .int .i64 l, .int .i64 e, .bool b, .int .i64 v, .int .i64 r], u]) (by simp (maxDischargeDepth := 9) [results, Tryz.results7, go_sem, *]) rfl ⟨s, t, k, z, q, l, e, b, v, r, u, xs, rfl, ?_, unhide HNN, hxl, ?_⟩
  · refine World.ownsRow.mono (base := w.heap.size + 1) ?_ (Nat.le_succ _)
    have h9 := unhide HO
    unfold OwnIw at h9
    rw [World.size_alloc] at h9
    repeat (first | (with_reducible exact h9) | (with_reducible refine own_setR ?_ (by simp)))
  · repeat (first | (with_reducible exact hbF) | (with_reducible refine bel_set ?_ (by simp) _))
end Go.Proofs.YtbockbdlojkpiaaGreat
