/- Proved here: whether a window is over for late records, too. -/
import Derived.Test.YtflignpbboiahaaOpBx
import Derived.BigQuiet
namespace Go.Proofs.Ytflignpbboiahaa
open Go.ChangeShapes Go.WideShapes Go.ChangeAt Go.RowKit
set_option linter.unusedVariables false

set_option linter.unusedSimpArgs false
/-- An operator while a call lasts. -/
def opV (s t k z q l e : Int) (b : Bool) (v r m : Int) (mb : Nat) (pv lv : Value) : Array Value := #[.int .i64 s, .int .i64 t, .int .i64 k, .int .i64 z, .int .i64 q, .int .i64 l, .int .i64 e, .bool b, .int .i64 v, .int .i64 r, .int .i64 m, .map (some mb), pv, lv]
def shutB (l m en : Int) : Bool := decide (en + l ≤ m)
set_option maxRecDepth 20000 in
set_option maxHeartbeats 2000000 in
theorem isshut_any (Bo : Nat) (s t k z q l e : Int) (b : Bool) (v r m : Int) (mb : Nat) (pv lv : Value) (st en : Int) (w : World) (h : w.heap[Bo]? = some (.cells (opV s t k z q l e b v r m mb pv lv) 54 (0, 0))) (hb : -1000 ≤ en ∧ en ≤ 1000 ∧ 0 ≤ l ∧ l ≤ 20) : Calls Try.prog 58 #[.pointer (some ⟨Bo, 0, none⟩), .agg #[.int .i64 st, .int .i64 en]] w fun e' w' => e' = .returned (.bool (shutB l m en)) ∧ Below w.heap.size w w' := by
  have hB : Bo < w.heap.size := (Array.getElem?_eq_some_iff.1 h).1
  have c5 : w.cell? ⟨Bo, 5, none⟩ = some (.int .i64 l) := Joins.cell_of_block h 5
  have c10 : w.cell? ⟨Bo, 10, none⟩ = some (.int .i64 m) := Joins.cell_of_block h 10
  have hwr : IntKind.i64.wrap (en + l) = en + l := IntWalk.i64_in _ ⟨by omega, by omega⟩
  go_enter Try.func58, Try.ntmps58
  go_wp2_with fail
  go_quiet (fail)
  go_wp2
  go_ret
  exact ⟨rfl, bel_drewN (bel_one _ _) _⟩
end Go.Proofs.Ytflignpbboiahaa
