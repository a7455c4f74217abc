/- Proved here: the window of a key that a row is of. -/
import Derived.Test.YtflignpbboiahaaRwaOp
namespace Go.Proofs.Ytflignpbboiahaa
open Go.ChangeShapes Go.WideShapes Go.ChangeAt Go.RowKit
set_option linter.unusedVariables false

theorem opplace_any (ky st en an asu ale amo fn fsu fle fmo td : Int) (tm : Bool) (w : World) : Calls Try.prog 39 #[.agg #[.int .i64 ky, .int .i64 st, .int .i64 en, .int .i64 an, .int .i64 asu, .int .i64 ale, .int .i64 amo, .int .i64 fn, .int .i64 fsu, .int .i64 fle, .int .i64 fmo, .int .i64 td, .bool tm]] w fun e' w' => e' = .returned (.agg #[.int .i64 ky, .int .i64 st, .int .i64 en]) ∧ Below w.heap.size w w' := by
  go_enter Try.func39, Try.ntmps39
  go_wp2
  refine bodyPost_ret (v := .agg #[.int .i64 ky, .int .i64 st, .int .i64 en]) (by simp [results, Try.results39, go_sem]) rfl ⟨rfl, ?_⟩
  exact (by repeat (first | (with_reducible refine bel_set ?_ (by first | (simp; done) | (simp; omega)) _) | (with_reducible refine bel_alloc ?_ _) | (with_reducible exact Below.refl _ _) | (with_reducible assumption) | (with_reducible refine bel_drew ?_) | (with_reducible refine bel_drewN ?_ _) | (with_reducible refine bel_trans ?_ (by with_reducible assumption))))

end Go.Proofs.Ytflignpbboiahaa
