/- Laid together: what the claim needs of the texts that were built one by one. -/
import Derived.Test.YtabphkmhafflbaaPkBase
namespace Go.Proofs.Ytabphkmhafflbaa
open Go.ChangeShapes Go.WideShapes Go.ChangeAt Go.RowKit
set_option linter.unusedVariables false

theorem opplace_any (ky st en an asu ale amo fn fsu fle fmo td : Int) (tm : Bool) (w : World) : Calls Try.prog 58 #[.agg #[.int .i64 ky, .int .i64 st, .int .i64 en, .int .i64 an, .int .i64 asu, .int .i64 ale, .int .i64 amo, .int .i64 fn, .int .i64 fsu, .int .i64 fle, .int .i64 fmo, .int .i64 td, .bool tm]] w fun e' w' => e' = .returned (.agg #[.int .i64 ky, .int .i64 st, .int .i64 en]) ∧ Below w.heap.size w w' := by
  go_enter Try.func58, Try.ntmps58
  go_wp2
  refine bodyPost_ret (v := .agg #[.int .i64 ky, .int .i64 st, .int .i64 en]) (by simp [results, Try.results58, go_sem]) rfl ⟨rfl, ?_⟩
  exact (belB)
end Go.Proofs.Ytabphkmhafflbaa
