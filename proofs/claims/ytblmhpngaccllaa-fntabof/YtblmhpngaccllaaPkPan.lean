/- Laid together: what the claim needs of the texts that were built one by one. -/
import Derived.Test.YtblmhpngaccllaaPkBase
namespace Go.Proofs.Ytblmhpngaccllaa
open Go.ChangeShapes Go.WideShapes Go.ChangeAt Go.RowKit
set_option linter.unusedVariables false

theorem panplace_any (ky st en no kd n s l m : Int) (w : World) : Calls Try.prog 16 #[.agg #[.int .i64 ky, .int .i64 st, .int .i64 en, .int .i64 no, .int .i64 kd, .int .i64 n, .int .i64 s, .int .i64 l, .int .i64 m]] w fun e' w' => e' = .returned (.agg #[.int .i64 ky, .int .i64 st, .int .i64 en]) ∧ Below w.heap.size w w' := by
  go_enter Try.func16, Try.ntmps16
  go_wp2
  refine bodyPost_ret (v := .agg #[.int .i64 ky, .int .i64 st, .int .i64 en]) (by simp [results, Try.results16, go_sem]) rfl ⟨rfl, ?_⟩
  exact (belB)
end Go.Proofs.Ytblmhpngaccllaa
