/- Laid together: what the claim needs of the texts that were built one by one. -/
import Derived.Test.YtabphkmhafflbaaPkBase
import Derived.Deep.RegionHeld3
import Derived.Deep.DeepCutAuto
namespace Go.Proofs.Ytabphkmhafflbaa
open Go.ChangeShapes Go.WideShapes Go.ChangeAt Go.RowKit
set_option linter.unusedVariables false

/-- Whether two windows touch. -/
def touchB (a b c d : Int) : Bool := decide (a < d) && decide (c < b)

theorem touches_any (a b c d : Int) (w : World) : Calls Try.prog 61 #[.agg #[.int .i64 a, .int .i64 b], .agg #[.int .i64 c, .int .i64 d]] w fun e w' => e = .returned (.bool (touchB a b c d)) ∧ Below w.heap.size w w' := by
  by_cases h1 : a < d
  · by_cases h2 : c < b
    · have h3 : Hid (touchB a b c d = true) := hide (by simp only [touchB]; simp [h1, h2])
      go_enter Try.func61, Try.ntmps61
      go_wp2
      go_ret
      exact ⟨ret_b (unhide h3).symm, bel_alloc (bel_one _ _) _⟩
    · have h3 : Hid (touchB a b c d = false) := hide (by simp only [touchB]; simp [h1, h2])
      go_enter Try.func61, Try.ntmps61
      go_wp2
      go_ret
      exact ⟨ret_b (unhide h3).symm, bel_alloc (bel_one _ _) _⟩
  · have h3 : Hid (touchB a b c d = false) := hide (by simp only [touchB]; simp [h1])
    go_enter Try.func61, Try.ntmps61
    go_wp2
    go_ret
    exact ⟨ret_b (unhide h3).symm, bel_alloc (bel_one _ _) _⟩
end Go.Proofs.Ytabphkmhafflbaa
