/- Laid together: what the claim needs of the texts that were built one by one. -/
import Derived.Test.YtblmhpngaccllaaPkBase
namespace Go.Proofs.Ytblmhpngaccllaa
open Go.ChangeShapes Go.WideShapes Go.ChangeAt Go.RowKit
set_option linter.unusedVariables false

theorem frok_any (w : World) : Calls Try.prog 8 #[] w fun e w' => e = .returned (.bool true) ∧ Below w.heap.size w w' := by
  have ho : okWin 0 1 = true := by decide
  go_enter Try.func8, Try.ntmps8
  go_wp2_with (go_at_call 22; refine (implwinok_any _ _ _).mono ?_; rintro e w' ⟨rfl, hb⟩)
  go_ret
  exact ⟨by first | rfl | rw [ho], (belA)⟩
end Go.Proofs.Ytblmhpngaccllaa
