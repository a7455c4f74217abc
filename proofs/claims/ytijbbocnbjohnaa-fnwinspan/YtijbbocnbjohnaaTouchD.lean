/- Proved here: two windows are drawn of a code. -/
import Derived.Test.YtijbbocnbjohnaaDrawTwo
import Derived.Test.YtijbbocnbjohnaaWin2
namespace Go.Proofs.Ytijbbocnbjohnaa
open Go.ChangeShapes Go.WideShapes Go.ChangeAt Go.RowKit
set_option linter.unusedVariables false

/-- Two windows that are drawn of a code. -/
def TwoD (w : World) (e : Ending) (w' : World) : Prop := ∃ s0 e0 s1 e1 : Int, e = .returned (.tuple #[.agg #[.int .i64 s0, .int .i64 e0], .agg #[.int .i64 s1, .int .i64 e1]]) ∧ (-10 ≤ s0 ∧ s0 ≤ 200) ∧ (-10 ≤ e0 ∧ e0 ≤ 200) ∧ (-10 ≤ s1 ∧ s1 ≤ 200) ∧ (-10 ≤ e1 ∧ e1 ≤ 200) ∧ Below w.heap.size w w'
theorem frok_any (w : World) : Calls Try.prog 14 #[] w fun e w' => e = .returned (.bool true) ∧ Below w.heap.size w w' := by
  have ho : okWin 0 1 = true := by decide
  go_enter Try.func14, Try.ntmps14
  go_wp2_with (go_at_call 13; refine (implwinok_any _ _ _).mono ?_; rintro e w' ⟨rfl, hb⟩)
  go_ret
  exact ⟨by first | rfl | rw [ho], (by repeat (first | (with_reducible exact Below.refl _ _) | (with_reducible assumption) | (with_reducible refine bel_set ?_ (by first | (simp; done) | (simp; omega)) _) | (with_reducible refine bel_alloc ?_ _) | (with_reducible refine bel_drew ?_) | (with_reducible refine bel_drewN ?_ _) | (with_reducible refine bel_trans ?_ (by with_reducible assumption))))⟩
end Go.Proofs.Ytijbbocnbjohnaa
