/- Laid together: what the claim needs of the texts that were built one by one. -/
import Derived.Test.YtbjhpiannjepkaaGreatPsCkpS4
import Derived.Test.YtbjhpiannjepkaaGreatPsCkpI4
import Derived.Test.YtbjhpiannjepkaaGreatPsBase
namespace Go.Proofs.YtbjhpiannjepkaaGreat
open Go.ChangeShapes Go.WideShapes Go.ChangeAt Go.RowKit Go.Deep
set_option linter.unusedVariables false

theorem szCk_any (x : CkD) (a2 : Option Addr) (l2 c2 : Nat) (a3 : Option Addr) (l3 c3 : Nat) (a4 : Option Addr) (l4 c4 : Nat) (a6 : Option Addr) (l6 c6 : Nat) (a7 : Option Addr) (l7 c7 : Nat) (w : World) (h : CkIs w 0 a2 l2 a3 l3 a4 l4 a6 l6 a7 l7 x) : Calls Tryz.prog 5 #[.agg #[.int .i64 x.n, .bool x.op, .slice a2 l2 c2, .slice a3 l3 c3, .slice a4 l4 c4, .int .i64 x.sfn, .slice a6 l6 c6, .slice a7 l7 c7], .int .i64 1048576] w fun e w' => SzP 1048576 (l2 ≤ 1048576 ∧ l3 ≤ 1048576 ∧ (l4 ≤ 1048576 ∧ ∀ y ∈ x.sn, y.sm) ∧ l6 ≤ 1048576 ∧ (l7 ≤ 1048576 ∧ ∀ y ∈ x.ssn, y.sm)) e ∧ Below w.heap.size w w' := szCk_one x a2 l2 c2 a3 l3 c3 a4 l4 c4 a6 l6 c6 a7 l7 c7 1048576 w h.src h.tsk h.sn h.at_ h.ssn (by omega) (by omega)
end Go.Proofs.YtbjhpiannjepkaaGreat
