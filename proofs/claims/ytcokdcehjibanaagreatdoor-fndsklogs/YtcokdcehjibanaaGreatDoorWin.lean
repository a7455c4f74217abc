/- Proved here: what the window functions of the program and of the specification answer, at every argument. -/
import Derived.Test.YtcokdcehjibanaaGreatDoorRows
import Derived.Test.YtcokdcehjibanaaGreatDoorGenA
namespace Go.Proofs.YtcokdcehjibanaaGreatDoor
open Go.ChangeShapes Go.WideShapes Go.ChangeAt Go.RowKit
set_option linter.unusedVariables false

theorem within_any (n a b : Int) (w : World) : Calls Tryz.prog 50 #[.int .i64 n, .int .i64 a, .int .i64 b] w fun e w' => e = .returned (.bool (inB n a b)) ∧ w' = w := by
  by_cases h1 : a ≤ n
  · by_cases h2 : n ≤ b
    · have h3 := hide (inB_tt h1 h2)
      go_enter Tryz.func50, Tryz.ntmps50
      go_wp2
      go_ret
      exact ⟨ret_b (unhide h3).symm, rfl⟩
    · have h3 := hide (inB_ff (n := n) (a := a) (b := b) (by omega))
      go_enter Tryz.func50, Tryz.ntmps50
      go_wp2
      go_ret
      exact ⟨ret_b (unhide h3).symm, rfl⟩
  · have h3 := hide (inB_ff (n := n) (a := a) (b := b) (by omega))
    go_enter Tryz.func50, Tryz.ntmps50
    go_wp2
    go_ret
    exact ⟨ret_b (unhide h3).symm, rfl⟩

theorem l1In_any (n a b : Int) (w : World) : Calls Tryz.prog 39 #[.int .i64 n, .int .i64 a, .int .i64 b] w fun e w' => e = .returned (.bool (inB n a b)) ∧ w' = w := by
  by_cases h1 : a ≤ n
  · by_cases h2 : n ≤ b
    · have h3 := hide (inB_tt h1 h2)
      go_enter Tryz.func39, Tryz.ntmps39
      go_wp2
      go_ret
      exact ⟨ret_b (unhide h3).symm, rfl⟩
    · have h3 := hide (inB_ff (n := n) (a := a) (b := b) (by omega))
      go_enter Tryz.func39, Tryz.ntmps39
      go_wp2
      go_ret
      exact ⟨ret_b (unhide h3).symm, rfl⟩
  · have h3 := hide (inB_ff (n := n) (a := a) (b := b) (by omega))
    go_enter Tryz.func39, Tryz.ntmps39
    go_wp2
    go_ret
    exact ⟨ret_b (unhide h3).symm, rfl⟩

/-- When a window is ok. -/
def okWin (a b : Int) : Bool := inB a 0 60 && inB b (a + 1) 120
end Go.Proofs.YtcokdcehjibanaaGreatDoor
