/- Proved here: what the window functions of the program and of the specification answer, at every argument. -/
import Derived.Test.YtbockbdlojkpiaaGreatRows
import Derived.Test.YtbockbdlojkpiaaGreatGenA
namespace Go.Proofs.YtbockbdlojkpiaaGreat
open Go.ChangeShapes Go.WideShapes Go.ChangeAt Go.RowKit
set_option linter.unusedVariables false

theorem within_any (n a b : Int) (w : World) : Calls Tryz.prog 36 #[.int .i64 n, .int .i64 a, .int .i64 b] w fun e w' => e = .returned (.bool (inB n a b)) ∧ w' = w := by
  by_cases h1 : a ≤ n
  · by_cases h2 : n ≤ b
    · have h3 := hide (inB_tt h1 h2)
      go_enter Tryz.func36, Tryz.ntmps36
      go_wp2
      go_ret
      exact ⟨ret_b (unhide h3).symm, rfl⟩
    · have h3 := hide (inB_ff (n := n) (a := a) (b := b) (by omega))
      go_enter Tryz.func36, Tryz.ntmps36
      go_wp2
      go_ret
      exact ⟨ret_b (unhide h3).symm, rfl⟩
  · have h3 := hide (inB_ff (n := n) (a := a) (b := b) (by omega))
    go_enter Tryz.func36, Tryz.ntmps36
    go_wp2
    go_ret
    exact ⟨ret_b (unhide h3).symm, rfl⟩

theorem l1In_any (n a b : Int) (w : World) : Calls Tryz.prog 68 #[.int .i64 n, .int .i64 a, .int .i64 b] w fun e w' => e = .returned (.bool (inB n a b)) ∧ w' = w := by
  by_cases h1 : a ≤ n
  · by_cases h2 : n ≤ b
    · have h3 := hide (inB_tt h1 h2)
      go_enter Tryz.func68, Tryz.ntmps68
      go_wp2
      go_ret
      exact ⟨ret_b (unhide h3).symm, rfl⟩
    · have h3 := hide (inB_ff (n := n) (a := a) (b := b) (by omega))
      go_enter Tryz.func68, Tryz.ntmps68
      go_wp2
      go_ret
      exact ⟨ret_b (unhide h3).symm, rfl⟩
  · have h3 := hide (inB_ff (n := n) (a := a) (b := b) (by omega))
    go_enter Tryz.func68, Tryz.ntmps68
    go_wp2
    go_ret
    exact ⟨ret_b (unhide h3).symm, rfl⟩

/-- When a window is ok. -/
def okWin (a b : Int) : Bool := inB a 0 60 && inB b (a + 1) 120

theorem winok_any (a b : Int) (w : World) : Calls Tryz.prog 32 #[.agg #[.int .i64 a, .int .i64 b]] w fun e w' => e = .returned (.bool (okWin a b)) ∧ Below w.heap.size w w' := by
  by_cases h1 : 0 ≤ a ∧ a ≤ 60
  · obtain ⟨h1, h2⟩ := h1
    have h3 := inB_tt h1 h2
    have h4 : Hid (okWin a b = inB b (a + 1) 120) := hide (by simp [okWin, h3])
    go_enter Tryz.func32, Tryz.ntmps32
    go_wp2_with (go_at_call 36; refine (within_any _ _ _ _).mono ?_; rintro e w' ⟨rfl, rfl⟩)
    go_ret
    exact ⟨ret_b (unhide h4).symm, bel_one _ _⟩
  · have h3 := inB_ff (n := a) (a := 0) (b := 60) (by omega)
    have h4 : Hid (okWin a b = false) := hide (by simp [okWin, h3])
    go_enter Tryz.func32, Tryz.ntmps32
    go_wp2_with (go_at_call 36; refine (within_any _ _ _ _).mono ?_; rintro e w' ⟨rfl, rfl⟩)
    go_ret
    exact ⟨ret_b (unhide h4).symm, bel_one _ _⟩

theorem implwinok_any (a b : Int) (w : World) : Calls Tryz.prog 14 #[.agg #[.int .i64 a, .int .i64 b]] w fun e w' => e = .returned (.bool (okWin a b)) ∧ Below w.heap.size w w' := by
  go_enter Tryz.func14, Tryz.ntmps14
  go_wp2_with (go_at_call 32; refine (winok_any _ _ _).mono ?_; rintro e w' ⟨rfl, hb⟩)
  go_ret
  exact ⟨rfl, bel_trans (bel_one _ _) hb⟩
end Go.Proofs.YtbockbdlojkpiaaGreat
