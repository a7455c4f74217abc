/- Proved here: what the window functions of the program and of the specification answer, at every argument. -/
import Derived.Test.YtflignpbboiahaaRows
import Derived.Test.YtflignpbboiahaaGenA
namespace Go.Proofs.Ytflignpbboiahaa
open Go.ChangeShapes Go.WideShapes Go.ChangeAt Go.RowKit
set_option linter.unusedVariables false

theorem within_any (n a b : Int) (w : World) : Calls Try.prog 22 #[.int .i64 n, .int .i64 a, .int .i64 b] w fun e w' => e = .returned (.bool (inB n a b)) ∧ w' = w := by
  by_cases h1 : a ≤ n
  · by_cases h2 : n ≤ b
    · have h3 := hide (inB_tt h1 h2)
      go_enter Try.func22, Try.ntmps22
      go_wp2
      go_ret
      exact ⟨ret_b (unhide h3).symm, rfl⟩
    · have h3 := hide (inB_ff (n := n) (a := a) (b := b) (by omega))
      go_enter Try.func22, Try.ntmps22
      go_wp2
      go_ret
      exact ⟨ret_b (unhide h3).symm, rfl⟩
  · have h3 := hide (inB_ff (n := n) (a := a) (b := b) (by omega))
    go_enter Try.func22, Try.ntmps22
    go_wp2
    go_ret
    exact ⟨ret_b (unhide h3).symm, rfl⟩

theorem l1In_any (n a b : Int) (w : World) : Calls Try.prog 17 #[.int .i64 n, .int .i64 a, .int .i64 b] w fun e w' => e = .returned (.bool (inB n a b)) ∧ w' = w := by
  by_cases h1 : a ≤ n
  · by_cases h2 : n ≤ b
    · have h3 := hide (inB_tt h1 h2)
      go_enter Try.func17, Try.ntmps17
      go_wp2
      go_ret
      exact ⟨ret_b (unhide h3).symm, rfl⟩
    · have h3 := hide (inB_ff (n := n) (a := a) (b := b) (by omega))
      go_enter Try.func17, Try.ntmps17
      go_wp2
      go_ret
      exact ⟨ret_b (unhide h3).symm, rfl⟩
  · have h3 := hide (inB_ff (n := n) (a := a) (b := b) (by omega))
    go_enter Try.func17, Try.ntmps17
    go_wp2
    go_ret
    exact ⟨ret_b (unhide h3).symm, rfl⟩

theorem toWin_any (a b : Int) (w : World) : Calls Try.prog 49 #[.agg #[.int .i64 a, .int .i64 b]] w fun e w' => e = .returned (.agg #[.int .i64 a, .int .i64 b]) ∧ Below w.heap.size w w' := by
  go_enter Try.func49, Try.ntmps49
  go_wp2
  exact bodyPost_ret (v := .agg #[.int .i64 a, .int .i64 b]) (by simp [results, Try.results49, go_sem]) rfl ⟨rfl, bel_alloc (bel_alloc (bel_one _ _) _) _⟩

/-- When a window is ok. -/
def okWin (a b : Int) : Bool := inB a 0 60 && inB b (a + 1) 120

theorem winok_any (a b : Int) (w : World) : Calls Try.prog 63 #[.agg #[.int .i64 a, .int .i64 b]] w fun e w' => e = .returned (.bool (okWin a b)) ∧ Below w.heap.size w w' := by
  by_cases h1 : 0 ≤ a ∧ a ≤ 60
  · obtain ⟨h1, h2⟩ := h1
    have h3 := inB_tt h1 h2
    have h4 : Hid (okWin a b = inB b (a + 1) 120) := hide (by simp [okWin, h3])
    go_enter Try.func63, Try.ntmps63
    go_wp2_with (go_at_call 22; refine (within_any _ _ _ _).mono ?_; rintro e w' ⟨rfl, rfl⟩)
    go_ret
    exact ⟨ret_b (unhide h4).symm, bel_one _ _⟩
  · have h3 := inB_ff (n := a) (a := 0) (b := 60) (by omega)
    have h4 : Hid (okWin a b = false) := hide (by simp [okWin, h3])
    go_enter Try.func63, Try.ntmps63
    go_wp2_with (go_at_call 22; refine (within_any _ _ _ _).mono ?_; rintro e w' ⟨rfl, rfl⟩)
    go_ret
    exact ⟨ret_b (unhide h4).symm, bel_one _ _⟩

theorem specwinok_any (a b : Int) (w : World) : Calls Try.prog 46 #[.agg #[.int .i64 a, .int .i64 b]] w fun e w' => e = .returned (.bool (okWin a b)) ∧ Below w.heap.size w w' := by
  by_cases h1 : 0 ≤ a ∧ a ≤ 60
  · obtain ⟨h1, h2⟩ := h1
    have h3 := inB_tt h1 h2
    have h4 : Hid (okWin a b = inB b (a + 1) 120) := hide (by simp [okWin, h3])
    go_enter Try.func46, Try.ntmps46
    go_wp2_with (go_at_call 17; refine (l1In_any _ _ _ _).mono ?_; rintro e w' ⟨rfl, rfl⟩)
    go_ret
    exact ⟨ret_b (unhide h4).symm, bel_one _ _⟩
  · have h3 := inB_ff (n := a) (a := 0) (b := 60) (by omega)
    have h4 : Hid (okWin a b = false) := hide (by simp [okWin, h3])
    go_enter Try.func46, Try.ntmps46
    go_wp2_with (go_at_call 17; refine (l1In_any _ _ _ _).mono ?_; rintro e w' ⟨rfl, rfl⟩)
    go_ret
    exact ⟨ret_b (unhide h4).symm, bel_one _ _⟩
end Go.Proofs.Ytflignpbboiahaa
