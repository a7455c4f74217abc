/- Laid together: what the claim needs of the texts that were built one by one. -/
import Derived.Test.YtikidpcgnmffcaaGreatPkBase
import Derived.Deep.RegionHeld3
import Derived.Deep.DeepCutAuto
namespace Go.Proofs.YtikidpcgnmffcaaGreat
open Go.ChangeShapes Go.WideShapes Go.ChangeAt Go.RowKit
set_option linter.unusedVariables false

/-- Whether two windows touch. -/
def touchB (a b c d : Int) : Bool := decide (a < d) && decide (c < b)

theorem touches_any (a b c d : Int) (w : World) : Calls Tryz.prog 44 #[.agg #[.int .i64 a, .int .i64 b], .agg #[.int .i64 c, .int .i64 d]] w fun e w' => e = .returned (.bool (touchB a b c d)) ∧ Below w.heap.size w w' := by
  by_cases h1 : a < d
  · by_cases h2 : c < b
    · have h3 : Hid (touchB a b c d = true) := hide (by simp only [touchB]; simp [h1, h2])
      go_enter Tryz.func44, Tryz.ntmps44
      go_wp2
      go_ret
      exact ⟨ret_b (unhide h3).symm, bel_alloc (bel_one _ _) _⟩
    · have h3 : Hid (touchB a b c d = false) := hide (by simp only [touchB]; simp [h1, h2])
      go_enter Tryz.func44, Tryz.ntmps44
      go_wp2
      go_ret
      exact ⟨ret_b (unhide h3).symm, bel_alloc (bel_one _ _) _⟩
  · have h3 : Hid (touchB a b c d = false) := hide (by simp only [touchB]; simp [h1])
    go_enter Tryz.func44, Tryz.ntmps44
    go_wp2
    go_ret
    exact ⟨ret_b (unhide h3).symm, bel_alloc (bel_one _ _) _⟩

theorem spectouch_any (a b c d : Int) (w : World) : Calls Tryz.prog 28 #[.agg #[.int .i64 a, .int .i64 b], .agg #[.int .i64 c, .int .i64 d]] w fun e w' => e = .returned (.bool (touchB a b c d)) ∧ Below w.heap.size w w' := by
  by_cases h1 : a < d
  · by_cases h2 : c < b
    · have h3 : Hid (touchB a b c d = true) := hide (by simp only [touchB]; simp [h1, h2])
      go_enter Tryz.func28, Tryz.ntmps28
      go_wp2
      go_ret
      exact ⟨ret_b (unhide h3).symm, bel_alloc (bel_one _ _) _⟩
    · have h3 : Hid (touchB a b c d = false) := hide (by simp only [touchB]; simp [h1, h2])
      go_enter Tryz.func28, Tryz.ntmps28
      go_wp2
      go_ret
      exact ⟨ret_b (unhide h3).symm, bel_alloc (bel_one _ _) _⟩
  · have h3 : Hid (touchB a b c d = false) := hide (by simp only [touchB]; simp [h1])
    go_enter Tryz.func28, Tryz.ntmps28
    go_wp2
    go_ret
    exact ⟨ret_b (unhide h3).symm, bel_alloc (bel_one _ _) _⟩

theorem ret_agg2 {a b c d : Int} (h : a = c) (k : b = d) : Ending.returned (.agg #[.int .i64 a, .int .i64 b]) = .returned (.agg #[.int .i64 c, .int .i64 d]) := by rw [h, k]

theorem span_any (a b c d : Int) (w : World) : Calls Tryz.prog 45 #[.agg #[.int .i64 a, .int .i64 b], .agg #[.int .i64 c, .int .i64 d]] w fun e w' => e = .returned (.agg #[.int .i64 (loI a c), .int .i64 (hiI b d)]) ∧ Below w.heap.size w w' := by
  by_cases h1 : c < a <;> by_cases h2 : b < d
  · have h3 := hide (loI_c h1)
    have h4 := hide (hiI_d h2)
    go_enter Tryz.func45, Tryz.ntmps45
    go_wp2
    refine bodyPost_ret (v := .agg #[.int .i64 c, .int .i64 d]) (by simp [results, Tryz.results45, go_sem] <;> omega) rfl ⟨ret_agg2 (unhide h3).symm (unhide h4).symm, ?_⟩
    exact (belC)
  · have h3 := hide (loI_c h1)
    have h4 := hide (hiI_b h2)
    go_enter Tryz.func45, Tryz.ntmps45
    go_wp2
    refine bodyPost_ret (v := .agg #[.int .i64 c, .int .i64 b]) (by simp [results, Tryz.results45, go_sem] <;> omega) rfl ⟨ret_agg2 (unhide h3).symm (unhide h4).symm, ?_⟩
    exact (belC)
  · have h3 := hide (loI_a h1)
    have h4 := hide (hiI_d h2)
    go_enter Tryz.func45, Tryz.ntmps45
    go_wp2
    refine bodyPost_ret (v := .agg #[.int .i64 a, .int .i64 d]) (by simp [results, Tryz.results45, go_sem] <;> omega) rfl ⟨ret_agg2 (unhide h3).symm (unhide h4).symm, ?_⟩
    exact (belC)
  · have h3 := hide (loI_a h1)
    have h4 := hide (hiI_b h2)
    go_enter Tryz.func45, Tryz.ntmps45
    go_wp2
    refine bodyPost_ret (v := .agg #[.int .i64 a, .int .i64 b]) (by simp [results, Tryz.results45, go_sem] <;> omega) rfl ⟨ret_agg2 (unhide h3).symm (unhide h4).symm, ?_⟩
    exact (belC)

theorem specspan_any (a b c d : Int) (w : World) : Calls Tryz.prog 29 #[.agg #[.int .i64 a, .int .i64 b], .agg #[.int .i64 c, .int .i64 d]] w fun e w' => e = .returned (.agg #[.int .i64 (loI a c), .int .i64 (hiI b d)]) ∧ Below w.heap.size w w' := by
  by_cases h1 : c < a <;> by_cases h2 : b < d
  · have h3 := hide (loI_c h1)
    have h4 := hide (hiI_d h2)
    go_enter Tryz.func29, Tryz.ntmps29
    go_wp2
    refine bodyPost_ret (v := .agg #[.int .i64 c, .int .i64 d]) (by simp [results, Tryz.results29, go_sem] <;> omega) rfl ⟨ret_agg2 (unhide h3).symm (unhide h4).symm, ?_⟩
    exact (belC)
  · have h3 := hide (loI_c h1)
    have h4 := hide (hiI_b h2)
    go_enter Tryz.func29, Tryz.ntmps29
    go_wp2
    refine bodyPost_ret (v := .agg #[.int .i64 c, .int .i64 b]) (by simp [results, Tryz.results29, go_sem] <;> omega) rfl ⟨ret_agg2 (unhide h3).symm (unhide h4).symm, ?_⟩
    exact (belC)
  · have h3 := hide (loI_a h1)
    have h4 := hide (hiI_d h2)
    go_enter Tryz.func29, Tryz.ntmps29
    go_wp2
    refine bodyPost_ret (v := .agg #[.int .i64 a, .int .i64 d]) (by simp [results, Tryz.results29, go_sem] <;> omega) rfl ⟨ret_agg2 (unhide h3).symm (unhide h4).symm, ?_⟩
    exact (belC)
  · have h3 := hide (loI_a h1)
    have h4 := hide (hiI_b h2)
    go_enter Tryz.func29, Tryz.ntmps29
    go_wp2
    refine bodyPost_ret (v := .agg #[.int .i64 a, .int .i64 b]) (by simp [results, Tryz.results29, go_sem] <;> omega) rfl ⟨ret_agg2 (unhide h3).symm (unhide h4).symm, ?_⟩
    exact (belC)
end Go.Proofs.YtikidpcgnmffcaaGreat
