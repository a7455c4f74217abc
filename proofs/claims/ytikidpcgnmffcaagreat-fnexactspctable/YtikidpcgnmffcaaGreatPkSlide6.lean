/- Laid together: what the claim needs of the texts that were built one by one. -/
import Derived.Test.YtikidpcgnmffcaaGreatPkSlide5
import Derived.Test.YtikidpcgnmffcaaGreatPkBase
namespace Go.Proofs.YtikidpcgnmffcaaGreat
open Go.ChangeShapes Go.WideShapes Go.ChangeAt Go.RowKit Go.Maps
set_option linter.unusedVariables false

theorem own_lit1' {W : World} {B g : Nat} (h : B ≤ W.heap.size) (hg : g = W.heap.size) (a b : Int) : OwnWn (W.alloc (.cells #[.int .i64 a, .int .i64 b] 42)) B (.slice (some ⟨g, 0, none⟩) 1 1) [⟨a, b⟩] := by
  subst hg; exact own_lit1 h a b

theorem l4_1 (s t z p l e : Int) (b : Bool) (v r : Int) (T : Int) (hT : 0 ≤ T ∧ T ≤ 60) (hz : 1 ≤ z ∧ z ≤ 20) (w : World) : Calls Tryz.prog 27 #[.agg #[.int .i64 s, .int .i64 t, .int .i64 1, .int .i64 z, .int .i64 p, .int .i64 l, .int .i64 e, .bool b, .int .i64 v, .int .i64 r], .int .i64 T] w fun e' w' => ∃ v', e' = .returned v' ∧ OwnWn w' w.heap.size v' (winsOf 1 z p T) ∧ Below w.heap.size w w' := by
  have hmod : 0 ≤ T % z ∧ T % z ≤ T := ⟨Int.emod_nonneg _ (by omega), by have := Int.emod_add_mul_ediv T z; have := Int.ediv_nonneg (a := T) (b := z) (by omega) (by omega); have := Int.mul_nonneg (a := z) (b := T / z) (by omega) (by omega); omega⟩
  rw [winsOf_1]
  have hwr : IntKind.i64.wrap (T - T % z) = T - T % z := IntWalk.i64_in _ (by omega)
  have hwr2 : IntKind.i64.wrap (T - T % z + z) = T - T % z + z := IntWalk.i64_in _ (by omega)
  go_enter Tryz.func27, Tryz.ntmps27
  go_wp2
  go_region
  all_goals go_wp2
  all_goals
    go_ret
    exact ⟨_, rfl, own_lit1' (by simp) (by simp) _ _, (belB)⟩

theorem l4_3 (s t z p l e : Int) (b : Bool) (v r : Int) (T : Int) (hT : 0 ≤ T ∧ T ≤ 60) (hz : 1 ≤ z ∧ z ≤ 20) (w : World) : Calls Tryz.prog 27 #[.agg #[.int .i64 s, .int .i64 t, .int .i64 3, .int .i64 z, .int .i64 p, .int .i64 l, .int .i64 e, .bool b, .int .i64 v, .int .i64 r], .int .i64 T] w fun e' w' => ∃ v', e' = .returned v' ∧ OwnWn w' w.heap.size v' (winsOf 3 z p T) ∧ Below w.heap.size w w' := by
  have hmod : 0 ≤ T % z ∧ T % z ≤ T := ⟨Int.emod_nonneg _ (by omega), by have := Int.emod_add_mul_ediv T z; have := Int.ediv_nonneg (a := T) (b := z) (by omega) (by omega); have := Int.mul_nonneg (a := z) (b := T / z) (by omega) (by omega); omega⟩
  rw [winsOf_3]
  have hwr : IntKind.i64.wrap (T - T % z) = T - T % z := IntWalk.i64_in _ (by omega)
  have hwr2 : IntKind.i64.wrap (T - T % z + z) = T - T % z + z := IntWalk.i64_in _ (by omega)
  go_enter Tryz.func27, Tryz.ntmps27
  go_wp2
  all_goals
    go_ret
    exact ⟨_, rfl, own_lit1' (by simp) (by simp) _ _, (belB)⟩
end Go.Proofs.YtikidpcgnmffcaaGreat
