/- Proved here: how many values rows know of, in the program and in the specification. -/
import Derived.Test.YtikidpcgnmffcaaRwaTab
namespace Go.Proofs.Ytikidpcgnmffcaa
open Go.ChangeShapes Go.WideShapes Go.ChangeAt Go.RowKit
set_option linter.unusedVariables false

theorem take_snocT {α : Type} {xs : List α} {k : Nat} {x : α} (h : xs[k]? = some x) : xs.take (k + 1) = xs.take k ++ [x] := by
  obtain ⟨hk, he⟩ := List.getElem?_eq_some_iff.1 h
  rw [List.take_add_one, h]; rfl
/-- How many values rows know of. -/
def countT (xs : List TbR) : Int := xs.foldl (fun a x => wrap64 (a + x.n)) 0
theorem countT_snoc {xs : List TbR} {k : Nat} {x : TbR} (h : xs[k]? = some x) : countT (xs.take (k + 1)) = wrap64 (countT (xs.take k) + x.n) := by
  unfold countT
  rw [take_snocT h, List.foldl_append]
  rfl

end Go.Proofs.Ytikidpcgnmffcaa
