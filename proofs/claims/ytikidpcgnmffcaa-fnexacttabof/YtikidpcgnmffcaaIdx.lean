/- Proved here: which row stands ahead of another one; the first that a row stands ahead of. -/
import Derived.Test.YtikidpcgnmffcaaCmp
import Derived.Test.YtikidpcgnmffcaaTabFnd
namespace Go.Proofs.Ytikidpcgnmffcaa
open Go.ChangeShapes Go.WideShapes Go.ChangeAt Go.RowKit
set_option linter.unusedVariables false

/-- Whether a row stands ahead of another one. -/
def aheadR (r x : TbR) : Bool := decide (plCmp r.ky r.st r.en x.ky x.st x.en < 0)

/-- The place of the first row that a row stands ahead of, or -1. -/
def idxR (r : TbR) (xs : List TbR) : Int := match xs.findIdx? (aheadR r) with
  | some i => (i : Int)
  | none => -1

theorem idxR_hit {r : TbR} {xs : List TbR} {j : Nat} {x : TbR} (hx : xs[j]? = some x) (h0 : ∀ i, i < j → ∀ y, xs[i]? = some y → aheadR r y = false) (hb : aheadR r x = true) : idxR r xs = (j : Int) := by
  have hj := (List.getElem?_eq_some_iff.1 hx)
  have hj1 := hj.1
  have : xs.findIdx? (aheadR r) = some j := by
    rw [List.findIdx?_eq_some_iff_getElem]
    refine ⟨hj.1, by rw [hj.2]; exact hb, fun i hi => ?_⟩
    have := h0 i hi _ (List.getElem?_eq_getElem (by omega))
    simp [this]
  unfold idxR
  rw [this]

theorem idxR_none {r : TbR} {xs : List TbR} (h0 : ∀ i, i < xs.length → ∀ y, xs[i]? = some y → aheadR r y = false) : idxR r xs = -1 := by
  have : xs.findIdx? (aheadR r) = none := by
    rw [List.findIdx?_eq_none_iff]
    intro x hx
    obtain ⟨i, hi, rfl⟩ := List.getElem_of_mem hx
    exact h0 i hi _ (List.getElem?_eq_getElem hi)
  unfold idxR
  rw [this]

theorem idx_step {r : TbR} {xs : List TbR} {j : Nat} {x : TbR} (hx : xs[j]? = some x) (h0 : ∀ i, i < j → ∀ y, xs[i]? = some y → aheadR r y = false) (hb : aheadR r x = false) : ∀ i, i < j + 1 → ∀ y, xs[i]? = some y → aheadR r y = false := by
  intro i hi y hy
  by_cases e : i = j
  · subst e; rw [hx] at hy; cases hy; exact hb
  · exact h0 i (by omega) y hy

end Go.Proofs.Ytikidpcgnmffcaa
