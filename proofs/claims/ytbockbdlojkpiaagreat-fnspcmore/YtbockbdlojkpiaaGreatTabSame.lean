/- Proved here: whether two lists of rows are the same, in the program (slices.Equal) and in the specification. -/
import Derived.Test.YtbockbdlojkpiaaGreatRwaTab
namespace Go.Proofs.YtbockbdlojkpiaaGreat
open Go.ChangeShapes Go.WideShapes Go.ChangeAt Go.RowKit
set_option linter.unusedVariables false

/-- Whether two rows are the same; two lists. -/
def eqR (x y : TbR) : Bool := x.ky == y.ky && x.st == y.st && x.en == y.en && x.n == y.n && x.su == y.su && x.le == y.le && x.mo == y.mo
def sameT : List TbR → List TbR → Bool
  | [], [] => true
  | x :: xs, y :: ys => eqR x y && sameT xs ys
  | _, _ => false
theorem sameT_len {xs ys : List TbR} (h : sameT xs ys = true) : xs.length = ys.length := by
  induction xs generalizing ys with
  | nil => cases ys with
    | nil => rfl
    | cons y ys => simp [sameT] at h
  | cons x xs ih => cases ys with
    | nil => simp [sameT] at h
    | cons y ys =>
      simp only [sameT, Bool.and_eq_true] at h
      simp [ih h.2]
theorem sameT_ne {xs ys : List TbR} (h : xs.length ≠ ys.length) : sameT xs ys = false := by
  cases e : sameT xs ys with
  | false => rfl
  | true => exact absurd (sameT_len e) h
theorem sameT_hit {xs ys : List TbR} {k : Nat} {x y : TbR} (hx : xs[k]? = some x) (hy : ys[k]? = some y) (he : eqR x y = false) : sameT xs ys = false := by
  induction k generalizing xs ys with
  | zero =>
    cases xs with
    | nil => simp at hx
    | cons a xs => cases ys with
      | nil => simp at hy
      | cons b ys => simp at hx hy; subst hx; subst hy; simp [sameT, he]
  | succ k ih =>
    cases xs with
    | nil => simp at hx
    | cons a xs => cases ys with
      | nil => simp at hy
      | cons b ys => simp at hx hy; simp [sameT, ih hx hy]
theorem sameT_all {xs ys : List TbR} (hl : xs.length = ys.length) (h : ∀ (k : Nat) (x y : TbR), xs[k]? = some x → ys[k]? = some y → eqR x y = true) : sameT xs ys = true := by
  induction xs generalizing ys with
  | nil => cases ys with
    | nil => rfl
    | cons y ys => simp at hl
  | cons x xs ih => cases ys with
    | nil => simp at hl
    | cons y ys =>
      have h0 := h 0 x y rfl rfl
      have h1 := ih (ys := ys) (by simpa using hl) (fun k a b ha hb => h (k + 1) a b (by simpa using ha) (by simpa using hb))
      simp [sameT, h0, h1]
theorem pre_step {xs ys : List TbR} {k : Nat} {x y : TbR} (hx : xs[k]? = some x) (hy : ys[k]? = some y) (he : eqR x y = true) (h : ∀ j, j < k → ∀ x y, xs[j]? = some x → ys[j]? = some y → eqR x y = true) : ∀ j, j < k + 1 → ∀ x y, xs[j]? = some x → ys[j]? = some y → eqR x y = true := by
  intro j hj a b ha hb
  by_cases e : j = k
  · subst e
    rw [hx] at ha; rw [hy] at hb
    cases ha; cases hb
    exact he
  · exact h j (by omega) a b ha hb
theorem sameT_end {xs ys : List TbR} {k : Nat} (hl : xs.length = ys.length) (hk : xs.length ≤ k) (h : ∀ j, j < k → ∀ x y, xs[j]? = some x → ys[j]? = some y → eqR x y = true) : sameT xs ys = true :=
  sameT_all hl (fun j x y hx hy => h j (by have := (List.getElem?_eq_some_iff.1 hx).1; omega) x y hx hy)

end Go.Proofs.YtbockbdlojkpiaaGreat
