/- Laid together: what the claim needs of the texts that were built one by one. -/
import Derived.Test.YtabphkmhafflbaaPkOpAhd
import Derived.Test.YtabphkmhafflbaaPkBase
namespace Go.Proofs.Ytabphkmhafflbaa
open Go.ChangeShapes Go.WideShapes Go.ChangeAt Go.RowKit
set_option linter.unusedVariables false

/-- A row is ok; it may stand behind another one; so far all rows are and do. -/
def OrR.okB (l mark : Int) (x : OrR) : Bool := okRow l mark x.ky x.st x.en x.an x.asu x.ale x.amo x.fn x.fsu x.fle x.fmo x.td x.tm

def nextO (kd : Int) (y x : OrR) : Bool := nextP kd x.ky x.st x.en y.ky y.st y.en

def okAt (kd l mark : Int) (xs : List OrR) (i : Nat) : Bool := match xs[i]? with
  | none => true
  | some x => x.okB l mark && match i with
    | 0 => true
    | j + 1 => match xs[j]? with
      | some y => nextO kd y x
      | none => true

def okUp (kd l mark : Int) (xs : List OrR) (n : Nat) : Bool := (List.range n).all (okAt kd l mark xs)

theorem okUp_succ (kd l mark : Int) (xs : List OrR) (n : Nat) : okUp kd l mark xs (n + 1) = (okUp kd l mark xs n && okAt kd l mark xs n) := by
  simp [okUp, List.range_succ]

theorem okUp_bad {kd l mark : Int} {xs : List OrR} {n i : Nat} (hi : i < n) (h : okAt kd l mark xs i = false) : okUp kd l mark xs n = false := by
  cases hc : okUp kd l mark xs n
  · rfl
  · have := List.all_eq_true.1 hc i (List.mem_range.2 hi)
    rw [h] at this
    cases this

theorem okAt_z {kd l mark : Int} {xs : List OrR} {x : OrR} (hx : xs[0]? = some x) : okAt kd l mark xs 0 = x.okB l mark := by simp [okAt, hx]

theorem okAt_s {kd l mark : Int} {xs : List OrR} {j : Nat} {x y : OrR} (hx : xs[j + 1]? = some x) (hy : xs[j]? = some y) : okAt kd l mark xs (j + 1) = (x.okB l mark && nextO kd y x) := by simp [okAt, hx, hy]

theorem okAt_z' {kd l mark : Int} {xs : List OrR} {i : Nat} {x : OrR} (h0 : i = 0) (hx : xs[i]? = some x) : okAt kd l mark xs i = x.okB l mark := by subst h0; exact okAt_z hx

theorem okAt_s' {kd l mark : Int} {xs : List OrR} {i j : Nat} {x y : OrR} (he : i = j + 1) (hx : xs[i]? = some x) (hy : xs[j]? = some y) : okAt kd l mark xs i = (x.okB l mark && nextO kd y x) := by subst he; exact okAt_s hx hy

theorem okAt_row {kd l mark : Int} {xs : List OrR} {i : Nat} {x : OrR} (hx : xs[i]? = some x) (h : x.okB l mark = false) : okAt kd l mark xs i = false := by simp [okAt, hx, h]

/-- When an operator is ok. -/
def okOp (s t k z p l e v r mark : Int) (xs : List OrR) : Bool := okJob s t k z p l e v r && inB mark 0 1000 && decide (xs.length ≤ 300) && okUp k l mark xs xs.length

theorem okJob_l {s t k z p l e v r : Int} (h : okJob s t k z p l e v r = true) : 0 ≤ l ∧ l ≤ 20 := by
  simp only [okJob, Bool.and_eq_true] at h
  exact inB_iff.1 h.1.1.1.2

theorem okOp_j {s t k z p l e v r mark : Int} {xs : List OrR} (h : okJob s t k z p l e v r = false) : okOp s t k z p l e v r mark xs = false := by simp [okOp, h]

theorem okOp_m {s t k z p l e v r mark : Int} {xs : List OrR} (h : inB mark 0 1000 = false) : okOp s t k z p l e v r mark xs = false := by simp [okOp, h]

theorem okOp_n {s t k z p l e v r mark : Int} {xs : List OrR} (h : ¬ xs.length ≤ 300) : okOp s t k z p l e v r mark xs = false := by simp [okOp, h]

theorem okOp_t {s t k z p l e v r mark : Int} {xs : List OrR} (h1 : okJob s t k z p l e v r = true) (h2 : inB mark 0 1000 = true) (h3 : xs.length ≤ 300) : okOp s t k z p l e v r mark xs = okUp k l mark xs xs.length := by simp [okOp, h1, h2, h3]
end Go.Proofs.Ytabphkmhafflbaa
