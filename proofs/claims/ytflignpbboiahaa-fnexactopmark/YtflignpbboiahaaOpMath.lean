/- Proved here: when rows are an operator's, as a list: each row by itself, and each against the one ahead of it. -/
import Derived.Test.YtflignpbboiahaaOpAhd
namespace Go.Proofs.Ytflignpbboiahaa
open Go.ChangeShapes Go.WideShapes Go.ChangeAt Go.RowKit
set_option linter.unusedVariables false

/-- A row is ok; it may stand behind another one; so far all rows are and do. -/
def OrR.okB (l mark : Int) (x : OrR) : Bool := okRow l mark x.ky x.st x.en x.an x.asu x.ale x.amo x.fn x.fsu x.fle x.fmo x.td x.tm

def nextO (kd : Int) (y x : OrR) : Bool := nextP kd x.ky x.st x.en y.ky y.st y.en

def okAt (kd l mark : Int) (xs : List OrR) (i : Nat) : Bool := match xs[i]? with
  | none => true
  | some x => x.okB l mark && match i with
    | 0 => true
    | j + 1 => match xs[j]? with
      | some y => nextO kd y x
      | none => true

def okUp (kd l mark : Int) (xs : List OrR) (n : Nat) : Bool := (List.range n).all (okAt kd l mark xs)

theorem okUp_succ (kd l mark : Int) (xs : List OrR) (n : Nat) : okUp kd l mark xs (n + 1) = (okUp kd l mark xs n && okAt kd l mark xs n) := by
  simp [okUp, List.range_succ]

theorem okUp_bad {kd l mark : Int} {xs : List OrR} {n i : Nat} (hi : i < n) (h : okAt kd l mark xs i = false) : okUp kd l mark xs n = false := by
  cases hc : okUp kd l mark xs n
  · rfl
  · have := List.all_eq_true.1 hc i (List.mem_range.2 hi)
    rw [h] at this
    cases this

theorem okUp_at {kd l mark : Int} {xs : List OrR} {n i : Nat} (hc : okUp kd l mark xs n = true) (hi : i < n) : okAt kd l mark xs i = true := List.all_eq_true.1 hc i (List.mem_range.2 hi)

theorem okAt_z {kd l mark : Int} {xs : List OrR} {x : OrR} (hx : xs[0]? = some x) : okAt kd l mark xs 0 = x.okB l mark := by simp [okAt, hx]

theorem okAt_s {kd l mark : Int} {xs : List OrR} {j : Nat} {x y : OrR} (hx : xs[j + 1]? = some x) (hy : xs[j]? = some y) : okAt kd l mark xs (j + 1) = (x.okB l mark && nextO kd y x) := by simp [okAt, hx, hy]

theorem okAt_z' {kd l mark : Int} {xs : List OrR} {i : Nat} {x : OrR} (h0 : i = 0) (hx : xs[i]? = some x) : okAt kd l mark xs i = x.okB l mark := by subst h0; exact okAt_z hx

theorem okAt_s' {kd l mark : Int} {xs : List OrR} {i j : Nat} {x y : OrR} (he : i = j + 1) (hx : xs[i]? = some x) (hy : xs[j]? = some y) : okAt kd l mark xs i = (x.okB l mark && nextO kd y x) := by subst he; exact okAt_s hx hy

theorem okAt_row {kd l mark : Int} {xs : List OrR} {i : Nat} {x : OrR} (hx : xs[i]? = some x) (h : x.okB l mark = false) : okAt kd l mark xs i = false := by simp [okAt, hx, h]

theorem okAt_ok {kd l mark : Int} {xs : List OrR} {i : Nat} {x : OrR} (hx : xs[i]? = some x) (h : okAt kd l mark xs i = true) : x.okB l mark = true := by
  simp only [okAt, hx, Bool.and_eq_true] at h
  exact h.1

theorem okB_win {l mark : Int} {x : OrR} (h : x.okB l mark = true) : 0 ≤ x.st ∧ x.st < x.en ∧ x.en ≤ 120 := by
  simp only [OrR.okB, okRow, Bool.and_eq_true] at h
  exact okWin_en h.1.1.1.1.1.1.1.1.1.2

theorem aheadP_iff {ky st en ky' st' en' : Int} : aheadP ky st en ky' st' en' = true ↔ (ky < ky' ∨ (ky = ky' ∧ (st < st' ∨ (st = st' ∧ en < en')))) := by
  by_cases h : ky = ky'
  · subst h
    by_cases h2 : st = st'
    · subst h2
      rw [aheadP_en]
      simp
    · rw [aheadP_st h2]
      simp
      omega
  · rw [aheadP_ky h]
    simp
    omega

theorem far_step {kd l mark : Int} {y x : OrR} (hk : kd = 3) (hx : x.okB l mark = true) (hy : y.okB l mark = true) (hn : nextO kd y x = true) : y.ky ≤ x.ky ∧ (y.ky = x.ky → y.en ≤ x.st) := by
  have h1 := okB_win hx
  have h2 := okB_win hy
  simp only [nextO, nextP, Bool.and_eq_true] at hn
  have h3 := aheadP_iff.1 hn.2
  refine ⟨by omega, fun e => ?_⟩
  have h4 := hn.1
  rw [hk, e] at h4
  have h5 : touchB x.st x.en y.st y.en = false := by simpa using h4
  simp only [touchB] at h5
  have h6 : ¬ (x.st < y.en ∧ y.st < x.en) := by
    intro hh
    simp [hh.1, hh.2] at h5
  omega

/-- Where no two neighbours touch no two at all do. -/
theorem okUp_far {kd l mark : Int} {xs : List OrR} {n : Nat} (hk : kd = 3) (h : okUp kd l mark xs n = true) : ∀ i, i < n → ∀ k, k < i → ∀ x y, xs[i]? = some x → xs[k]? = some y → y.ky ≤ x.ky ∧ (y.ky = x.ky → y.en ≤ x.st) := by
  intro i
  induction i with
  | zero => intro _ k hk; omega
  | succ i ih =>
    intro hi k hki x y hx hy
    have hil : i < xs.length := by have := (List.getElem?_eq_some_iff.1 hx).1; omega
    obtain ⟨z, hz⟩ : ∃ z, xs[i]? = some z := ⟨_, List.getElem?_eq_getElem hil⟩
    have a1 := okUp_at h hi
    have a0 := okUp_at h (Nat.lt_of_succ_lt hi)
    have hxb := okAt_ok hx a1
    have hzb := okAt_ok hz a0
    rw [okAt_s hx hz, Bool.and_eq_true] at a1
    have st := far_step hk hxb hzb a1.2
    by_cases he : k = i
    · subst he
      rw [hz] at hy
      cases hy
      exact st
    · have st2 := ih (Nat.lt_of_succ_lt hi) k (by omega) z y hz hy
      have w1 := okB_win hzb
      refine ⟨by omega, fun e => ?_⟩
      have e1 : z.ky = x.ky := by omega
      have e2 : y.ky = z.ky := by omega
      have := st.2 e1
      have := st2.2 e2
      omega

/-- A row that touches one ahead of it, however far, is not ok. -/
theorem okAt_touch {kd l mark : Int} {xs : List OrR} {i k : Nat} {x y : OrR} (hk : kd = 3) (h : okUp kd l mark xs i = true) (hki : k < i) (hx : xs[i]? = some x) (hy : xs[k]? = some y) (e : y.ky = x.ky) (ht : touchB y.st y.en x.st x.en = true) : okAt kd l mark xs i = false := by
  cases hc : okAt kd l mark xs i
  · rfl
  · have h1 : okUp kd l mark xs (i + 1) = true := by rw [okUp_succ, h, hc]; rfl
    have h2 := (okUp_far hk h1 i (by omega) k hki x y hx hy).2 e
    simp only [touchB, Bool.and_eq_true, decide_eq_true_eq] at ht
    omega

/-- When an operator is ok. -/
def okOp (s t k z p l e v r mark : Int) (xs : List OrR) : Bool := okJob s t k z p l e v r && inB mark 0 1000 && decide (xs.length ≤ 300) && okUp k l mark xs xs.length

theorem okJob_l {s t k z p l e v r : Int} (h : okJob s t k z p l e v r = true) : 0 ≤ l ∧ l ≤ 20 := by
  simp only [okJob, Bool.and_eq_true] at h
  exact inB_iff.1 h.1.1.1.2

theorem okOp_j {s t k z p l e v r mark : Int} {xs : List OrR} (h : okJob s t k z p l e v r = false) : okOp s t k z p l e v r mark xs = false := by simp [okOp, h]

theorem okOp_m {s t k z p l e v r mark : Int} {xs : List OrR} (h : inB mark 0 1000 = false) : okOp s t k z p l e v r mark xs = false := by simp [okOp, h]

theorem okOp_n {s t k z p l e v r mark : Int} {xs : List OrR} (h : ¬ xs.length ≤ 300) : okOp s t k z p l e v r mark xs = false := by simp [okOp, h]

theorem okOp_t {s t k z p l e v r mark : Int} {xs : List OrR} (h1 : okJob s t k z p l e v r = true) (h2 : inB mark 0 1000 = true) (h3 : xs.length ≤ 300) : okOp s t k z p l e v r mark xs = okUp k l mark xs xs.length := by simp [okOp, h1, h2, h3]
end Go.Proofs.Ytflignpbboiahaa
