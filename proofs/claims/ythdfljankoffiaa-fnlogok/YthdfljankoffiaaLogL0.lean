/- Proved here: what the law on LogOk computes is okLog. -/
import Derived.Test.YthdfljankoffiaaLogImpl
import Derived.Test.YthdfljankoffiaaDrawLog
namespace Go.Proofs.Ythdfljankoffiaa
open Go.ChangeShapes Go.WideShapes Go.ChangeAt Go.RowKit
set_option linter.unusedVariables false

/-- What is known ahead of an item. -/
def LkR (xs : List It) (k : Nat) (mk : Int) (b : Bool) : Prop := (b = true ∧ (1 ≤ xs.length ∧ xs.length ≤ 40) ∧ logGo xs 0 = logGo (xs.drop k) mk) ∨ (b = false ∧ okLog xs = false)
theorem okLog_go {xs : List It} (h : logGo xs 0 = false) : okLog xs = false := by simp [okLog, h]
theorem logGo_ok {xs : List It} {m : Int} (h : logGo xs m = true) : ∀ {i : Nat} {x : It}, xs[i]? = some x → x.okB = true := by
  induction xs generalizing m with
  | nil => intro i x hx; simp at hx
  | cons y r ih =>
    intro i x hx
    simp only [logGo, Bool.and_eq_true] at h
    cases i with
    | zero => simp at hx; subst hx; exact h.1.1
    | succ i =>
      simp at hx
      by_cases h2 : y.q = 2
      · rw [if_pos h2, Bool.and_eq_true] at h; exact ih h.2.2 hx
      · rw [if_neg h2] at h; exact ih h.2 hx
theorem okLog_end {xs : List It} {n : Nat} {y : It} (hl : xs.length = n + 1) (hL : 1 ≤ xs.length ∧ xs.length ≤ 40) (hy : xs[n]? = some y) (h : logGo xs 0 = true) : okLog xs = (y.q == 2 && y.t == 1000) := by
  have hlast : xs.getLast? = some y := by rw [List.getLast?_eq_getElem?]; simpa [hl] using hy
  have hin : inB (xs.length : Int) 1 40 = true := inB_iff.2 ⟨by omega, by omega⟩
  have ho := logGo_ok h hy
  unfold okLog
  rw [hlast, hin, h]
  obtain ⟨q, t, kk, v, nn⟩ := y
  simp only [It.endB, Bool.true_and, Bool.and_true]
  by_cases e0 : q = 2
  · subst e0
    by_cases e1 : t = 1000
    · subst e1
      have ho' : okMark 1000 kk v nn = true := ho
      simp [okMark] at ho'
      simp [ho']
    · have e1' : (t == 1000) = false := beq_eq_false_iff_ne.2 e1
      simp only [e1', Bool.false_and, Bool.and_false]
  · have e0' : (q == 2) = false := beq_eq_false_iff_ne.2 e0
    simp only [e0', Bool.false_and]
def endL : List It := [⟨2, 1000, 0, 0, 0⟩]
theorem okLog_endL : okLog endL = true := by simp [okLog, endL, It.endB, logGo, It.okB, okItm, okMark, inB]
theorem endL_its (W : World) (ty : Nat) : Its (W.alloc (.cells #[.int .i64 2, .int .i64 1000, .int .i64 0, .int .i64 0, .int .i64 0] ty)) (some ⟨W.heap.size, 0, none⟩) 1 endL := by
  refine ⟨rfl, by unfold maxLen; omega, Or.inr ⟨_, _, rfl, fun i x hx => ?_⟩⟩
  cases i with
  | zero =>
    simp [endL] at hx
    subst hx
    refine ⟨?_, ?_, ?_, ?_, ?_⟩ <;> simp [go_sem]
  | succ i => simp [endL] at hx
/-- What is known of a drawn log: items in memory. -/
def LogsD (w : World) (e : Ending) (w' : World) : Prop := ∃ (a1 : Option Addr) (len1 cap1 : Nat) (xs : List It), e = .returned (.slice a1 len1 cap1) ∧ Its w' a1 len1 xs ∧ Below w.heap.size w w'
end Go.Proofs.Ythdfljankoffiaa
