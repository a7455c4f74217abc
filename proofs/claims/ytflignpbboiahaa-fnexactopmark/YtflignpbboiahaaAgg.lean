/- Proved here: what the functions on what is known of values answer, in the program and in the specification, at every argument. -/
import Derived.Test.YtflignpbboiahaaWin
import Derived.Deep.RegionHeld3
import Derived.Deep.DeepCutAuto
namespace Go.Proofs.Ytflignpbboiahaa
open Go.ChangeShapes Go.WideShapes Go.ChangeAt Go.RowKit
set_option linter.unusedVariables false

theorem list4 {α : Type} {l : List α} (h : l.length = 4) : ∃ a b c d, l = [a, b, c, d] := by
  match l, h with
  | [a, b, c, d], _ => exact ⟨a, b, c, d, rfl⟩

/-- What is told of values. -/
def tellI (n s l m k : Int) : Int := if k = 1 then n else if k = 2 then s else if k = 3 then l else if k = 4 then m else 0

theorem tellI_n {k : Int} (h1 : k ≠ 1) (h2 : k ≠ 2) (h3 : k ≠ 3) (h4 : k ≠ 4) (n s l m : Int) : tellI n s l m k = 0 := by unfold tellI; rw [if_neg h1, if_neg h2, if_neg h3, if_neg h4]

theorem toAgg_any (n s l m : Int) (w : World) : Calls Try.prog 50 #[.agg #[.int .i64 n, .int .i64 s, .int .i64 l, .int .i64 m]] w fun e w' => e = .returned (.agg #[.int .i64 n, .int .i64 s, .int .i64 l, .int .i64 m]) ∧ Below w.heap.size w w' := by
  go_enter Try.func50, Try.ntmps50
  go_wp2
  refine bodyPost_ret (v := .agg #[.int .i64 n, .int .i64 s, .int .i64 l, .int .i64 m]) (by simp [results, Try.results50, go_sem]) rfl ⟨rfl, ?_⟩
  exact (by repeat (first | exact Below.refl _ _ | exact bel_one _ _ | assumption | refine bel_alloc ?_ _ | refine bel_set ?_ (by first | (simp; done) | (simp; omega)) _ | refine bel_drew ?_ | refine bel_drewN ?_ _ | refine bel_trans ?_ (by assumption)))

/-- When what is known is ok. -/
def okAgg (n s l m : Int) : Bool := if n = 0 then (s == 0) && (l == 0) && (m == 0) else inB n 1 1000 && inB l (-9) 9 && inB m l 9 && inB s (n * l) (n * m)

theorem okAgg_0 (s l m : Int) : okAgg 0 s l m = ((s == 0) && (l == 0) && (m == 0)) := rfl

theorem okAgg_n {n : Int} (h : n ≠ 0) (s l m : Int) : okAgg n s l m = (inB n 1 1000 && inB l (-9) 9 && inB m l 9 && inB s (n * l) (n * m)) := if_neg h

theorem mul_in {n l : Int} (h1 : inB n 1 1000 = true) (h2 : inB l (-9) 9 = true) : -9000 ≤ n * l ∧ n * l ≤ 9000 := by
  rw [inB_iff] at h1 h2
  have a := Int.mul_le_mul_of_nonneg_left h2.2 (show (0 : Int) ≤ n by omega)
  have b := Int.mul_le_mul_of_nonneg_left h2.1 (show (0 : Int) ≤ n by omega)
  omega

theorem inB_up {m l : Int} (h1 : inB l (-9) 9 = true) (h2 : inB m l 9 = true) : inB m (-9) 9 = true := by
  rw [inB_iff] at *
  omega

theorem specaggok_any (n s l m : Int) (w : World) : Calls Try.prog 47 #[.agg #[.int .i64 n, .int .i64 s, .int .i64 l, .int .i64 m]] w fun e w' => e = .returned (.bool (okAgg n s l m)) ∧ Below w.heap.size w w' := by
  by_cases h0 : n = 0
  · subst h0
    rw [okAgg_0]
    cases c0 : (s == 0) <;> cases c1 : (l == 0) <;> cases c2 : (m == 0)
    all_goals
      have hq : Hid (true = true) := hide rfl
      go_enter Try.func47, Try.ntmps47
      go_wp2_with (go_at_call 17; refine (l1In_any _ _ _ _).mono ?_; rintro e w' ⟨rfl, rfl⟩)
      go_ret
      exact ⟨rfl, (by repeat (first | exact Below.refl _ _ | exact bel_one _ _ | assumption | refine bel_alloc ?_ _ | refine bel_set ?_ (by first | (simp; done) | (simp; omega)) _ | refine bel_drew ?_ | refine bel_drewN ?_ _ | refine bel_trans ?_ (by assumption)))⟩
  rw [okAgg_n h0]
  have g0 : (n == 0) = false := by simpa using h0
  clear h0
  cases c0 : inB n 1 1000
  · have hq : Hid ((false && inB l (-9) 9 && inB m l 9 && inB s (n * l) (n * m)) = false) := hide (by simp)
    go_enter Try.func47, Try.ntmps47
    go_wp2_with (go_at_call 17; refine (l1In_any _ _ _ _).mono ?_; rintro e w' ⟨rfl, rfl⟩)
    go_ret
    exact ⟨ret_b (unhide hq).symm, (by repeat (first | exact Below.refl _ _ | exact bel_one _ _ | assumption | refine bel_alloc ?_ _ | refine bel_set ?_ (by first | (simp; done) | (simp; omega)) _ | refine bel_drew ?_ | refine bel_drewN ?_ _ | refine bel_trans ?_ (by assumption)))⟩
  cases c1 : inB l (-9) 9
  · have hq : Hid ((true && false && inB m l 9 && inB s (n * l) (n * m)) = false) := hide (by simp)
    go_enter Try.func47, Try.ntmps47
    go_wp2_with (go_at_call 17; refine (l1In_any _ _ _ _).mono ?_; rintro e w' ⟨rfl, rfl⟩)
    go_ret
    exact ⟨ret_b (unhide hq).symm, (by repeat (first | exact Below.refl _ _ | exact bel_one _ _ | assumption | refine bel_alloc ?_ _ | refine bel_set ?_ (by first | (simp; done) | (simp; omega)) _ | refine bel_drew ?_ | refine bel_drewN ?_ _ | refine bel_trans ?_ (by assumption)))⟩
  cases c2 : inB m l 9
  · have hq : Hid ((true && true && false && inB s (n * l) (n * m)) = false) := hide (by simp)
    go_enter Try.func47, Try.ntmps47
    go_wp2_with (go_at_call 17; refine (l1In_any _ _ _ _).mono ?_; rintro e w' ⟨rfl, rfl⟩)
    go_ret
    exact ⟨ret_b (unhide hq).symm, (by repeat (first | exact Below.refl _ _ | exact bel_one _ _ | assumption | refine bel_alloc ?_ _ | refine bel_set ?_ (by first | (simp; done) | (simp; omega)) _ | refine bel_drew ?_ | refine bel_drewN ?_ _ | refine bel_trans ?_ (by assumption)))⟩
  have m1 := mul_in c0 c1
  have m2 := mul_in c0 (inB_up c1 c2)
  have hq : Hid ((true && true && true && inB s (n * l) (n * m)) = inB s (n * l) (n * m)) := hide (by simp)
  go_enter Try.func47, Try.ntmps47
  go_wp2_with (go_at_call 17; refine (l1In_any _ _ _ _).mono ?_; rintro e w' ⟨rfl, rfl⟩)
  go_ret
  exact ⟨ret_b (unhide hq).symm, (by repeat (first | exact Below.refl _ _ | exact bel_one _ _ | assumption | refine bel_alloc ?_ _ | refine bel_set ?_ (by first | (simp; done) | (simp; omega)) _ | refine bel_drew ?_ | refine bel_drewN ?_ _ | refine bel_trans ?_ (by assumption)))⟩

theorem aggok_any (n s l m : Int) (w : World) : Calls Try.prog 53 #[.agg #[.int .i64 n, .int .i64 s, .int .i64 l, .int .i64 m]] w fun e w' => e = .returned (.bool (okAgg n s l m)) ∧ Below w.heap.size w w' := by
  by_cases h0 : n = 0
  · subst h0
    rw [okAgg_0]
    cases c0 : (s == 0) <;> cases c1 : (l == 0) <;> cases c2 : (m == 0)
    all_goals
      have hq : Hid (true = true) := hide rfl
      go_enter Try.func53, Try.ntmps53
      go_wp2_with (go_at_call 22; refine (within_any _ _ _ _).mono ?_; rintro e w' ⟨rfl, rfl⟩)
      go_ret
      exact ⟨rfl, (by repeat (first | exact Below.refl _ _ | exact bel_one _ _ | assumption | refine bel_alloc ?_ _ | refine bel_set ?_ (by first | (simp; done) | (simp; omega)) _ | refine bel_drew ?_ | refine bel_drewN ?_ _ | refine bel_trans ?_ (by assumption)))⟩
  rw [okAgg_n h0]
  have g0 : (n == 0) = false := by simpa using h0
  clear h0
  cases c0 : inB n 1 1000
  · have hq : Hid ((false && inB l (-9) 9 && inB m l 9 && inB s (n * l) (n * m)) = false) := hide (by simp)
    go_enter Try.func53, Try.ntmps53
    go_wp2_with (go_at_call 22; refine (within_any _ _ _ _).mono ?_; rintro e w' ⟨rfl, rfl⟩)
    go_ret
    exact ⟨ret_b (unhide hq).symm, (by repeat (first | exact Below.refl _ _ | exact bel_one _ _ | assumption | refine bel_alloc ?_ _ | refine bel_set ?_ (by first | (simp; done) | (simp; omega)) _ | refine bel_drew ?_ | refine bel_drewN ?_ _ | refine bel_trans ?_ (by assumption)))⟩
  cases c1 : inB l (-9) 9
  · have hq : Hid ((true && false && inB m l 9 && inB s (n * l) (n * m)) = false) := hide (by simp)
    go_enter Try.func53, Try.ntmps53
    go_wp2_with (go_at_call 22; refine (within_any _ _ _ _).mono ?_; rintro e w' ⟨rfl, rfl⟩)
    go_ret
    exact ⟨ret_b (unhide hq).symm, (by repeat (first | exact Below.refl _ _ | exact bel_one _ _ | assumption | refine bel_alloc ?_ _ | refine bel_set ?_ (by first | (simp; done) | (simp; omega)) _ | refine bel_drew ?_ | refine bel_drewN ?_ _ | refine bel_trans ?_ (by assumption)))⟩
  cases c2 : inB m l 9
  · have hq : Hid ((true && true && false && inB s (n * l) (n * m)) = false) := hide (by simp)
    go_enter Try.func53, Try.ntmps53
    go_wp2_with (go_at_call 22; refine (within_any _ _ _ _).mono ?_; rintro e w' ⟨rfl, rfl⟩)
    go_ret
    exact ⟨ret_b (unhide hq).symm, (by repeat (first | exact Below.refl _ _ | exact bel_one _ _ | assumption | refine bel_alloc ?_ _ | refine bel_set ?_ (by first | (simp; done) | (simp; omega)) _ | refine bel_drew ?_ | refine bel_drewN ?_ _ | refine bel_trans ?_ (by assumption)))⟩
  have m1 := mul_in c0 c1
  have m2 := mul_in c0 (inB_up c1 c2)
  have hq : Hid ((true && true && true && inB s (n * l) (n * m)) = inB s (n * l) (n * m)) := hide (by simp)
  go_enter Try.func53, Try.ntmps53
  go_wp2_with (go_at_call 22; refine (within_any _ _ _ _).mono ?_; rintro e w' ⟨rfl, rfl⟩)
  go_ret
  exact ⟨ret_b (unhide hq).symm, (by repeat (first | exact Below.refl _ _ | exact bel_one _ _ | assumption | refine bel_alloc ?_ _ | refine bel_set ?_ (by first | (simp; done) | (simp; omega)) _ | refine bel_drew ?_ | refine bel_drewN ?_ _ | refine bel_trans ?_ (by assumption)))⟩
end Go.Proofs.Ytflignpbboiahaa
