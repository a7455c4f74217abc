/- Proved here: what the functions on what is known of values answer, in the program and in the specification, at every argument. -/
import Derived.Test.YtikidpcgnmffcaaWin
import Derived.Deep.RegionHeld3
import Derived.Deep.DeepCutAuto
namespace Go.Proofs.Ytikidpcgnmffcaa
open Go.ChangeShapes Go.WideShapes Go.ChangeAt Go.RowKit
set_option linter.unusedVariables false

theorem list4 {α : Type} {l : List α} (h : l.length = 4) : ∃ a b c d, l = [a, b, c, d] := by
  match l, h with
  | [a, b, c, d], _ => exact ⟨a, b, c, d, rfl⟩

/-- What is told of values. -/
def tellI (n s l m k : Int) : Int := if k = 1 then n else if k = 2 then s else if k = 3 then l else if k = 4 then m else 0

theorem tellI_n {k : Int} (h1 : k ≠ 1) (h2 : k ≠ 2) (h3 : k ≠ 3) (h4 : k ≠ 4) (n s l m : Int) : tellI n s l m k = 0 := by unfold tellI; rw [if_neg h1, if_neg h2, if_neg h3, if_neg h4]

theorem toAgg_any (n s l m : Int) (w : World) : Calls Try.prog 35 #[.agg #[.int .i64 n, .int .i64 s, .int .i64 l, .int .i64 m]] w fun e w' => e = .returned (.agg #[.int .i64 n, .int .i64 s, .int .i64 l, .int .i64 m]) ∧ Below w.heap.size w w' := by
  go_enter Try.func35, Try.ntmps35
  go_wp2
  refine bodyPost_ret (v := .agg #[.int .i64 n, .int .i64 s, .int .i64 l, .int .i64 m]) (by simp [results, Try.results35, go_sem]) rfl ⟨rfl, ?_⟩
  exact (by repeat (first | exact Below.refl _ _ | exact bel_one _ _ | assumption | refine bel_alloc ?_ _ | refine bel_set ?_ (by first | (simp; done) | (simp; omega)) _ | refine bel_drew ?_ | refine bel_drewN ?_ _ | refine bel_trans ?_ (by assumption)))

/-- When what is known is ok. -/
def okAgg (n s l m : Int) : Bool := if n = 0 then (s == 0) && (l == 0) && (m == 0) else inB n 1 1000 && inB l (-9) 9 && inB m l 9 && inB s (n * l) (n * m)

theorem okAgg_0 (s l m : Int) : okAgg 0 s l m = ((s == 0) && (l == 0) && (m == 0)) := rfl

theorem okAgg_n {n : Int} (h : n ≠ 0) (s l m : Int) : okAgg n s l m = (inB n 1 1000 && inB l (-9) 9 && inB m l 9 && inB s (n * l) (n * m)) := if_neg h

theorem mul_in {n l : Int} (h1 : inB n 1 1000 = true) (h2 : inB l (-9) 9 = true) : -9000 ≤ n * l ∧ n * l ≤ 9000 := by
  rw [inB_iff] at h1 h2
  have a := Int.mul_le_mul_of_nonneg_left h2.2 (show (0 : Int) ≤ n by omega)
  have b := Int.mul_le_mul_of_nonneg_left h2.1 (show (0 : Int) ≤ n by omega)
  omega

theorem inB_up {m l : Int} (h1 : inB l (-9) 9 = true) (h2 : inB m l 9 = true) : inB m (-9) 9 = true := by
  rw [inB_iff] at *
  omega
end Go.Proofs.Ytikidpcgnmffcaa
