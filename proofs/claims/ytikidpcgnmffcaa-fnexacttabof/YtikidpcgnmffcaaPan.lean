/- Proved here: when a pane is ok, in the program and in the specification, at every argument. -/
import Derived.Test.YtikidpcgnmffcaaAgg
import Derived.Test.YtikidpcgnmffcaaGenF
namespace Go.Proofs.Ytikidpcgnmffcaa
open Go.ChangeShapes Go.WideShapes Go.ChangeAt Go.RowKit
set_option linter.unusedVariables false

/-- When a window of a key is ok; when a pane is. -/
def okPlace (ky st en : Int) : Bool := inB ky 0 3 && okWin st en

def kindB (kd no n : Int) : Bool := if kd = 3 then n == 0 && decide (0 < no) else decide (0 < n) && ((kd == 1 && no == 0) || (kd == 2 && decide (0 < no)))

def okPan (ky st en no kd n s l m : Int) : Bool := inB ky 0 3 && okWin st en && inB no 0 1500 && okAgg n s l m && kindB kd no n

theorem okAgg_pos {n s l m : Int} (h : okAgg n s l m = true) : n = 0 ∨ 0 < n := by
  by_cases h0 : n = 0
  · exact Or.inl h0
  · rw [okAgg_n h0] at h
    simp only [Bool.and_eq_true] at h
    have := inB_iff.1 h.1.1.1
    omega

theorem panplace_any (ky st en no kd n s l m : Int) (w : World) : Calls Try.prog 26 #[.agg #[.int .i64 ky, .int .i64 st, .int .i64 en, .int .i64 no, .int .i64 kd, .int .i64 n, .int .i64 s, .int .i64 l, .int .i64 m]] w fun e' w' => e' = .returned (.agg #[.int .i64 ky, .int .i64 st, .int .i64 en]) ∧ Below w.heap.size w w' := by
  go_enter Try.func26, Try.ntmps26
  go_wp2
  refine bodyPost_ret (v := .agg #[.int .i64 ky, .int .i64 st, .int .i64 en]) (by simp [results, Try.results26, go_sem]) rfl ⟨rfl, ?_⟩
  exact (by repeat (first | (with_reducible refine bel_set ?_ (by first | (simp; done) | (simp; omega)) _) | (with_reducible refine bel_alloc ?_ _) | (with_reducible exact Below.refl _ _) | (with_reducible assumption) | (with_reducible refine bel_drew ?_) | (with_reducible refine bel_drewN ?_ _) | (with_reducible refine bel_trans ?_ (by with_reducible assumption))))

theorem toPan_any (ky st en no kd n s l m : Int) (w : World) : Calls Try.prog 25 #[.agg #[.int .i64 ky, .int .i64 st, .int .i64 en, .int .i64 no, .int .i64 kd, .int .i64 n, .int .i64 s, .int .i64 l, .int .i64 m]] w fun e' w' => e' = .returned (.agg #[.int .i64 ky, .int .i64 st, .int .i64 en, .int .i64 no, .int .i64 kd, .int .i64 n, .int .i64 s, .int .i64 l, .int .i64 m]) ∧ Below w.heap.size w w' := by
  go_enter Try.func25, Try.ntmps25
  go_wp2_with (first
    | (go_at_call 34; refine (toWin_any _ _ _).mono ?_; rintro e w' ⟨rfl, hb⟩; obtain ⟨hc, hf, hs⟩ := bcell hb; (try have hz0 : w.heap.size < w'.heap.size := (by have h9 := hb.size; (try simp at h9); omega)); (try have hz1 : w.heap.size + 1 < w'.heap.size := (by have h9 := hb.size; (try simp at h9); omega)); (try have hz2 : w.heap.size + 1 + 1 < w'.heap.size := (by have h9 := hb.size; (try simp at h9); omega)))
    | (go_at_call 35; refine (toAgg_any _ _ _ _ _).mono ?_; rintro e w' ⟨rfl, hb⟩; obtain ⟨hc, hf, hs⟩ := bcell hb; (try have hz0 : w.heap.size < w'.heap.size := (by have h9 := hb.size; (try simp at h9); omega)); (try have hz1 : w.heap.size + 1 < w'.heap.size := (by have h9 := hb.size; (try simp at h9); omega)); (try have hz2 : w.heap.size + 1 + 1 < w'.heap.size := (by have h9 := hb.size; (try simp at h9); omega))))
  refine bodyPost_ret (v := .agg #[.int .i64 ky, .int .i64 st, .int .i64 en, .int .i64 no, .int .i64 kd, .int .i64 n, .int .i64 s, .int .i64 l, .int .i64 m]) (by simp (maxDischargeDepth := 9) [results, Try.results25, go_sem, *]) rfl ⟨rfl, ?_⟩
  exact (by repeat (first | (with_reducible refine bel_set ?_ (by first | (simp; done) | (simp; omega)) _) | (with_reducible refine bel_alloc ?_ _) | (with_reducible exact Below.refl _ _) | (with_reducible assumption) | (with_reducible refine bel_drew ?_) | (with_reducible refine bel_drewN ?_ _) | (with_reducible refine bel_trans ?_ (by with_reducible assumption))))

end Go.Proofs.Ytikidpcgnmffcaa
