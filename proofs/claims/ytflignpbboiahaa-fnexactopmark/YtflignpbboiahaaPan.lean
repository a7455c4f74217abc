/- Proved here: when a pane is ok, in the program and in the specification, at every argument. -/
import Derived.Test.YtflignpbboiahaaAgg
import Derived.Test.YtflignpbboiahaaGenF
namespace Go.Proofs.Ytflignpbboiahaa
open Go.ChangeShapes Go.WideShapes Go.ChangeAt Go.RowKit
set_option linter.unusedVariables false

/-- When a window of a key is ok; when a pane is. -/
def okPlace (ky st en : Int) : Bool := inB ky 0 3 && okWin st en

def kindB (kd no n : Int) : Bool := if kd = 3 then n == 0 && decide (0 < no) else decide (0 < n) && ((kd == 1 && no == 0) || (kd == 2 && decide (0 < no)))

def okPan (ky st en no kd n s l m : Int) : Bool := inB ky 0 3 && okWin st en && inB no 0 1500 && okAgg n s l m && kindB kd no n

theorem okAgg_pos {n s l m : Int} (h : okAgg n s l m = true) : n = 0 ∨ 0 < n := by
  by_cases h0 : n = 0
  · exact Or.inl h0
  · rw [okAgg_n h0] at h
    simp only [Bool.and_eq_true] at h
    have := inB_iff.1 h.1.1.1
    omega

theorem placeok_any (ky st en : Int) (w : World) : Calls Try.prog 52 #[.agg #[.int .i64 ky, .int .i64 st, .int .i64 en]] w fun e' w' => e' = .returned (.bool (okPlace ky st en)) ∧ Below w.heap.size w w' := by
  cases c0 : inB ky 0 3
  · have hq : Hid (okPlace ky st en = false) := hide (by simp [okPlace, c0])
    go_enter Try.func52, Try.ntmps52
    go_wp2_with (first
      | (go_at_call 22; refine (within_any _ _ _ _).mono ?_; rintro e' w' ⟨rfl, rfl⟩)
      | (go_at_call 63; refine (winok_any _ _ _).mono ?_; rintro e w' ⟨rfl, hb⟩; obtain ⟨hc, hf, hs⟩ := bcell hb; (try have hz0 : w.heap.size < w'.heap.size := (by have h9 := hb.size; (try simp at h9); omega))))
    go_ret
    exact ⟨ret_b (unhide hq).symm, (by repeat (first | (with_reducible refine bel_set ?_ (by first | (simp; done) | (simp; omega)) _) | (with_reducible refine bel_alloc ?_ _) | (with_reducible exact Below.refl _ _) | (with_reducible assumption) | (with_reducible refine bel_drew ?_) | (with_reducible refine bel_drewN ?_ _) | (with_reducible refine bel_trans ?_ (by with_reducible assumption))))⟩
  · have hq : Hid (okPlace ky st en = okWin st en) := hide (by simp [okPlace, c0])
    go_enter Try.func52, Try.ntmps52
    go_wp2_with (first
      | (go_at_call 22; refine (within_any _ _ _ _).mono ?_; rintro e' w' ⟨rfl, rfl⟩)
      | (go_at_call 63; refine (winok_any _ _ _).mono ?_; rintro e w' ⟨rfl, hb⟩; obtain ⟨hc, hf, hs⟩ := bcell hb; (try have hz0 : w.heap.size < w'.heap.size := (by have h9 := hb.size; (try simp at h9); omega))))
    go_ret
    exact ⟨ret_b (unhide hq).symm, (by repeat (first | (with_reducible refine bel_set ?_ (by first | (simp; done) | (simp; omega)) _) | (with_reducible refine bel_alloc ?_ _) | (with_reducible exact Below.refl _ _) | (with_reducible assumption) | (with_reducible refine bel_drew ?_) | (with_reducible refine bel_drewN ?_ _) | (with_reducible refine bel_trans ?_ (by with_reducible assumption))))⟩

end Go.Proofs.Ytflignpbboiahaa
