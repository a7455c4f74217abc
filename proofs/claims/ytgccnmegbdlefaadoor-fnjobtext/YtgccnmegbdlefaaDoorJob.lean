/- Proved here: when a job is ok, and which task a key goes to, in the program and in the specification, at every argument. -/
import Derived.Test.YtgccnmegbdlefaaDoorWin
import Derived.Test.YtgccnmegbdlefaaDoorGenF
namespace Go.Proofs.YtgccnmegbdlefaaDoor
open Go.ChangeShapes Go.WideShapes Go.ChangeAt Go.RowKit
set_option linter.unusedVariables false

/-- When a job's step is ok; when a job is. -/
def stepB (k z p : Int) : Bool := if k = 2 then inB p 1 z && decide (z ≤ 4 * p) else p == 0

theorem stepB_2 (z p : Int) : stepB 2 z p = (inB p 1 z && decide (z ≤ 4 * p)) := rfl

theorem stepB_n {k : Int} (h : k ≠ 2) (z p : Int) : stepB k z p = (p == 0) := if_neg h

def okJob (s t k z p l e v r : Int) : Bool := inB s 1 3 && inB t 1 2 && inB k 1 3 && inB z 1 20 && stepB k z p && inB l 0 20 && inB e 1 4 && inB v (-9) 9 && inB r 1 4

theorem okJob_t {s t k z p l e v r : Int} (h : okJob s t k z p l e v r = true) : inB t 1 2 = true := by
  simp only [okJob, Bool.and_eq_true] at h; exact h.1.1.1.1.1.1.1.2

theorem toJob_any (s t k z p l e : Int) (b : Bool) (v r : Int) (w : World) : Calls Tryd.prog 14 #[.agg #[.int .i64 s, .int .i64 t, .int .i64 k, .int .i64 z, .int .i64 p, .int .i64 l, .int .i64 e, .bool b, .int .i64 v, .int .i64 r]] w fun e' w' => e' = .returned (.agg #[.int .i64 s, .int .i64 t, .int .i64 k, .int .i64 z, .int .i64 p, .int .i64 l, .int .i64 e, .bool b, .int .i64 v, .int .i64 r]) ∧ Below w.heap.size w w' := by
  go_enter Tryd.func14, Tryd.ntmps14
  go_wp2
  refine bodyPost_ret (v := .agg #[.int .i64 s, .int .i64 t, .int .i64 k, .int .i64 z, .int .i64 p, .int .i64 l, .int .i64 e, .bool b, .int .i64 v, .int .i64 r]) (by simp [results, Tryd.results14, go_sem]) rfl ⟨rfl, ?_⟩
  exact (by repeat (first | exact Below.refl _ _ | exact bel_one _ _ | assumption | refine bel_alloc ?_ _ | refine bel_set ?_ (by first | (simp; done) | (simp; omega)) _ | refine bel_drew ?_ | refine bel_drewN ?_ _ | refine bel_trans ?_ (by assumption)))

theorem stepok_any (s t k z p l e : Int) (b : Bool) (v r : Int) (hz : 1 ≤ z ∧ z ≤ 20) (w : World) : Calls Tryd.prog 39 #[.agg #[.int .i64 s, .int .i64 t, .int .i64 k, .int .i64 z, .int .i64 p, .int .i64 l, .int .i64 e, .bool b, .int .i64 v, .int .i64 r]] w fun e' w' => e' = .returned (.bool (stepB k z p)) ∧ Below w.heap.size w w' := by
  by_cases h2 : k = 2
  · subst h2
    rw [stepB_2]
    cases d0 : inB p 1 z
    · have hq : Hid ((false && decide (z ≤ 4 * p)) = false) := hide (by simp)
      go_enter Tryd.func39, Tryd.ntmps39
      go_wp2_with (first
        | (go_at_call 38; refine (within_any _ _ _ _).mono ?_; rintro e' w' ⟨rfl, rfl⟩))
      go_ret
      exact ⟨ret_b (unhide hq).symm, (by repeat (first | exact Below.refl _ _ | exact bel_one _ _ | assumption | refine bel_alloc ?_ _ | refine bel_set ?_ (by first | (simp; done) | (simp; omega)) _ | refine bel_drew ?_ | refine bel_drewN ?_ _ | refine bel_trans ?_ (by assumption)))⟩
    have hp := inB_iff.1 d0
    have hq : Hid ((true && decide (z ≤ 4 * p)) = decide (z ≤ 4 * p)) := hide (by simp)
    go_enter Tryd.func39, Tryd.ntmps39
    go_wp2_with (first
      | (go_at_call 38; refine (within_any _ _ _ _).mono ?_; rintro e' w' ⟨rfl, rfl⟩))
    go_ret
    exact ⟨ret_b (unhide hq).symm, (by repeat (first | exact Below.refl _ _ | exact bel_one _ _ | assumption | refine bel_alloc ?_ _ | refine bel_set ?_ (by first | (simp; done) | (simp; omega)) _ | refine bel_drew ?_ | refine bel_drewN ?_ _ | refine bel_trans ?_ (by assumption)))⟩
  rw [stepB_n h2]
  have g2 : (k == 2) = false := by simpa using h2
  clear h2
  go_enter Tryd.func39, Tryd.ntmps39
  go_wp2_with (first
    | (go_at_call 38; refine (within_any _ _ _ _).mono ?_; rintro e' w' ⟨rfl, rfl⟩))
  go_ret
  exact ⟨rfl, (by repeat (first | exact Below.refl _ _ | exact bel_one _ _ | assumption | refine bel_alloc ?_ _ | refine bel_set ?_ (by first | (simp; done) | (simp; omega)) _ | refine bel_drew ?_ | refine bel_drewN ?_ _ | refine bel_trans ?_ (by assumption)))⟩

set_option maxHeartbeats 1000000 in
theorem specjobok_any (s t k z p l e : Int) (b : Bool) (v r : Int) (w : World) : Calls Tryd.prog 13 #[.agg #[.int .i64 s, .int .i64 t, .int .i64 k, .int .i64 z, .int .i64 p, .int .i64 l, .int .i64 e, .bool b, .int .i64 v, .int .i64 r]] w fun e' w' => e' = .returned (.bool (okJob s t k z p l e v r)) ∧ Below w.heap.size w w' := by
  cases c0 : inB s 1 3
  · have hq : Hid (okJob s t k z p l e v r = false) := hide (by simp [okJob, c0])
    go_enter Tryd.func13, Tryd.ntmps13
    go_wp2_with (first
      | (go_at_call 32; refine (l1In_any _ _ _ _).mono ?_; rintro e' w' ⟨rfl, rfl⟩))
    go_ret
    exact ⟨ret_b (unhide hq).symm, (by repeat (first | exact Below.refl _ _ | exact bel_one _ _ | assumption | refine bel_alloc ?_ _ | refine bel_set ?_ (by first | (simp; done) | (simp; omega)) _ | refine bel_drew ?_ | refine bel_drewN ?_ _ | refine bel_trans ?_ (by assumption)))⟩
  cases c1 : inB t 1 2
  · have hq : Hid (okJob s t k z p l e v r = false) := hide (by simp [okJob, c0, c1])
    go_enter Tryd.func13, Tryd.ntmps13
    go_wp2_with (first
      | (go_at_call 32; refine (l1In_any _ _ _ _).mono ?_; rintro e' w' ⟨rfl, rfl⟩))
    go_ret
    exact ⟨ret_b (unhide hq).symm, (by repeat (first | exact Below.refl _ _ | exact bel_one _ _ | assumption | refine bel_alloc ?_ _ | refine bel_set ?_ (by first | (simp; done) | (simp; omega)) _ | refine bel_drew ?_ | refine bel_drewN ?_ _ | refine bel_trans ?_ (by assumption)))⟩
  cases c2 : inB k 1 3
  · have hq : Hid (okJob s t k z p l e v r = false) := hide (by simp [okJob, c0, c1, c2])
    go_enter Tryd.func13, Tryd.ntmps13
    go_wp2_with (first
      | (go_at_call 32; refine (l1In_any _ _ _ _).mono ?_; rintro e' w' ⟨rfl, rfl⟩))
    go_ret
    exact ⟨ret_b (unhide hq).symm, (by repeat (first | exact Below.refl _ _ | exact bel_one _ _ | assumption | refine bel_alloc ?_ _ | refine bel_set ?_ (by first | (simp; done) | (simp; omega)) _ | refine bel_drew ?_ | refine bel_drewN ?_ _ | refine bel_trans ?_ (by assumption)))⟩
  cases c3 : inB z 1 20
  · have hq : Hid (okJob s t k z p l e v r = false) := hide (by simp [okJob, c0, c1, c2, c3])
    go_enter Tryd.func13, Tryd.ntmps13
    go_wp2_with (first
      | (go_at_call 32; refine (l1In_any _ _ _ _).mono ?_; rintro e' w' ⟨rfl, rfl⟩))
    go_ret
    exact ⟨ret_b (unhide hq).symm, (by repeat (first | exact Below.refl _ _ | exact bel_one _ _ | assumption | refine bel_alloc ?_ _ | refine bel_set ?_ (by first | (simp; done) | (simp; omega)) _ | refine bel_drew ?_ | refine bel_drewN ?_ _ | refine bel_trans ?_ (by assumption)))⟩
  have hz := inB_iff.1 c3
  by_cases h2 : k = 2
  · subst h2
    have hs := stepB_2 z p
    cases d0 : inB p 1 z
    · have hq : Hid (okJob s t 2 z p l e v r = false) := hide (by simp [okJob, hs, d0])
      clear hs
      go_enter Tryd.func13, Tryd.ntmps13
      go_wp2_with (first
        | (go_at_call 32; refine (l1In_any _ _ _ _).mono ?_; rintro e' w' ⟨rfl, rfl⟩))
      go_ret
      exact ⟨ret_b (unhide hq).symm, (by repeat (first | exact Below.refl _ _ | exact bel_one _ _ | assumption | refine bel_alloc ?_ _ | refine bel_set ?_ (by first | (simp; done) | (simp; omega)) _ | refine bel_drew ?_ | refine bel_drewN ?_ _ | refine bel_trans ?_ (by assumption)))⟩
    have hp := inB_iff.1 d0
    by_cases d1 : z ≤ 4 * p
    · have hs' : stepB 2 z p = true := by rw [hs, d0]; simp [d1]
      clear hs
      cases x0 : inB l 0 20
      · have hq : Hid (okJob s t 2 z p l e v r = false) := hide (by simp [okJob, c0, c1, c2, c3, hs', x0])
        clear hs'
        go_enter Tryd.func13, Tryd.ntmps13
        go_wp2_with (first
          | (go_at_call 32; refine (l1In_any _ _ _ _).mono ?_; rintro e' w' ⟨rfl, rfl⟩))
        go_ret
        exact ⟨ret_b (unhide hq).symm, (by repeat (first | exact Below.refl _ _ | exact bel_one _ _ | assumption | refine bel_alloc ?_ _ | refine bel_set ?_ (by first | (simp; done) | (simp; omega)) _ | refine bel_drew ?_ | refine bel_drewN ?_ _ | refine bel_trans ?_ (by assumption)))⟩
      cases x1 : inB e 1 4
      · have hq : Hid (okJob s t 2 z p l e v r = false) := hide (by simp [okJob, c0, c1, c2, c3, hs', x0, x1])
        clear hs'
        go_enter Tryd.func13, Tryd.ntmps13
        go_wp2_with (first
          | (go_at_call 32; refine (l1In_any _ _ _ _).mono ?_; rintro e' w' ⟨rfl, rfl⟩))
        go_ret
        exact ⟨ret_b (unhide hq).symm, (by repeat (first | exact Below.refl _ _ | exact bel_one _ _ | assumption | refine bel_alloc ?_ _ | refine bel_set ?_ (by first | (simp; done) | (simp; omega)) _ | refine bel_drew ?_ | refine bel_drewN ?_ _ | refine bel_trans ?_ (by assumption)))⟩
      cases x2 : inB v (-9) 9
      · have hq : Hid (okJob s t 2 z p l e v r = false) := hide (by simp [okJob, c0, c1, c2, c3, hs', x0, x1, x2])
        clear hs'
        go_enter Tryd.func13, Tryd.ntmps13
        go_wp2_with (first
          | (go_at_call 32; refine (l1In_any _ _ _ _).mono ?_; rintro e' w' ⟨rfl, rfl⟩))
        go_ret
        exact ⟨ret_b (unhide hq).symm, (by repeat (first | exact Below.refl _ _ | exact bel_one _ _ | assumption | refine bel_alloc ?_ _ | refine bel_set ?_ (by first | (simp; done) | (simp; omega)) _ | refine bel_drew ?_ | refine bel_drewN ?_ _ | refine bel_trans ?_ (by assumption)))⟩
      have hq : Hid (okJob s t 2 z p l e v r = inB r 1 4) := hide (by simp [okJob, c0, c1, c2, c3, hs', x0, x1, x2])
      clear hs'
      go_enter Tryd.func13, Tryd.ntmps13
      go_wp2_with (first
        | (go_at_call 32; refine (l1In_any _ _ _ _).mono ?_; rintro e' w' ⟨rfl, rfl⟩))
      go_ret
      exact ⟨ret_b (unhide hq).symm, (by repeat (first | exact Below.refl _ _ | exact bel_one _ _ | assumption | refine bel_alloc ?_ _ | refine bel_set ?_ (by first | (simp; done) | (simp; omega)) _ | refine bel_drew ?_ | refine bel_drewN ?_ _ | refine bel_trans ?_ (by assumption)))⟩
    · have hs' : stepB 2 z p = false := by rw [hs, d0]; simp [d1]
      have hq : Hid (okJob s t 2 z p l e v r = false) := hide (by simp [okJob, hs'])
      clear hs hs'
      go_enter Tryd.func13, Tryd.ntmps13
      go_wp2_with (first
        | (go_at_call 32; refine (l1In_any _ _ _ _).mono ?_; rintro e' w' ⟨rfl, rfl⟩))
      go_ret
      exact ⟨ret_b (unhide hq).symm, (by repeat (first | exact Below.refl _ _ | exact bel_one _ _ | assumption | refine bel_alloc ?_ _ | refine bel_set ?_ (by first | (simp; done) | (simp; omega)) _ | refine bel_drew ?_ | refine bel_drewN ?_ _ | refine bel_trans ?_ (by assumption)))⟩
  have hs := stepB_n h2 z p
  have g2 : (k == 2) = false := by simpa using h2
  have g3 : (k != 2) = true := by simpa using h2
  clear h2
  cases d0 : (p == 0)
  · have g4 : (p != 0) = true := by simpa using d0
    have hq : Hid (okJob s t k z p l e v r = false) := hide (by simp [okJob, hs, d0])
    clear hs
    go_enter Tryd.func13, Tryd.ntmps13
    go_wp2_with (first
      | (go_at_call 32; refine (l1In_any _ _ _ _).mono ?_; rintro e' w' ⟨rfl, rfl⟩))
    go_ret
    exact ⟨ret_b (unhide hq).symm, (by repeat (first | exact Below.refl _ _ | exact bel_one _ _ | assumption | refine bel_alloc ?_ _ | refine bel_set ?_ (by first | (simp; done) | (simp; omega)) _ | refine bel_drew ?_ | refine bel_drewN ?_ _ | refine bel_trans ?_ (by assumption)))⟩
  have g4 : (p != 0) = false := by simpa using d0
  cases x0 : inB l 0 20
  · have hq : Hid (okJob s t k z p l e v r = false) := hide (by simp [okJob, c0, c1, c2, c3, hs, d0, x0])
    clear hs
    go_enter Tryd.func13, Tryd.ntmps13
    go_wp2_with (first
      | (go_at_call 32; refine (l1In_any _ _ _ _).mono ?_; rintro e' w' ⟨rfl, rfl⟩))
    go_ret
    exact ⟨ret_b (unhide hq).symm, (by repeat (first | exact Below.refl _ _ | exact bel_one _ _ | assumption | refine bel_alloc ?_ _ | refine bel_set ?_ (by first | (simp; done) | (simp; omega)) _ | refine bel_drew ?_ | refine bel_drewN ?_ _ | refine bel_trans ?_ (by assumption)))⟩
  cases x1 : inB e 1 4
  · have hq : Hid (okJob s t k z p l e v r = false) := hide (by simp [okJob, c0, c1, c2, c3, hs, d0, x0, x1])
    clear hs
    go_enter Tryd.func13, Tryd.ntmps13
    go_wp2_with (first
      | (go_at_call 32; refine (l1In_any _ _ _ _).mono ?_; rintro e' w' ⟨rfl, rfl⟩))
    go_ret
    exact ⟨ret_b (unhide hq).symm, (by repeat (first | exact Below.refl _ _ | exact bel_one _ _ | assumption | refine bel_alloc ?_ _ | refine bel_set ?_ (by first | (simp; done) | (simp; omega)) _ | refine bel_drew ?_ | refine bel_drewN ?_ _ | refine bel_trans ?_ (by assumption)))⟩
  cases x2 : inB v (-9) 9
  · have hq : Hid (okJob s t k z p l e v r = false) := hide (by simp [okJob, c0, c1, c2, c3, hs, d0, x0, x1, x2])
    clear hs
    go_enter Tryd.func13, Tryd.ntmps13
    go_wp2_with (first
      | (go_at_call 32; refine (l1In_any _ _ _ _).mono ?_; rintro e' w' ⟨rfl, rfl⟩))
    go_ret
    exact ⟨ret_b (unhide hq).symm, (by repeat (first | exact Below.refl _ _ | exact bel_one _ _ | assumption | refine bel_alloc ?_ _ | refine bel_set ?_ (by first | (simp; done) | (simp; omega)) _ | refine bel_drew ?_ | refine bel_drewN ?_ _ | refine bel_trans ?_ (by assumption)))⟩
  have hq : Hid (okJob s t k z p l e v r = inB r 1 4) := hide (by simp [okJob, c0, c1, c2, c3, hs, d0, x0, x1, x2])
  clear hs
  go_enter Tryd.func13, Tryd.ntmps13
  go_wp2_with (first
    | (go_at_call 32; refine (l1In_any _ _ _ _).mono ?_; rintro e' w' ⟨rfl, rfl⟩))
  go_ret
  exact ⟨ret_b (unhide hq).symm, (by repeat (first | exact Below.refl _ _ | exact bel_one _ _ | assumption | refine bel_alloc ?_ _ | refine bel_set ?_ (by first | (simp; done) | (simp; omega)) _ | refine bel_drew ?_ | refine bel_drewN ?_ _ | refine bel_trans ?_ (by assumption)))⟩

set_option maxHeartbeats 1000000 in
theorem impljobok_any (s t k z p l e : Int) (b : Bool) (v r : Int) (w : World) : Calls Tryd.prog 23 #[.agg #[.int .i64 s, .int .i64 t, .int .i64 k, .int .i64 z, .int .i64 p, .int .i64 l, .int .i64 e, .bool b, .int .i64 v, .int .i64 r]] w fun e' w' => e' = .returned (.bool (okJob s t k z p l e v r)) ∧ Below w.heap.size w w' := by
  cases c0 : inB s 1 3
  · have hq : Hid (okJob s t k z p l e v r = false) := hide (by simp [okJob, c0])
    go_enter Tryd.func23, Tryd.ntmps23
    go_wp2_with (first
      | (go_at_call 38; refine (within_any _ _ _ _).mono ?_; rintro e' w' ⟨rfl, rfl⟩)
      | (go_at_call 39; refine (stepok_any _ _ _ _ _ _ _ _ _ _ (by omega) _).mono ?_; rintro e' w' ⟨rfl, hb⟩; obtain ⟨hc, hf, hsz⟩ := bcell hb; (try have hz0 : w.heap.size < w'.heap.size := (by have h9 := hb.size; (try simp at h9); omega))))
    go_ret
    exact ⟨ret_b (unhide hq).symm, (by repeat (first | exact Below.refl _ _ | exact bel_one _ _ | assumption | refine bel_alloc ?_ _ | refine bel_set ?_ (by first | (simp; done) | (simp; omega)) _ | refine bel_drew ?_ | refine bel_drewN ?_ _ | refine bel_trans ?_ (by assumption)))⟩
  cases c1 : inB t 1 2
  · have hq : Hid (okJob s t k z p l e v r = false) := hide (by simp [okJob, c0, c1])
    go_enter Tryd.func23, Tryd.ntmps23
    go_wp2_with (first
      | (go_at_call 38; refine (within_any _ _ _ _).mono ?_; rintro e' w' ⟨rfl, rfl⟩)
      | (go_at_call 39; refine (stepok_any _ _ _ _ _ _ _ _ _ _ (by omega) _).mono ?_; rintro e' w' ⟨rfl, hb⟩; obtain ⟨hc, hf, hsz⟩ := bcell hb; (try have hz0 : w.heap.size < w'.heap.size := (by have h9 := hb.size; (try simp at h9); omega))))
    go_ret
    exact ⟨ret_b (unhide hq).symm, (by repeat (first | exact Below.refl _ _ | exact bel_one _ _ | assumption | refine bel_alloc ?_ _ | refine bel_set ?_ (by first | (simp; done) | (simp; omega)) _ | refine bel_drew ?_ | refine bel_drewN ?_ _ | refine bel_trans ?_ (by assumption)))⟩
  cases c2 : inB k 1 3
  · have hq : Hid (okJob s t k z p l e v r = false) := hide (by simp [okJob, c0, c1, c2])
    go_enter Tryd.func23, Tryd.ntmps23
    go_wp2_with (first
      | (go_at_call 38; refine (within_any _ _ _ _).mono ?_; rintro e' w' ⟨rfl, rfl⟩)
      | (go_at_call 39; refine (stepok_any _ _ _ _ _ _ _ _ _ _ (by omega) _).mono ?_; rintro e' w' ⟨rfl, hb⟩; obtain ⟨hc, hf, hsz⟩ := bcell hb; (try have hz0 : w.heap.size < w'.heap.size := (by have h9 := hb.size; (try simp at h9); omega))))
    go_ret
    exact ⟨ret_b (unhide hq).symm, (by repeat (first | exact Below.refl _ _ | exact bel_one _ _ | assumption | refine bel_alloc ?_ _ | refine bel_set ?_ (by first | (simp; done) | (simp; omega)) _ | refine bel_drew ?_ | refine bel_drewN ?_ _ | refine bel_trans ?_ (by assumption)))⟩
  cases c3 : inB z 1 20
  · have hq : Hid (okJob s t k z p l e v r = false) := hide (by simp [okJob, c0, c1, c2, c3])
    go_enter Tryd.func23, Tryd.ntmps23
    go_wp2_with (first
      | (go_at_call 38; refine (within_any _ _ _ _).mono ?_; rintro e' w' ⟨rfl, rfl⟩)
      | (go_at_call 39; refine (stepok_any _ _ _ _ _ _ _ _ _ _ (by omega) _).mono ?_; rintro e' w' ⟨rfl, hb⟩; obtain ⟨hc, hf, hsz⟩ := bcell hb; (try have hz0 : w.heap.size < w'.heap.size := (by have h9 := hb.size; (try simp at h9); omega))))
    go_ret
    exact ⟨ret_b (unhide hq).symm, (by repeat (first | exact Below.refl _ _ | exact bel_one _ _ | assumption | refine bel_alloc ?_ _ | refine bel_set ?_ (by first | (simp; done) | (simp; omega)) _ | refine bel_drew ?_ | refine bel_drewN ?_ _ | refine bel_trans ?_ (by assumption)))⟩
  have hz := inB_iff.1 c3
  cases d0 : stepB k z p
  · have hq : Hid (okJob s t k z p l e v r = false) := hide (by simp [okJob, c0, c1, c2, c3, d0])
    go_enter Tryd.func23, Tryd.ntmps23
    go_wp2_with (first
      | (go_at_call 38; refine (within_any _ _ _ _).mono ?_; rintro e' w' ⟨rfl, rfl⟩)
      | (go_at_call 39; refine (stepok_any _ _ _ _ _ _ _ _ _ _ (by omega) _).mono ?_; rintro e' w' ⟨rfl, hb⟩; obtain ⟨hc, hf, hsz⟩ := bcell hb; (try have hz0 : w.heap.size < w'.heap.size := (by have h9 := hb.size; (try simp at h9); omega))))
    go_ret
    exact ⟨ret_b (unhide hq).symm, (by repeat (first | exact Below.refl _ _ | exact bel_one _ _ | assumption | refine bel_alloc ?_ _ | refine bel_set ?_ (by first | (simp; done) | (simp; omega)) _ | refine bel_drew ?_ | refine bel_drewN ?_ _ | refine bel_trans ?_ (by assumption)))⟩
  cases d1 : inB l 0 20
  · have hq : Hid (okJob s t k z p l e v r = false) := hide (by simp [okJob, c0, c1, c2, c3, d0, d1])
    go_enter Tryd.func23, Tryd.ntmps23
    go_wp2_with (first
      | (go_at_call 38; refine (within_any _ _ _ _).mono ?_; rintro e' w' ⟨rfl, rfl⟩)
      | (go_at_call 39; refine (stepok_any _ _ _ _ _ _ _ _ _ _ (by omega) _).mono ?_; rintro e' w' ⟨rfl, hb⟩; obtain ⟨hc, hf, hsz⟩ := bcell hb; (try have hz0 : w.heap.size < w'.heap.size := (by have h9 := hb.size; (try simp at h9); omega))))
    go_ret
    exact ⟨ret_b (unhide hq).symm, (by repeat (first | exact Below.refl _ _ | exact bel_one _ _ | assumption | refine bel_alloc ?_ _ | refine bel_set ?_ (by first | (simp; done) | (simp; omega)) _ | refine bel_drew ?_ | refine bel_drewN ?_ _ | refine bel_trans ?_ (by assumption)))⟩
  cases d2 : inB e 1 4
  · have hq : Hid (okJob s t k z p l e v r = false) := hide (by simp [okJob, c0, c1, c2, c3, d0, d1, d2])
    go_enter Tryd.func23, Tryd.ntmps23
    go_wp2_with (first
      | (go_at_call 38; refine (within_any _ _ _ _).mono ?_; rintro e' w' ⟨rfl, rfl⟩)
      | (go_at_call 39; refine (stepok_any _ _ _ _ _ _ _ _ _ _ (by omega) _).mono ?_; rintro e' w' ⟨rfl, hb⟩; obtain ⟨hc, hf, hsz⟩ := bcell hb; (try have hz0 : w.heap.size < w'.heap.size := (by have h9 := hb.size; (try simp at h9); omega))))
    go_ret
    exact ⟨ret_b (unhide hq).symm, (by repeat (first | exact Below.refl _ _ | exact bel_one _ _ | assumption | refine bel_alloc ?_ _ | refine bel_set ?_ (by first | (simp; done) | (simp; omega)) _ | refine bel_drew ?_ | refine bel_drewN ?_ _ | refine bel_trans ?_ (by assumption)))⟩
  cases d3 : inB v (-9) 9
  · have hq : Hid (okJob s t k z p l e v r = false) := hide (by simp [okJob, c0, c1, c2, c3, d0, d1, d2, d3])
    go_enter Tryd.func23, Tryd.ntmps23
    go_wp2_with (first
      | (go_at_call 38; refine (within_any _ _ _ _).mono ?_; rintro e' w' ⟨rfl, rfl⟩)
      | (go_at_call 39; refine (stepok_any _ _ _ _ _ _ _ _ _ _ (by omega) _).mono ?_; rintro e' w' ⟨rfl, hb⟩; obtain ⟨hc, hf, hsz⟩ := bcell hb; (try have hz0 : w.heap.size < w'.heap.size := (by have h9 := hb.size; (try simp at h9); omega))))
    go_ret
    exact ⟨ret_b (unhide hq).symm, (by repeat (first | exact Below.refl _ _ | exact bel_one _ _ | assumption | refine bel_alloc ?_ _ | refine bel_set ?_ (by first | (simp; done) | (simp; omega)) _ | refine bel_drew ?_ | refine bel_drewN ?_ _ | refine bel_trans ?_ (by assumption)))⟩
  have hq : Hid (okJob s t k z p l e v r = inB r 1 4) := hide (by simp [okJob, c0, c1, c2, c3, d0, d1, d2, d3])
  go_enter Tryd.func23, Tryd.ntmps23
  go_wp2_with (first
    | (go_at_call 38; refine (within_any _ _ _ _).mono ?_; rintro e' w' ⟨rfl, rfl⟩)
    | (go_at_call 39; refine (stepok_any _ _ _ _ _ _ _ _ _ _ (by omega) _).mono ?_; rintro e' w' ⟨rfl, hb⟩; obtain ⟨hc, hf, hsz⟩ := bcell hb; (try have hz0 : w.heap.size < w'.heap.size := (by have h9 := hb.size; (try simp at h9); omega))))
  go_ret
  exact ⟨ret_b (unhide hq).symm, (by repeat (first | exact Below.refl _ _ | exact bel_one _ _ | assumption | refine bel_alloc ?_ _ | refine bel_set ?_ (by first | (simp; done) | (simp; omega)) _ | refine bel_drew ?_ | refine bel_drewN ?_ _ | refine bel_trans ?_ (by assumption)))⟩

/-- The task that a key goes to. -/
def taskI (s t k z p l e v r key : Int) : Int := if (okJob s t k z p l e v r && inB key 0 3) = true then key % t else -1

theorem taskI_tt {s t k z p l e v r key : Int} (h : okJob s t k z p l e v r = true) (h2 : inB key 0 3 = true) : taskI s t k z p l e v r key = key % t := by simp [taskI, h, h2]

theorem taskI_f1 {s t k z p l e v r key : Int} (h : okJob s t k z p l e v r = false) : taskI s t k z p l e v r key = -1 := by simp [taskI, h]

theorem taskI_f2 {s t k z p l e v r key : Int} (h2 : inB key 0 3 = false) : taskI s t k z p l e v r key = -1 := by simp [taskI, h2]

theorem ret_i' {a b : Int} (h : a = b) : Ending.returned (.int .i64 a) = .returned (.int .i64 b) := by rw [h]
end Go.Proofs.YtgccnmegbdlefaaDoor
