/- Proved here: what the program's functions on the parts of a log answer. -/
import Derived.Test.YtbbgiklhkhlnaaaLogSpec
namespace Go.Proofs.Ytbbgiklhkhlnaaa
open Go.ChangeShapes Go.WideShapes Go.ChangeAt Go.RowKit
set_option linter.unusedVariables false

/-- Whether an item may follow in a log behind a mark; the mark behind it. -/
def followB (q t k v n m : Int) : Bool := if q = 1 then okRec t k v n else if q = 2 then okMark t k v n && decide (m < t) else false
def behindI (q t m : Int) : Int := if q = 2 then hiI m t else m

theorem partV_1 (t k v n : Int) : partV 1 t k v n = .iface 62 (.agg #[.int .i64 1, .int .i64 t, .int .i64 k, .int .i64 v, .int .i64 n]) := rfl
theorem partV_2 (t k v n : Int) : partV 2 t k v n = .iface 63 (.agg #[.int .i64 2, .int .i64 t, .int .i64 k, .int .i64 v, .int .i64 n]) := rfl
theorem partV_3 (t k v n : Int) : partV 3 t k v n = .iface 64 (.agg #[.int .i64 3, .int .i64 t, .int .i64 k, .int .i64 v, .int .i64 n]) := rfl
theorem partV_n {q : Int} (h1 : q ≠ 1) (h2 : q ≠ 2) (h3 : q ≠ 3) (t k v n : Int) : partV q t k v n = .iface 65 (.agg #[.int .i64 q, .int .i64 t, .int .i64 k, .int .i64 v, .int .i64 n]) := by unfold partV; rw [if_neg h1, if_neg h2, if_neg h3]

theorem taRR (x : Value) (w : World) : (Instr.typeAssert (.iface 62 x) 50 62 true).run Try.prog w = .ok (.tuple #[x, .bool true]) w := by kernel_rfl
theorem taRM (x : Value) (w : World) : (Instr.typeAssert (.iface 62 x) 50 63 true).run Try.prog w = .ok (.tuple #[.agg #[.int .i64 0, .int .i64 0, .int .i64 0, .int .i64 0, .int .i64 0], .bool false]) w := by kernel_rfl
theorem taMR (x : Value) (w : World) : (Instr.typeAssert (.iface 63 x) 50 62 true).run Try.prog w = .ok (.tuple #[.agg #[.int .i64 0, .int .i64 0, .int .i64 0, .int .i64 0, .int .i64 0], .bool false]) w := by kernel_rfl
theorem taMM (x : Value) (w : World) : (Instr.typeAssert (.iface 63 x) 50 63 true).run Try.prog w = .ok (.tuple #[x, .bool true]) w := by kernel_rfl
theorem taWR (x : Value) (w : World) : (Instr.typeAssert (.iface 64 x) 50 62 true).run Try.prog w = .ok (.tuple #[.agg #[.int .i64 0, .int .i64 0, .int .i64 0, .int .i64 0, .int .i64 0], .bool false]) w := by kernel_rfl
theorem taWM (x : Value) (w : World) : (Instr.typeAssert (.iface 64 x) 50 63 true).run Try.prog w = .ok (.tuple #[.agg #[.int .i64 0, .int .i64 0, .int .i64 0, .int .i64 0, .int .i64 0], .bool false]) w := by kernel_rfl
theorem taNR (x : Value) (w : World) : (Instr.typeAssert (.iface 65 x) 50 62 true).run Try.prog w = .ok (.tuple #[.agg #[.int .i64 0, .int .i64 0, .int .i64 0, .int .i64 0, .int .i64 0], .bool false]) w := by kernel_rfl
theorem taNM (x : Value) (w : World) : (Instr.typeAssert (.iface 65 x) 50 63 true).run Try.prog w = .ok (.tuple #[.agg #[.int .i64 0, .int .i64 0, .int .i64 0, .int .i64 0, .int .i64 0], .bool false]) w := by kernel_rfl

theorem follow_any (q t k v n m : Int) (w : World) : Calls Try.prog 35 #[partV q t k v n, .int .i64 m] w fun e w' => e = .returned (.bool (followB q t k v n m)) ∧ Below w.heap.size w w' := by
  by_cases h1 : q = 1
  · subst h1
    rw [partV_1]
    have rR := taRR
    have mR := taRM
    have hq : Hid (followB 1 t k v n m = okRec t k v n) := hide rfl
    go_enter Try.func35, Try.ntmps35
    go_wp2_with (go_at_call 44; refine (recok_any _ _ _ _ _ _).mono ?_; rintro e w' ⟨rfl, hb⟩)
    go_ret
    exact ⟨ret_b (unhide hq).symm, (by repeat (first | exact Below.refl _ _ | exact bel_one _ _ | assumption | refine bel_alloc ?_ _ | refine bel_set ?_ (by first | (simp; done) | (simp; omega)) _ | refine bel_drew ?_ | refine bel_drewN ?_ _ | refine bel_trans ?_ (by assumption)))⟩
  by_cases h2 : q = 2
  · subst h2
    rw [partV_2]
    have rM := taMR
    have mM := taMM
    cases ho : okMark t k v n
    · have hq : Hid (followB 2 t k v n m = false) := hide (by show (okMark t k v n && decide (m < t)) = false; rw [ho]; rfl)
      go_enter Try.func35, Try.ntmps35
      go_wp2_with (first
        | (go_at_call 45; refine (markok_any _ _ _ _ _ _).mono ?_; rintro e w' ⟨rfl, hb⟩; obtain ⟨hc, hf, hs⟩ := bcell hb; (try have hz0 : w.heap.size < w'.heap.size := (by have h9 := hb.size; (try simp at h9); omega))))
      go_ret
      exact ⟨ret_b (unhide hq).symm, (by repeat (first | exact Below.refl _ _ | exact bel_one _ _ | assumption | refine bel_alloc ?_ _ | refine bel_set ?_ (by first | (simp; done) | (simp; omega)) _ | refine bel_drew ?_ | refine bel_drewN ?_ _ | refine bel_trans ?_ (by assumption)))⟩
    · have hq : Hid (followB 2 t k v n m = decide (m < t)) := hide (by show (okMark t k v n && decide (m < t)) = _; rw [ho]; rfl)
      go_enter Try.func35, Try.ntmps35
      go_wp2_with (first
        | (go_at_call 45; refine (markok_any _ _ _ _ _ _).mono ?_; rintro e w' ⟨rfl, hb⟩; obtain ⟨hc, hf, hs⟩ := bcell hb; (try have hz0 : w.heap.size < w'.heap.size := (by have h9 := hb.size; (try simp at h9); omega))))
      go_ret
      exact ⟨ret_b (unhide hq).symm, (by repeat (first | exact Below.refl _ _ | exact bel_one _ _ | assumption | refine bel_alloc ?_ _ | refine bel_set ?_ (by first | (simp; done) | (simp; omega)) _ | refine bel_drew ?_ | refine bel_drewN ?_ _ | refine bel_trans ?_ (by assumption)))⟩
  have hq : Hid (followB q t k v n m = false) := hide (by unfold followB; rw [if_neg h1, if_neg h2])
  by_cases h3 : q = 3
  · subst h3
    rw [partV_3]
    have rW := taWR
    have mW := taWM
    go_enter Try.func35, Try.ntmps35
    go_wp2
    go_ret
    exact ⟨ret_b (unhide hq).symm, (by repeat (first | exact Below.refl _ _ | exact bel_one _ _ | assumption | refine bel_alloc ?_ _ | refine bel_set ?_ (by first | (simp; done) | (simp; omega)) _ | refine bel_drew ?_ | refine bel_drewN ?_ _ | refine bel_trans ?_ (by assumption)))⟩
  · rw [partV_n h1 h2 h3]
    have rN := taNR
    have mN := taNM
    clear h1 h2 h3
    go_enter Try.func35, Try.ntmps35
    go_wp2
    go_ret
    exact ⟨ret_b (unhide hq).symm, (by repeat (first | exact Below.refl _ _ | exact bel_one _ _ | assumption | refine bel_alloc ?_ _ | refine bel_set ?_ (by first | (simp; done) | (simp; omega)) _ | refine bel_drew ?_ | refine bel_drewN ?_ _ | refine bel_trans ?_ (by assumption)))⟩

theorem ret_i {a b : Int} (h : a = b) : Ending.returned (.int .i64 a) = .returned (.int .i64 b) := by rw [h]

theorem behind_any (q t k v n m : Int) (w : World) : Calls Try.prog 36 #[partV q t k v n, .int .i64 m] w fun e w' => e = .returned (.int .i64 (behindI q t m)) ∧ Below w.heap.size w w' := by
  by_cases h2 : q = 2
  · subst h2
    rw [partV_2]
    have rM := taMR
    have mM := taMM
    by_cases h4 : m < t
    · have hq : Hid (behindI 2 t m = t) := hide (hiI_d h4)
      go_enter Try.func36, Try.ntmps36
      go_wp2
      go_ret
      exact ⟨ret_i (unhide hq).symm, (by repeat (first | exact Below.refl _ _ | exact bel_one _ _ | assumption | refine bel_alloc ?_ _ | refine bel_set ?_ (by first | (simp; done) | (simp; omega)) _ | refine bel_drew ?_ | refine bel_drewN ?_ _ | refine bel_trans ?_ (by assumption)))⟩
    · have hq : Hid (behindI 2 t m = m) := hide (hiI_b h4)
      go_enter Try.func36, Try.ntmps36
      go_wp2
      go_ret
      exact ⟨ret_i (unhide hq).symm, (by repeat (first | exact Below.refl _ _ | exact bel_one _ _ | assumption | refine bel_alloc ?_ _ | refine bel_set ?_ (by first | (simp; done) | (simp; omega)) _ | refine bel_drew ?_ | refine bel_drewN ?_ _ | refine bel_trans ?_ (by assumption)))⟩
  have hq : Hid (behindI q t m = m) := hide (if_neg h2)
  by_cases h1 : q = 1
  · subst h1
    rw [partV_1]
    have rR := taRR
    have mR := taRM
    go_enter Try.func36, Try.ntmps36
    go_wp2
    go_ret
    exact ⟨ret_i (unhide hq).symm, (by repeat (first | exact Below.refl _ _ | exact bel_one _ _ | assumption | refine bel_alloc ?_ _ | refine bel_set ?_ (by first | (simp; done) | (simp; omega)) _ | refine bel_drew ?_ | refine bel_drewN ?_ _ | refine bel_trans ?_ (by assumption)))⟩
  by_cases h3 : q = 3
  · subst h3
    rw [partV_3]
    have rW := taWR
    have mW := taWM
    go_enter Try.func36, Try.ntmps36
    go_wp2
    go_ret
    exact ⟨ret_i (unhide hq).symm, (by repeat (first | exact Below.refl _ _ | exact bel_one _ _ | assumption | refine bel_alloc ?_ _ | refine bel_set ?_ (by first | (simp; done) | (simp; omega)) _ | refine bel_drew ?_ | refine bel_drewN ?_ _ | refine bel_trans ?_ (by assumption)))⟩
  · rw [partV_n h1 h2 h3]
    have rN := taNR
    have mN := taNM
    clear h1 h2 h3
    go_enter Try.func36, Try.ntmps36
    go_wp2
    go_ret
    exact ⟨ret_i (unhide hq).symm, (by repeat (first | exact Below.refl _ _ | exact bel_one _ _ | assumption | refine bel_alloc ?_ _ | refine bel_set ?_ (by first | (simp; done) | (simp; omega)) _ | refine bel_drew ?_ | refine bel_drewN ?_ _ | refine bel_trans ?_ (by assumption)))⟩

/-- What recordOf tells. -/
def recIt (q t k v n : Int) : Value := if q = 1 then .agg #[.int .i64 1, .int .i64 t, .int .i64 k, .int .i64 v, .int .i64 n] else .agg #[.int .i64 0, .int .i64 0, .int .i64 0, .int .i64 0, .int .i64 0]
theorem recIt_1 (t k v n : Int) : recIt 1 t k v n = .agg #[.int .i64 1, .int .i64 t, .int .i64 k, .int .i64 v, .int .i64 n] := rfl
theorem recIt_n {q : Int} (h : q ≠ 1) (t k v n : Int) : recIt q t k v n = .agg #[.int .i64 0, .int .i64 0, .int .i64 0, .int .i64 0, .int .i64 0] := if_neg h
theorem ret_rec {a b : Value} {c d : Bool} (h : a = b) (k : c = d) : Ending.returned (.tuple #[a, .bool c]) = .returned (.tuple #[b, .bool d]) := by rw [h, k]

theorem record_any (q t k v n : Int) (w : World) : Calls Try.prog 38 #[partV q t k v n] w fun e w' => e = .returned (.tuple #[recIt q t k v n, .bool (q == 1)]) ∧ Below w.heap.size w w' := by
  by_cases h1 : q = 1
  · subst h1
    rw [partV_1]
    have rR := taRR
    have mR := taRM
    go_enter Try.func38, Try.ntmps38
    go_wp2
    refine bodyPost_ret (v := .tuple #[.agg #[.int .i64 1, .int .i64 t, .int .i64 k, .int .i64 v, .int .i64 n], .bool true]) (by simp [results, Try.results38, go_sem]) rfl ⟨rfl, ?_⟩
    exact (by repeat (first | exact Below.refl _ _ | exact bel_one _ _ | assumption | refine bel_alloc ?_ _ | refine bel_set ?_ (by first | (simp; done) | (simp; omega)) _ | refine bel_drew ?_ | refine bel_drewN ?_ _ | refine bel_trans ?_ (by assumption)))
  have hq := hide (recIt_n h1 t k v n)
  have hp : Hid ((q == 1) = false) := hide (by simpa using h1)
  by_cases h2 : q = 2
  · subst h2
    rw [partV_2]
    have rM := taMR
    have mM := taMM
    go_enter Try.func38, Try.ntmps38
    go_wp2
    refine bodyPost_ret (v := .tuple #[.agg #[.int .i64 0, .int .i64 0, .int .i64 0, .int .i64 0, .int .i64 0], .bool false]) (by simp [results, Try.results38, go_sem]) rfl ⟨ret_rec (unhide hq).symm (unhide hp).symm, ?_⟩
    exact (by repeat (first | exact Below.refl _ _ | exact bel_one _ _ | assumption | refine bel_alloc ?_ _ | refine bel_set ?_ (by first | (simp; done) | (simp; omega)) _ | refine bel_drew ?_ | refine bel_drewN ?_ _ | refine bel_trans ?_ (by assumption)))
  by_cases h3 : q = 3
  · subst h3
    rw [partV_3]
    have rW := taWR
    have mW := taWM
    go_enter Try.func38, Try.ntmps38
    go_wp2
    refine bodyPost_ret (v := .tuple #[.agg #[.int .i64 0, .int .i64 0, .int .i64 0, .int .i64 0, .int .i64 0], .bool false]) (by simp [results, Try.results38, go_sem]) rfl ⟨ret_rec (unhide hq).symm (unhide hp).symm, ?_⟩
    exact (by repeat (first | exact Below.refl _ _ | exact bel_one _ _ | assumption | refine bel_alloc ?_ _ | refine bel_set ?_ (by first | (simp; done) | (simp; omega)) _ | refine bel_drew ?_ | refine bel_drewN ?_ _ | refine bel_trans ?_ (by assumption)))
  · rw [partV_n h1 h2 h3]
    have rN := taNR
    have mN := taNM
    clear h1 h2 h3
    go_enter Try.func38, Try.ntmps38
    go_wp2
    refine bodyPost_ret (v := .tuple #[.agg #[.int .i64 0, .int .i64 0, .int .i64 0, .int .i64 0, .int .i64 0], .bool false]) (by simp [results, Try.results38, go_sem]) rfl ⟨ret_rec (unhide hq).symm (unhide hp).symm, ?_⟩
    exact (by repeat (first | exact Below.refl _ _ | exact bel_one _ _ | assumption | refine bel_alloc ?_ _ | refine bel_set ?_ (by first | (simp; done) | (simp; omega)) _ | refine bel_drew ?_ | refine bel_drewN ?_ _ | refine bel_trans ?_ (by assumption)))
end Go.Proofs.Ytbbgiklhkhlnaaa
