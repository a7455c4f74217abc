/- Proved here: what the program's functions on the parts of a log answer. -/
import Derived.Test.YtcokdcehjibanaaGreatDoorLogSpec
import Derived.Test.YtcokdcehjibanaaGreatDoorPartRec
namespace Go.Proofs.YtcokdcehjibanaaGreatDoor
open Go.ChangeShapes Go.WideShapes Go.ChangeAt Go.RowKit
set_option linter.unusedVariables false

/-- Whether an item may follow in a log behind a mark; the mark behind it. -/
def followB (q t k v n m : Int) : Bool := if q = 1 then okRec t k v n else if q = 2 then okMark t k v n && decide (m < t) else false
def behindI (q t m : Int) : Int := if q = 2 then hiI m t else m

theorem follow_any (q t k v n m : Int) (w : World) : Calls Tryz.prog 32 #[partV q t k v n, .int .i64 m] w fun e w' => e = .returned (.bool (followB q t k v n m)) ∧ Below w.heap.size w w' := by
  by_cases h1 : q = 1
  · subst h1
    rw [partV_1]
    have rR := taRR
    have mR := taRM
    have hq : Hid (followB 1 t k v n m = okRec t k v n) := hide rfl
    go_enter Tryz.func32, Tryz.ntmps32
    go_wp2_with (go_at_call 43; refine (recok_any _ _ _ _ _ _).mono ?_; rintro e w' ⟨rfl, hb⟩)
    go_ret
    exact ⟨ret_b (unhide hq).symm, (by repeat (first | exact Below.refl _ _ | exact bel_one _ _ | assumption | refine bel_alloc ?_ _ | refine bel_set ?_ (by first | (simp; done) | (simp; omega)) _ | refine bel_drew ?_ | refine bel_drewN ?_ _ | refine bel_trans ?_ (by assumption)))⟩
  by_cases h2 : q = 2
  · subst h2
    rw [partV_2]
    have rM := taMR
    have mM := taMM
    cases ho : okMark t k v n
    · have hq : Hid (followB 2 t k v n m = false) := hide (by show (okMark t k v n && decide (m < t)) = false; rw [ho]; rfl)
      go_enter Tryz.func32, Tryz.ntmps32
      go_wp2_with (first
        | (go_at_call 44; refine (markok_any _ _ _ _ _ _).mono ?_; rintro e w' ⟨rfl, hb⟩; obtain ⟨hc, hf, hs⟩ := bcell hb; (try have hz0 : w.heap.size < w'.heap.size := (by have h9 := hb.size; (try simp at h9); omega))))
      go_ret
      exact ⟨ret_b (unhide hq).symm, (by repeat (first | exact Below.refl _ _ | exact bel_one _ _ | assumption | refine bel_alloc ?_ _ | refine bel_set ?_ (by first | (simp; done) | (simp; omega)) _ | refine bel_drew ?_ | refine bel_drewN ?_ _ | refine bel_trans ?_ (by assumption)))⟩
    · have hq : Hid (followB 2 t k v n m = decide (m < t)) := hide (by show (okMark t k v n && decide (m < t)) = _; rw [ho]; rfl)
      go_enter Tryz.func32, Tryz.ntmps32
      go_wp2_with (first
        | (go_at_call 44; refine (markok_any _ _ _ _ _ _).mono ?_; rintro e w' ⟨rfl, hb⟩; obtain ⟨hc, hf, hs⟩ := bcell hb; (try have hz0 : w.heap.size < w'.heap.size := (by have h9 := hb.size; (try simp at h9); omega))))
      go_ret
      exact ⟨ret_b (unhide hq).symm, (by repeat (first | exact Below.refl _ _ | exact bel_one _ _ | assumption | refine bel_alloc ?_ _ | refine bel_set ?_ (by first | (simp; done) | (simp; omega)) _ | refine bel_drew ?_ | refine bel_drewN ?_ _ | refine bel_trans ?_ (by assumption)))⟩
  have hq : Hid (followB q t k v n m = false) := hide (by unfold followB; rw [if_neg h1, if_neg h2])
  by_cases h3 : q = 3
  · subst h3
    rw [partV_3]
    have rW := taWR
    have mW := taWM
    go_enter Tryz.func32, Tryz.ntmps32
    go_wp2
    go_ret
    exact ⟨ret_b (unhide hq).symm, (by repeat (first | exact Below.refl _ _ | exact bel_one _ _ | assumption | refine bel_alloc ?_ _ | refine bel_set ?_ (by first | (simp; done) | (simp; omega)) _ | refine bel_drew ?_ | refine bel_drewN ?_ _ | refine bel_trans ?_ (by assumption)))⟩
  · rw [partV_n h1 h2 h3]
    have rN := taNR
    have mN := taNM
    clear h1 h2 h3
    go_enter Tryz.func32, Tryz.ntmps32
    go_wp2
    go_ret
    exact ⟨ret_b (unhide hq).symm, (by repeat (first | exact Below.refl _ _ | exact bel_one _ _ | assumption | refine bel_alloc ?_ _ | refine bel_set ?_ (by first | (simp; done) | (simp; omega)) _ | refine bel_drew ?_ | refine bel_drewN ?_ _ | refine bel_trans ?_ (by assumption)))⟩


theorem behind_any (q t k v n m : Int) (w : World) : Calls Tryz.prog 33 #[partV q t k v n, .int .i64 m] w fun e w' => e = .returned (.int .i64 (behindI q t m)) ∧ Below w.heap.size w w' := by
  by_cases h2 : q = 2
  · subst h2
    rw [partV_2]
    have rM := taMR
    have mM := taMM
    by_cases h4 : m < t
    · have hq : Hid (behindI 2 t m = t) := hide (hiI_d h4)
      go_enter Tryz.func33, Tryz.ntmps33
      go_wp2
      go_ret
      exact ⟨ret_i (unhide hq).symm, (by repeat (first | exact Below.refl _ _ | exact bel_one _ _ | assumption | refine bel_alloc ?_ _ | refine bel_set ?_ (by first | (simp; done) | (simp; omega)) _ | refine bel_drew ?_ | refine bel_drewN ?_ _ | refine bel_trans ?_ (by assumption)))⟩
    · have hq : Hid (behindI 2 t m = m) := hide (hiI_b h4)
      go_enter Tryz.func33, Tryz.ntmps33
      go_wp2
      go_ret
      exact ⟨ret_i (unhide hq).symm, (by repeat (first | exact Below.refl _ _ | exact bel_one _ _ | assumption | refine bel_alloc ?_ _ | refine bel_set ?_ (by first | (simp; done) | (simp; omega)) _ | refine bel_drew ?_ | refine bel_drewN ?_ _ | refine bel_trans ?_ (by assumption)))⟩
  have hq : Hid (behindI q t m = m) := hide (if_neg h2)
  by_cases h1 : q = 1
  · subst h1
    rw [partV_1]
    have rR := taRR
    have mR := taRM
    go_enter Tryz.func33, Tryz.ntmps33
    go_wp2
    go_ret
    exact ⟨ret_i (unhide hq).symm, (by repeat (first | exact Below.refl _ _ | exact bel_one _ _ | assumption | refine bel_alloc ?_ _ | refine bel_set ?_ (by first | (simp; done) | (simp; omega)) _ | refine bel_drew ?_ | refine bel_drewN ?_ _ | refine bel_trans ?_ (by assumption)))⟩
  by_cases h3 : q = 3
  · subst h3
    rw [partV_3]
    have rW := taWR
    have mW := taWM
    go_enter Tryz.func33, Tryz.ntmps33
    go_wp2
    go_ret
    exact ⟨ret_i (unhide hq).symm, (by repeat (first | exact Below.refl _ _ | exact bel_one _ _ | assumption | refine bel_alloc ?_ _ | refine bel_set ?_ (by first | (simp; done) | (simp; omega)) _ | refine bel_drew ?_ | refine bel_drewN ?_ _ | refine bel_trans ?_ (by assumption)))⟩
  · rw [partV_n h1 h2 h3]
    have rN := taNR
    have mN := taNM
    clear h1 h2 h3
    go_enter Tryz.func33, Tryz.ntmps33
    go_wp2
    go_ret
    exact ⟨ret_i (unhide hq).symm, (by repeat (first | exact Below.refl _ _ | exact bel_one _ _ | assumption | refine bel_alloc ?_ _ | refine bel_set ?_ (by first | (simp; done) | (simp; omega)) _ | refine bel_drew ?_ | refine bel_drewN ?_ _ | refine bel_trans ?_ (by assumption)))⟩

end Go.Proofs.YtcokdcehjibanaaGreatDoor
