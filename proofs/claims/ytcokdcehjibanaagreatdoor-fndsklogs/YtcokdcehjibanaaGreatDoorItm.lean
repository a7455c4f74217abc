/- Proved here: what the functions on one item answer, in the program and in the specification, at every argument. -/
import Derived.Test.YtcokdcehjibanaaGreatDoorWin
namespace Go.Proofs.YtcokdcehjibanaaGreatDoor
open Go.ChangeShapes Go.WideShapes Go.ChangeAt Go.RowKit
set_option linter.unusedVariables false

/-- When a record, a mark, a wall, an item is ok. -/
def okRec (t k v n : Int) : Bool := inB t 0 60 && inB k 0 3 && inB v (-9) 9 && (n == 0)
def okMark (t k v n : Int) : Bool := (inB t 1 60 || t == 1000) && (k == 0) && (v == 0) && (n == 0)
def okWall (t k v n : Int) : Bool := inB n 1 900 && (t == 0) && (k == 0) && (v == 0)
def okWallS (t k v n : Int) : Bool := (t == 0) && (k == 0) && (v == 0) && inB n 1 900
def okItm (q t k v n : Int) : Bool := if q = 1 then okRec t k v n else if q = 2 then okMark t k v n else if q = 3 then okWall t k v n else false
theorem okWall_eq (t k v n : Int) : okWallS t k v n = okWall t k v n := by
  unfold okWallS okWall
  cases inB n 1 900 <;> cases (t == 0) <;> cases (k == 0) <;> cases (v == 0) <;> rfl
theorem okItm_1 (t k v n : Int) : okItm 1 t k v n = okRec t k v n := rfl
theorem okItm_2 (t k v n : Int) : okItm 2 t k v n = okMark t k v n := rfl
theorem okItm_3 (t k v n : Int) : okItm 3 t k v n = okWall t k v n := rfl
theorem okItm_n {q : Int} (h1 : q ≠ 1) (h2 : q ≠ 2) (h3 : q ≠ 3) (t k v n : Int) : okItm q t k v n = false := by unfold okItm; rw [if_neg h1, if_neg h2, if_neg h3]

theorem recok_any (q t k v n : Int) (w : World) : Calls Tryz.prog 43 #[.agg #[.int .i64 q, .int .i64 t, .int .i64 k, .int .i64 v, .int .i64 n]] w fun e w' => e = .returned (.bool (okRec t k v n)) ∧ Below w.heap.size w w' := by
  cases c0 : inB t 0 60
  · have hq : Hid (okRec t k v n = false) := hide (by simp [okRec, c0])
    go_enter Tryz.func43, Tryz.ntmps43
    go_wp2_with (go_at_call 50; refine (within_any _ _ _ _).mono ?_; rintro e w' ⟨rfl, rfl⟩)
    go_ret
    exact ⟨ret_b (unhide hq).symm, (by repeat (first | exact Below.refl _ _ | exact bel_one _ _ | assumption | refine bel_alloc ?_ _ | refine bel_set ?_ (by first | (simp; done) | (simp; omega)) _ | refine bel_drew ?_ | refine bel_drewN ?_ _ | refine bel_trans ?_ (by assumption)))⟩
  · cases c1 : inB k 0 3
    · have hq : Hid (okRec t k v n = false) := hide (by simp [okRec, c0, c1])
      go_enter Tryz.func43, Tryz.ntmps43
      go_wp2_with (go_at_call 50; refine (within_any _ _ _ _).mono ?_; rintro e w' ⟨rfl, rfl⟩)
      go_ret
      exact ⟨ret_b (unhide hq).symm, (by repeat (first | exact Below.refl _ _ | exact bel_one _ _ | assumption | refine bel_alloc ?_ _ | refine bel_set ?_ (by first | (simp; done) | (simp; omega)) _ | refine bel_drew ?_ | refine bel_drewN ?_ _ | refine bel_trans ?_ (by assumption)))⟩
    · cases c2 : inB v (-9) 9
      · have hq : Hid (okRec t k v n = false) := hide (by simp [okRec, c0, c1, c2])
        go_enter Tryz.func43, Tryz.ntmps43
        go_wp2_with (go_at_call 50; refine (within_any _ _ _ _).mono ?_; rintro e w' ⟨rfl, rfl⟩)
        go_ret
        exact ⟨ret_b (unhide hq).symm, (by repeat (first | exact Below.refl _ _ | exact bel_one _ _ | assumption | refine bel_alloc ?_ _ | refine bel_set ?_ (by first | (simp; done) | (simp; omega)) _ | refine bel_drew ?_ | refine bel_drewN ?_ _ | refine bel_trans ?_ (by assumption)))⟩
      · have hq : Hid (okRec t k v n = (n == 0)) := hide (by simp [okRec, c0, c1, c2])
        go_enter Tryz.func43, Tryz.ntmps43
        go_wp2_with (go_at_call 50; refine (within_any _ _ _ _).mono ?_; rintro e w' ⟨rfl, rfl⟩)
        go_ret
        exact ⟨ret_b (unhide hq).symm, (by repeat (first | exact Below.refl _ _ | exact bel_one _ _ | assumption | refine bel_alloc ?_ _ | refine bel_set ?_ (by first | (simp; done) | (simp; omega)) _ | refine bel_drew ?_ | refine bel_drewN ?_ _ | refine bel_trans ?_ (by assumption)))⟩

theorem markok_any (q t k v n : Int) (w : World) : Calls Tryz.prog 44 #[.agg #[.int .i64 q, .int .i64 t, .int .i64 k, .int .i64 v, .int .i64 n]] w fun e w' => e = .returned (.bool (okMark t k v n)) ∧ Below w.heap.size w w' := by
  cases m0 : inB t 1 60
  · cases m1 : (t == 1000)
    · have hq : Hid (okMark t k v n = false) := hide (by simp [okMark, m0, m1])
      go_enter Tryz.func44, Tryz.ntmps44
      go_wp2_with (go_at_call 50; refine (within_any _ _ _ _).mono ?_; rintro e w' ⟨rfl, rfl⟩)
      go_ret
      exact ⟨ret_b (unhide hq).symm, (by repeat (first | exact Below.refl _ _ | exact bel_one _ _ | assumption | refine bel_alloc ?_ _ | refine bel_set ?_ (by first | (simp; done) | (simp; omega)) _ | refine bel_drew ?_ | refine bel_drewN ?_ _ | refine bel_trans ?_ (by assumption)))⟩
    · cases c0 : (k == 0)
      · have hq : Hid (okMark t k v n = false) := hide (by simp [okMark, m0, m1, c0])
        go_enter Tryz.func44, Tryz.ntmps44
        go_wp2_with (go_at_call 50; refine (within_any _ _ _ _).mono ?_; rintro e w' ⟨rfl, rfl⟩)
        go_ret
        exact ⟨ret_b (unhide hq).symm, (by repeat (first | exact Below.refl _ _ | exact bel_one _ _ | assumption | refine bel_alloc ?_ _ | refine bel_set ?_ (by first | (simp; done) | (simp; omega)) _ | refine bel_drew ?_ | refine bel_drewN ?_ _ | refine bel_trans ?_ (by assumption)))⟩
      · cases c1 : (v == 0)
        · have hq : Hid (okMark t k v n = false) := hide (by simp [okMark, m0, m1, c0, c1])
          go_enter Tryz.func44, Tryz.ntmps44
          go_wp2_with (go_at_call 50; refine (within_any _ _ _ _).mono ?_; rintro e w' ⟨rfl, rfl⟩)
          go_ret
          exact ⟨ret_b (unhide hq).symm, (by repeat (first | exact Below.refl _ _ | exact bel_one _ _ | assumption | refine bel_alloc ?_ _ | refine bel_set ?_ (by first | (simp; done) | (simp; omega)) _ | refine bel_drew ?_ | refine bel_drewN ?_ _ | refine bel_trans ?_ (by assumption)))⟩
        · have hq : Hid (okMark t k v n = (n == 0)) := hide (by simp [okMark, m0, m1, c0, c1])
          go_enter Tryz.func44, Tryz.ntmps44
          go_wp2_with (go_at_call 50; refine (within_any _ _ _ _).mono ?_; rintro e w' ⟨rfl, rfl⟩)
          go_ret
          exact ⟨ret_b (unhide hq).symm, (by repeat (first | exact Below.refl _ _ | exact bel_one _ _ | assumption | refine bel_alloc ?_ _ | refine bel_set ?_ (by first | (simp; done) | (simp; omega)) _ | refine bel_drew ?_ | refine bel_drewN ?_ _ | refine bel_trans ?_ (by assumption)))⟩
  · cases c0 : (k == 0)
    · have hq : Hid (okMark t k v n = false) := hide (by simp [okMark, m0, c0])
      go_enter Tryz.func44, Tryz.ntmps44
      go_wp2_with (go_at_call 50; refine (within_any _ _ _ _).mono ?_; rintro e w' ⟨rfl, rfl⟩)
      go_ret
      exact ⟨ret_b (unhide hq).symm, (by repeat (first | exact Below.refl _ _ | exact bel_one _ _ | assumption | refine bel_alloc ?_ _ | refine bel_set ?_ (by first | (simp; done) | (simp; omega)) _ | refine bel_drew ?_ | refine bel_drewN ?_ _ | refine bel_trans ?_ (by assumption)))⟩
    · cases c1 : (v == 0)
      · have hq : Hid (okMark t k v n = false) := hide (by simp [okMark, m0, c0, c1])
        go_enter Tryz.func44, Tryz.ntmps44
        go_wp2_with (go_at_call 50; refine (within_any _ _ _ _).mono ?_; rintro e w' ⟨rfl, rfl⟩)
        go_ret
        exact ⟨ret_b (unhide hq).symm, (by repeat (first | exact Below.refl _ _ | exact bel_one _ _ | assumption | refine bel_alloc ?_ _ | refine bel_set ?_ (by first | (simp; done) | (simp; omega)) _ | refine bel_drew ?_ | refine bel_drewN ?_ _ | refine bel_trans ?_ (by assumption)))⟩
      · have hq : Hid (okMark t k v n = (n == 0)) := hide (by simp [okMark, m0, c0, c1])
        go_enter Tryz.func44, Tryz.ntmps44
        go_wp2_with (go_at_call 50; refine (within_any _ _ _ _).mono ?_; rintro e w' ⟨rfl, rfl⟩)
        go_ret
        exact ⟨ret_b (unhide hq).symm, (by repeat (first | exact Below.refl _ _ | exact bel_one _ _ | assumption | refine bel_alloc ?_ _ | refine bel_set ?_ (by first | (simp; done) | (simp; omega)) _ | refine bel_drew ?_ | refine bel_drewN ?_ _ | refine bel_trans ?_ (by assumption)))⟩

theorem wallok_any (q t k v n : Int) (w : World) : Calls Tryz.prog 112 #[.agg #[.int .i64 q, .int .i64 t, .int .i64 k, .int .i64 v, .int .i64 n]] w fun e w' => e = .returned (.bool (okWall t k v n)) ∧ Below w.heap.size w w' := by
  cases c0 : inB n 1 900
  · have hq : Hid (okWall t k v n = false) := hide (by simp [okWall, c0])
    go_enter Tryz.func112, Tryz.ntmps112
    go_wp2_with (go_at_call 50; refine (within_any _ _ _ _).mono ?_; rintro e w' ⟨rfl, rfl⟩)
    go_ret
    exact ⟨ret_b (unhide hq).symm, (by repeat (first | exact Below.refl _ _ | exact bel_one _ _ | assumption | refine bel_alloc ?_ _ | refine bel_set ?_ (by first | (simp; done) | (simp; omega)) _ | refine bel_drew ?_ | refine bel_drewN ?_ _ | refine bel_trans ?_ (by assumption)))⟩
  · cases c1 : (t == 0)
    · have hq : Hid (okWall t k v n = false) := hide (by simp [okWall, c0, c1])
      go_enter Tryz.func112, Tryz.ntmps112
      go_wp2_with (go_at_call 50; refine (within_any _ _ _ _).mono ?_; rintro e w' ⟨rfl, rfl⟩)
      go_ret
      exact ⟨ret_b (unhide hq).symm, (by repeat (first | exact Below.refl _ _ | exact bel_one _ _ | assumption | refine bel_alloc ?_ _ | refine bel_set ?_ (by first | (simp; done) | (simp; omega)) _ | refine bel_drew ?_ | refine bel_drewN ?_ _ | refine bel_trans ?_ (by assumption)))⟩
    · cases c2 : (k == 0)
      · have hq : Hid (okWall t k v n = false) := hide (by simp [okWall, c0, c1, c2])
        go_enter Tryz.func112, Tryz.ntmps112
        go_wp2_with (go_at_call 50; refine (within_any _ _ _ _).mono ?_; rintro e w' ⟨rfl, rfl⟩)
        go_ret
        exact ⟨ret_b (unhide hq).symm, (by repeat (first | exact Below.refl _ _ | exact bel_one _ _ | assumption | refine bel_alloc ?_ _ | refine bel_set ?_ (by first | (simp; done) | (simp; omega)) _ | refine bel_drew ?_ | refine bel_drewN ?_ _ | refine bel_trans ?_ (by assumption)))⟩
      · have hq : Hid (okWall t k v n = (v == 0)) := hide (by simp [okWall, c0, c1, c2])
        go_enter Tryz.func112, Tryz.ntmps112
        go_wp2_with (go_at_call 50; refine (within_any _ _ _ _).mono ?_; rintro e w' ⟨rfl, rfl⟩)
        go_ret
        exact ⟨ret_b (unhide hq).symm, (by repeat (first | exact Below.refl _ _ | exact bel_one _ _ | assumption | refine bel_alloc ?_ _ | refine bel_set ?_ (by first | (simp; done) | (simp; omega)) _ | refine bel_drew ?_ | refine bel_drewN ?_ _ | refine bel_trans ?_ (by assumption)))⟩

theorem noneok_any (q t k v n : Int) (w : World) : Calls Tryz.prog 114 #[.agg #[.int .i64 q, .int .i64 t, .int .i64 k, .int .i64 v, .int .i64 n]] w fun e w' => e = .returned (.bool false) ∧ Below w.heap.size w w' := by
  go_enter Tryz.func114, Tryz.ntmps114
  go_wp2
  go_ret
  exact ⟨rfl, (by repeat (first | exact Below.refl _ _ | exact bel_one _ _ | assumption | refine bel_alloc ?_ _ | refine bel_set ?_ (by first | (simp; done) | (simp; omega)) _ | refine bel_drew ?_ | refine bel_drewN ?_ _ | refine bel_trans ?_ (by assumption)))⟩

set_option maxHeartbeats 1000000 in
theorem specitm_any (q t k v n : Int) (w : World) : Calls Tryz.prog 40 #[.agg #[.int .i64 q, .int .i64 t, .int .i64 k, .int .i64 v, .int .i64 n]] w fun e w' => e = .returned (.bool (okItm q t k v n)) ∧ Below w.heap.size w w' := by
  by_cases h1 : q = 1
  · subst h1
    rw [okItm_1]
    cases c0 : inB t 0 60
    · have hq : Hid (okRec t k v n = false) := hide (by simp [okRec, c0])
      go_enter Tryz.func40, Tryz.ntmps40
      go_wp2_with (go_at_call 39; refine (l1In_any _ _ _ _).mono ?_; rintro e w' ⟨rfl, rfl⟩)
      go_ret
      exact ⟨ret_b (unhide hq).symm, (by repeat (first | exact Below.refl _ _ | exact bel_one _ _ | assumption | refine bel_alloc ?_ _ | refine bel_set ?_ (by first | (simp; done) | (simp; omega)) _ | refine bel_drew ?_ | refine bel_drewN ?_ _ | refine bel_trans ?_ (by assumption)))⟩
    · cases c1 : inB k 0 3
      · have hq : Hid (okRec t k v n = false) := hide (by simp [okRec, c0, c1])
        go_enter Tryz.func40, Tryz.ntmps40
        go_wp2_with (go_at_call 39; refine (l1In_any _ _ _ _).mono ?_; rintro e w' ⟨rfl, rfl⟩)
        go_ret
        exact ⟨ret_b (unhide hq).symm, (by repeat (first | exact Below.refl _ _ | exact bel_one _ _ | assumption | refine bel_alloc ?_ _ | refine bel_set ?_ (by first | (simp; done) | (simp; omega)) _ | refine bel_drew ?_ | refine bel_drewN ?_ _ | refine bel_trans ?_ (by assumption)))⟩
      · cases c2 : inB v (-9) 9
        · have hq : Hid (okRec t k v n = false) := hide (by simp [okRec, c0, c1, c2])
          go_enter Tryz.func40, Tryz.ntmps40
          go_wp2_with (go_at_call 39; refine (l1In_any _ _ _ _).mono ?_; rintro e w' ⟨rfl, rfl⟩)
          go_ret
          exact ⟨ret_b (unhide hq).symm, (by repeat (first | exact Below.refl _ _ | exact bel_one _ _ | assumption | refine bel_alloc ?_ _ | refine bel_set ?_ (by first | (simp; done) | (simp; omega)) _ | refine bel_drew ?_ | refine bel_drewN ?_ _ | refine bel_trans ?_ (by assumption)))⟩
        · have hq : Hid (okRec t k v n = (n == 0)) := hide (by simp [okRec, c0, c1, c2])
          go_enter Tryz.func40, Tryz.ntmps40
          go_wp2_with (go_at_call 39; refine (l1In_any _ _ _ _).mono ?_; rintro e w' ⟨rfl, rfl⟩)
          go_ret
          exact ⟨ret_b (unhide hq).symm, (by repeat (first | exact Below.refl _ _ | exact bel_one _ _ | assumption | refine bel_alloc ?_ _ | refine bel_set ?_ (by first | (simp; done) | (simp; omega)) _ | refine bel_drew ?_ | refine bel_drewN ?_ _ | refine bel_trans ?_ (by assumption)))⟩
  by_cases h2 : q = 2
  · subst h2
    rw [okItm_2]
    cases m0 : inB t 1 60
    · cases m1 : (t == 1000)
      · have hq : Hid (okMark t k v n = false) := hide (by simp [okMark, m0, m1])
        go_enter Tryz.func40, Tryz.ntmps40
        go_wp2_with (go_at_call 39; refine (l1In_any _ _ _ _).mono ?_; rintro e w' ⟨rfl, rfl⟩)
        go_ret
        exact ⟨ret_b (unhide hq).symm, (by repeat (first | exact Below.refl _ _ | exact bel_one _ _ | assumption | refine bel_alloc ?_ _ | refine bel_set ?_ (by first | (simp; done) | (simp; omega)) _ | refine bel_drew ?_ | refine bel_drewN ?_ _ | refine bel_trans ?_ (by assumption)))⟩
      · cases c0 : (k == 0)
        · have hq : Hid (okMark t k v n = false) := hide (by simp [okMark, m0, m1, c0])
          go_enter Tryz.func40, Tryz.ntmps40
          go_wp2_with (go_at_call 39; refine (l1In_any _ _ _ _).mono ?_; rintro e w' ⟨rfl, rfl⟩)
          go_ret
          exact ⟨ret_b (unhide hq).symm, (by repeat (first | exact Below.refl _ _ | exact bel_one _ _ | assumption | refine bel_alloc ?_ _ | refine bel_set ?_ (by first | (simp; done) | (simp; omega)) _ | refine bel_drew ?_ | refine bel_drewN ?_ _ | refine bel_trans ?_ (by assumption)))⟩
        · cases c1 : (v == 0)
          · have hq : Hid (okMark t k v n = false) := hide (by simp [okMark, m0, m1, c0, c1])
            go_enter Tryz.func40, Tryz.ntmps40
            go_wp2_with (go_at_call 39; refine (l1In_any _ _ _ _).mono ?_; rintro e w' ⟨rfl, rfl⟩)
            go_ret
            exact ⟨ret_b (unhide hq).symm, (by repeat (first | exact Below.refl _ _ | exact bel_one _ _ | assumption | refine bel_alloc ?_ _ | refine bel_set ?_ (by first | (simp; done) | (simp; omega)) _ | refine bel_drew ?_ | refine bel_drewN ?_ _ | refine bel_trans ?_ (by assumption)))⟩
          · have hq : Hid (okMark t k v n = (n == 0)) := hide (by simp [okMark, m0, m1, c0, c1])
            go_enter Tryz.func40, Tryz.ntmps40
            go_wp2_with (go_at_call 39; refine (l1In_any _ _ _ _).mono ?_; rintro e w' ⟨rfl, rfl⟩)
            go_ret
            exact ⟨ret_b (unhide hq).symm, (by repeat (first | exact Below.refl _ _ | exact bel_one _ _ | assumption | refine bel_alloc ?_ _ | refine bel_set ?_ (by first | (simp; done) | (simp; omega)) _ | refine bel_drew ?_ | refine bel_drewN ?_ _ | refine bel_trans ?_ (by assumption)))⟩
    · cases c0 : (k == 0)
      · have hq : Hid (okMark t k v n = false) := hide (by simp [okMark, m0, c0])
        go_enter Tryz.func40, Tryz.ntmps40
        go_wp2_with (go_at_call 39; refine (l1In_any _ _ _ _).mono ?_; rintro e w' ⟨rfl, rfl⟩)
        go_ret
        exact ⟨ret_b (unhide hq).symm, (by repeat (first | exact Below.refl _ _ | exact bel_one _ _ | assumption | refine bel_alloc ?_ _ | refine bel_set ?_ (by first | (simp; done) | (simp; omega)) _ | refine bel_drew ?_ | refine bel_drewN ?_ _ | refine bel_trans ?_ (by assumption)))⟩
      · cases c1 : (v == 0)
        · have hq : Hid (okMark t k v n = false) := hide (by simp [okMark, m0, c0, c1])
          go_enter Tryz.func40, Tryz.ntmps40
          go_wp2_with (go_at_call 39; refine (l1In_any _ _ _ _).mono ?_; rintro e w' ⟨rfl, rfl⟩)
          go_ret
          exact ⟨ret_b (unhide hq).symm, (by repeat (first | exact Below.refl _ _ | exact bel_one _ _ | assumption | refine bel_alloc ?_ _ | refine bel_set ?_ (by first | (simp; done) | (simp; omega)) _ | refine bel_drew ?_ | refine bel_drewN ?_ _ | refine bel_trans ?_ (by assumption)))⟩
        · have hq : Hid (okMark t k v n = (n == 0)) := hide (by simp [okMark, m0, c0, c1])
          go_enter Tryz.func40, Tryz.ntmps40
          go_wp2_with (go_at_call 39; refine (l1In_any _ _ _ _).mono ?_; rintro e w' ⟨rfl, rfl⟩)
          go_ret
          exact ⟨ret_b (unhide hq).symm, (by repeat (first | exact Below.refl _ _ | exact bel_one _ _ | assumption | refine bel_alloc ?_ _ | refine bel_set ?_ (by first | (simp; done) | (simp; omega)) _ | refine bel_drew ?_ | refine bel_drewN ?_ _ | refine bel_trans ?_ (by assumption)))⟩
  have g1 : (q == 1) = false := by simpa using h1
  have g2 : (q == 2) = false := by simpa using h2
  by_cases h3 : q = 3
  · subst h3
    rw [okItm_3, ← okWall_eq]
    clear g1 g2
    cases c0 : (t == 0)
    · have hq : Hid (okWallS t k v n = false) := hide (by simp [okWallS, c0])
      go_enter Tryz.func40, Tryz.ntmps40
      go_wp2_with (go_at_call 39; refine (l1In_any _ _ _ _).mono ?_; rintro e w' ⟨rfl, rfl⟩)
      go_ret
      exact ⟨ret_b (unhide hq).symm, (by repeat (first | exact Below.refl _ _ | exact bel_one _ _ | assumption | refine bel_alloc ?_ _ | refine bel_set ?_ (by first | (simp; done) | (simp; omega)) _ | refine bel_drew ?_ | refine bel_drewN ?_ _ | refine bel_trans ?_ (by assumption)))⟩
    · cases c1 : (k == 0)
      · have hq : Hid (okWallS t k v n = false) := hide (by simp [okWallS, c0, c1])
        go_enter Tryz.func40, Tryz.ntmps40
        go_wp2_with (go_at_call 39; refine (l1In_any _ _ _ _).mono ?_; rintro e w' ⟨rfl, rfl⟩)
        go_ret
        exact ⟨ret_b (unhide hq).symm, (by repeat (first | exact Below.refl _ _ | exact bel_one _ _ | assumption | refine bel_alloc ?_ _ | refine bel_set ?_ (by first | (simp; done) | (simp; omega)) _ | refine bel_drew ?_ | refine bel_drewN ?_ _ | refine bel_trans ?_ (by assumption)))⟩
      · cases c2 : (v == 0)
        · have hq : Hid (okWallS t k v n = false) := hide (by simp [okWallS, c0, c1, c2])
          go_enter Tryz.func40, Tryz.ntmps40
          go_wp2_with (go_at_call 39; refine (l1In_any _ _ _ _).mono ?_; rintro e w' ⟨rfl, rfl⟩)
          go_ret
          exact ⟨ret_b (unhide hq).symm, (by repeat (first | exact Below.refl _ _ | exact bel_one _ _ | assumption | refine bel_alloc ?_ _ | refine bel_set ?_ (by first | (simp; done) | (simp; omega)) _ | refine bel_drew ?_ | refine bel_drewN ?_ _ | refine bel_trans ?_ (by assumption)))⟩
        · have hq : Hid (okWallS t k v n = inB n 1 900) := hide (by simp [okWallS, c0, c1, c2])
          go_enter Tryz.func40, Tryz.ntmps40
          go_wp2_with (go_at_call 39; refine (l1In_any _ _ _ _).mono ?_; rintro e w' ⟨rfl, rfl⟩)
          go_ret
          exact ⟨ret_b (unhide hq).symm, (by repeat (first | exact Below.refl _ _ | exact bel_one _ _ | assumption | refine bel_alloc ?_ _ | refine bel_set ?_ (by first | (simp; done) | (simp; omega)) _ | refine bel_drew ?_ | refine bel_drewN ?_ _ | refine bel_trans ?_ (by assumption)))⟩
  have g3 : (q == 3) = false := by simpa using h3
  have hq : Hid (okItm q t k v n = false) := hide (okItm_n h1 h2 h3 t k v n)
  clear h1 h2 h3
  go_enter Tryz.func40, Tryz.ntmps40
  go_wp2_with (go_at_call 39; refine (l1In_any _ _ _ _).mono ?_; rintro e w' ⟨rfl, rfl⟩)
  go_ret
  exact ⟨ret_b (unhide hq).symm, (by repeat (first | exact Below.refl _ _ | exact bel_one _ _ | assumption | refine bel_alloc ?_ _ | refine bel_set ?_ (by first | (simp; done) | (simp; omega)) _ | refine bel_drew ?_ | refine bel_drewN ?_ _ | refine bel_trans ?_ (by assumption)))⟩

/-- The interface value that an item is, by its kind. -/
def partV (q t k v n : Int) : Value := .iface (if q = 1 then 76 else if q = 2 then 77 else if q = 3 then 78 else 79) (.agg #[.int .i64 q, .int .i64 t, .int .i64 k, .int .i64 v, .int .i64 n])
theorem partOf_any (q t k v n : Int) (w : World) : Calls Tryz.prog 34 #[.agg #[.int .i64 q, .int .i64 t, .int .i64 k, .int .i64 v, .int .i64 n]] w fun e w' => e = .returned (partV q t k v n) ∧ Below w.heap.size w w' := by
  by_cases h1 : q = 1
  · subst h1
    go_enter Tryz.func34, Tryz.ntmps34
    go_wp2
    go_ret
    exact ⟨rfl, (by repeat (first | exact Below.refl _ _ | exact bel_one _ _ | assumption | refine bel_alloc ?_ _ | refine bel_set ?_ (by first | (simp; done) | (simp; omega)) _ | refine bel_drew ?_ | refine bel_drewN ?_ _ | refine bel_trans ?_ (by assumption)))⟩
  by_cases h2 : q = 2
  · subst h2
    go_enter Tryz.func34, Tryz.ntmps34
    go_wp2
    go_ret
    exact ⟨rfl, (by repeat (first | exact Below.refl _ _ | exact bel_one _ _ | assumption | refine bel_alloc ?_ _ | refine bel_set ?_ (by first | (simp; done) | (simp; omega)) _ | refine bel_drew ?_ | refine bel_drewN ?_ _ | refine bel_trans ?_ (by assumption)))⟩
  by_cases h3 : q = 3
  · subst h3
    go_enter Tryz.func34, Tryz.ntmps34
    go_wp2
    go_ret
    exact ⟨rfl, (by repeat (first | exact Below.refl _ _ | exact bel_one _ _ | assumption | refine bel_alloc ?_ _ | refine bel_set ?_ (by first | (simp; done) | (simp; omega)) _ | refine bel_drew ?_ | refine bel_drewN ?_ _ | refine bel_trans ?_ (by assumption)))⟩
  have hq : Hid (partV q t k v n = .iface 79 (.agg #[.int .i64 q, .int .i64 t, .int .i64 k, .int .i64 v, .int .i64 n])) := hide (by unfold partV; rw [if_neg h1, if_neg h2, if_neg h3])
  have g1 : (q == 1) = false := by simpa using h1
  have g2 : (q == 2) = false := by simpa using h2
  have g3 : (q == 3) = false := by simpa using h3
  clear h1 h2 h3
  go_enter Tryz.func34, Tryz.ntmps34
  go_wp2
  go_ret
  exact ⟨by rw [unhide hq]; rfl, (by repeat (first | exact Below.refl _ _ | exact bel_one _ _ | assumption | refine bel_alloc ?_ _ | refine bel_set ?_ (by first | (simp; done) | (simp; omega)) _ | refine bel_drew ?_ | refine bel_drewN ?_ _ | refine bel_trans ?_ (by assumption)))⟩

end Go.Proofs.YtcokdcehjibanaaGreatDoor
