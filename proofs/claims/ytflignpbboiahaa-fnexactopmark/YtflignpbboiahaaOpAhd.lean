/- Proved here: which window of a key is ahead of another one, in the specification and in the program; when rows may stand one behind the other. -/
import Derived.Test.YtflignpbboiahaaCmp
import Derived.Test.YtflignpbboiahaaOpRow
import Derived.Test.YtflignpbboiahaaWin2
namespace Go.Proofs.Ytflignpbboiahaa
open Go.ChangeShapes Go.WideShapes Go.ChangeAt Go.RowKit
set_option linter.unusedVariables false

theorem ret_pb {a b : Bool} (h : b = a) : Ending.returned (.bool a) = .returned (.bool b) := by rw [h]

/-- Whether a window of a key is ahead of another one. -/
def aheadP (ky st en ky' st' en' : Int) : Bool := decide (plCmp ky st en ky' st' en' < 0)

theorem aheadP_ky {ky st en ky' st' en' : Int} (h : ¬ ky = ky') : aheadP ky st en ky' st' en' = decide (ky < ky') := by
  unfold aheadP plCmp orI cmpI
  by_cases h1 : ky < ky'
  · simp [h1]
  · have h2 : ky' < ky := by omega
    simp [h1, h2]

theorem aheadP_st {ky st en st' en' : Int} (h2 : ¬ st = st') : aheadP ky st en ky st' en' = decide (st < st') := by
  unfold aheadP plCmp orI cmpI
  by_cases h1 : st < st'
  · simp [h1]
  · have h3 : st' < st := by omega
    simp [h1, h3]

theorem aheadP_en {ky st en en' : Int} : aheadP ky st en ky st en' = decide (en < en') := by
  unfold aheadP plCmp orI cmpI
  by_cases h1 : en < en'
  · simp [h1]
  · by_cases h3 : en' < en
    · simp [h1, h3]
    · simp [h1, h3]

/-- Whether a window is ahead of another one. -/
def lessW (st en st' en' : Int) : Bool := if st = st' then decide (en < en') else decide (st < st')

theorem l2less_any (st en st' en' : Int) (w : World) : Calls Try.prog 48 #[.agg #[.int .i64 st, .int .i64 en], .agg #[.int .i64 st', .int .i64 en']] w fun e w' => e = .returned (.bool (lessW st en st' en')) ∧ Below w.heap.size w w' := by
  by_cases h : st = st'
  · have hq : lessW st en st' en' = decide (en < en') := if_pos h
    have HQ := hide hq
    have h' : (st == st') = true := by simpa using h
    clear hq
    go_enter Try.func48, Try.ntmps48
    go_wp2
    go_ret
    exact ⟨ret_pb (unhide HQ), (by repeat (first | (with_reducible exact Below.refl _ _) | (with_reducible assumption) | (with_reducible refine bel_set ?_ (by first | (simp; done) | (simp; omega)) _) | (with_reducible refine bel_alloc ?_ _) | (with_reducible refine bel_drew ?_) | (with_reducible refine bel_drewN ?_ _) | (with_reducible refine bel_trans ?_ (by with_reducible assumption))))⟩
  · have hq : lessW st en st' en' = decide (st < st') := if_neg h
    have HQ := hide hq
    have h' : (st == st') = false := by simpa using h
    clear hq
    go_enter Try.func48, Try.ntmps48
    go_wp2
    go_ret
    exact ⟨ret_pb (unhide HQ), (by repeat (first | (with_reducible exact Below.refl _ _) | (with_reducible assumption) | (with_reducible refine bel_set ?_ (by first | (simp; done) | (simp; omega)) _) | (with_reducible refine bel_alloc ?_ _) | (with_reducible refine bel_drew ?_) | (with_reducible refine bel_drewN ?_ _) | (with_reducible refine bel_trans ?_ (by with_reducible assumption))))⟩

theorem ahead_kP {ky st en st' en' : Int} : lessW st en st' en' = aheadP ky st en ky st' en' := by
  unfold lessW
  by_cases h2 : st = st'
  · subst h2; rw [if_pos rfl, aheadP_en]
  · rw [if_neg h2, aheadP_st h2]

theorem l5aheadP_any (ky st en ky' st' en' : Int) (w : World) : Calls Try.prog 32 #[.int .i64 ky, .agg #[.int .i64 st, .int .i64 en], .int .i64 ky', .agg #[.int .i64 st', .int .i64 en']] w fun e w' => e = .returned (.bool (aheadP ky st en ky' st' en')) ∧ Below w.heap.size w w' := by
  by_cases h : ky = ky'
  · subst h
    have HQ := hide (ahead_kP (ky := ky) (st := st) (en := en) (st' := st') (en' := en')).symm
    go_enter Try.func32, Try.ntmps32
    go_wp2_with (go_at_call 48; refine (l2less_any _ _ _ _ _).mono ?_; rintro e w' ⟨rfl, hb⟩)
    go_ret
    exact ⟨ret_pb (unhide HQ), (by repeat (first | (with_reducible exact Below.refl _ _) | (with_reducible assumption) | (with_reducible refine bel_set ?_ (by first | (simp; done) | (simp; omega)) _) | (with_reducible refine bel_alloc ?_ _) | (with_reducible refine bel_drew ?_) | (with_reducible refine bel_drewN ?_ _) | (with_reducible refine bel_trans ?_ (by with_reducible assumption))))⟩
  · have HQ := hide (aheadP_ky (st := st) (en := en) (st' := st') (en' := en') h)
    have h' : (ky == ky') = false := by simpa using h
    go_enter Try.func32, Try.ntmps32
    go_wp2
    go_ret
    exact ⟨ret_pb (unhide HQ), (by repeat (first | (with_reducible exact Below.refl _ _) | (with_reducible assumption) | (with_reducible refine bel_set ?_ (by first | (simp; done) | (simp; omega)) _) | (with_reducible refine bel_alloc ?_ _) | (with_reducible refine bel_drew ?_) | (with_reducible refine bel_drewN ?_ _) | (with_reducible refine bel_trans ?_ (by with_reducible assumption))))⟩

/-- Whether a row may stand behind another one. -/
def nextP (kd ky st en ky' st' en' : Int) : Bool := !(kd == 3 && (ky == ky' && touchB st en st' en')) && aheadP ky' st' en' ky st en

set_option maxRecDepth 20000 in
set_option maxHeartbeats 4000000 in
theorem behind_any (ky st en an asu ale amo fn fsu fle fmo td : Int) (tm : Bool) (ky' st' en' an' asu' ale' amo' fn' fsu' fle' fmo' td' : Int) (tm' : Bool) (kd : Int) (w : World) : Calls Try.prog 38 #[.agg #[.int .i64 ky, .int .i64 st, .int .i64 en, .int .i64 an, .int .i64 asu, .int .i64 ale, .int .i64 amo, .int .i64 fn, .int .i64 fsu, .int .i64 fle, .int .i64 fmo, .int .i64 td, .bool tm], .agg #[.int .i64 ky', .int .i64 st', .int .i64 en', .int .i64 an', .int .i64 asu', .int .i64 ale', .int .i64 amo', .int .i64 fn', .int .i64 fsu', .int .i64 fle', .int .i64 fmo', .int .i64 td', .bool tm'], .int .i64 kd] w fun e' w' => e' = .returned (.bool (nextP kd ky st en ky' st' en')) ∧ Below w.heap.size w w' := by
  cases c0 : (kd == 3)
  · have hq : Hid (nextP kd ky st en ky' st' en' = decide (plCmp ky' st' en' ky st en < 0)) := hide (by simp [nextP, c0, aheadP])
    go_enter Try.func38, Try.ntmps38
    go_wp2_with (first
      | (go_at_call 54; refine (touches_any _ _ _ _ _).mono ?_; rintro e w' ⟨rfl, hb⟩; obtain ⟨hc, hf, hs⟩ := bcell hb; (try have hz0 : w.heap.size < w'.heap.size := (by have h9 := hb.size; (try simp at h9); omega)); (try have hz1 : w.heap.size + 1 < w'.heap.size := (by have h9 := hb.size; (try simp at h9); omega)))
      | (go_at_call 39; refine (opplace_any _ _ _ _ _ _ _ _ _ _ _ _ _ _).mono ?_; rintro e w' ⟨rfl, hb⟩; obtain ⟨hc, hf, hs⟩ := bcell hb; (try have hz0 : w.heap.size < w'.heap.size := (by have h9 := hb.size; (try simp at h9); omega)); (try have hz1 : w.heap.size + 1 < w'.heap.size := (by have h9 := hb.size; (try simp at h9); omega)))
      | (go_at_call 55; refine (compare_any _ _ _ _ _ _ _).mono ?_; rintro e w' ⟨rfl, hb⟩; obtain ⟨hc, hf, hs⟩ := bcell hb; (try have hz0 : w.heap.size < w'.heap.size := (by have h9 := hb.size; (try simp at h9); omega)); (try have hz1 : w.heap.size + 1 < w'.heap.size := (by have h9 := hb.size; (try simp at h9); omega))))
    go_region_held3 (fun W => ((W.cell? ⟨w.heap.size, 0, none⟩ = some (.int .i64 ky) ∧ W.cell? ⟨w.heap.size, 1, none⟩ = some (.int .i64 st) ∧ W.cell? ⟨w.heap.size, 2, none⟩ = some (.int .i64 en) ∧ W.cell? ⟨w.heap.size, 3, none⟩ = some (.int .i64 an) ∧ W.cell? ⟨w.heap.size, 4, none⟩ = some (.int .i64 asu) ∧ W.cell? ⟨w.heap.size, 5, none⟩ = some (.int .i64 ale) ∧ W.cell? ⟨w.heap.size, 6, none⟩ = some (.int .i64 amo) ∧ W.cell? ⟨w.heap.size, 7, none⟩ = some (.int .i64 fn) ∧ W.cell? ⟨w.heap.size, 8, none⟩ = some (.int .i64 fsu) ∧ W.cell? ⟨w.heap.size, 9, none⟩ = some (.int .i64 fle) ∧ W.cell? ⟨w.heap.size, 10, none⟩ = some (.int .i64 fmo) ∧ W.cell? ⟨w.heap.size, 11, none⟩ = some (.int .i64 td) ∧ W.cell? ⟨w.heap.size, 12, none⟩ = some (.bool tm) ∧ W.cell? ⟨w.heap.size + 1, 0, none⟩ = some (.int .i64 ky') ∧ W.cell? ⟨w.heap.size + 1, 1, none⟩ = some (.int .i64 st') ∧ W.cell? ⟨w.heap.size + 1, 2, none⟩ = some (.int .i64 en') ∧ W.cell? ⟨w.heap.size + 1, 3, none⟩ = some (.int .i64 an') ∧ W.cell? ⟨w.heap.size + 1, 4, none⟩ = some (.int .i64 asu') ∧ W.cell? ⟨w.heap.size + 1, 5, none⟩ = some (.int .i64 ale') ∧ W.cell? ⟨w.heap.size + 1, 6, none⟩ = some (.int .i64 amo') ∧ W.cell? ⟨w.heap.size + 1, 7, none⟩ = some (.int .i64 fn') ∧ W.cell? ⟨w.heap.size + 1, 8, none⟩ = some (.int .i64 fsu') ∧ W.cell? ⟨w.heap.size + 1, 9, none⟩ = some (.int .i64 fle') ∧ W.cell? ⟨w.heap.size + 1, 10, none⟩ = some (.int .i64 fmo') ∧ W.cell? ⟨w.heap.size + 1, 11, none⟩ = some (.int .i64 td') ∧ W.cell? ⟨w.heap.size + 1, 12, none⟩ = some (.bool tm')) ∧ w.heap.size < W.heap.size ∧ w.heap.size + 1 < W.heap.size)) ((first | ((repeat (first | (with_reducible assumption) | (with_reducible refine hd_13_13 ?_ (by with_reducible assumption)) | (with_reducible refine hd_13_13 ?_ (bel_drew (Below.refl _ _))) | (with_reducible exact hd_13_13_re (by with_reducible assumption) (by first | omega | (simp; done) | (simp; omega)) (by first | omega | (simp; done) | (simp; omega))) | (with_reducible refine hd_13_13 ?_ (bel_one _ _)) | (with_reducible refine hd_13_13_set ?_ (by first | omega | (simp; done) | (simp; omega)) (by first | omega | (simp; done) | (simp; omega)) _))); done) | (refine ⟨⟨?_, ?_, ?_, ?_, ?_, ?_, ?_, ?_, ?_, ?_, ?_, ?_, ?_, ?_, ?_, ?_, ?_, ?_, ?_, ?_, ?_, ?_, ?_, ?_, ?_, ?_⟩, ?_, ?_⟩ <;> first | (go_keep; done) | (simp; done) | (simp; omega) | omega)))
      (first
      | (go_at_call 54; refine (touches_any _ _ _ _ _).mono ?_; rintro e w' ⟨rfl, hb⟩; obtain ⟨hc, hf, hs⟩ := bcell hb)
      | (go_at_call 39; refine (opplace_any _ _ _ _ _ _ _ _ _ _ _ _ _ _).mono ?_; rintro e w' ⟨rfl, hb⟩; obtain ⟨hc, hf, hs⟩ := bcell hb)
      | (go_at_call 55; refine (compare_any _ _ _ _ _ _ _).mono ?_; rintro e w' ⟨rfl, hb⟩; obtain ⟨hc, hf, hs⟩ := bcell hb))
    all_goals
      go_wp2_with (first
        | (go_at_call 54; refine (touches_any _ _ _ _ _).mono ?_; rintro e w' ⟨rfl, hb⟩; obtain ⟨hc, hf, hs⟩ := bcell hb; (try have hz0 : w.heap.size < w'.heap.size := (by have h9 := hb.size; (try simp at h9); omega)); (try have hz1 : w.heap.size + 1 < w'.heap.size := (by have h9 := hb.size; (try simp at h9); omega)))
        | (go_at_call 39; refine (opplace_any _ _ _ _ _ _ _ _ _ _ _ _ _ _).mono ?_; rintro e w' ⟨rfl, hb⟩; obtain ⟨hc, hf, hs⟩ := bcell hb; (try have hz0 : w.heap.size < w'.heap.size := (by have h9 := hb.size; (try simp at h9); omega)); (try have hz1 : w.heap.size + 1 < w'.heap.size := (by have h9 := hb.size; (try simp at h9); omega)))
        | (go_at_call 55; refine (compare_any _ _ _ _ _ _ _).mono ?_; rintro e w' ⟨rfl, hb⟩; obtain ⟨hc, hf, hs⟩ := bcell hb; (try have hz0 : w.heap.size < w'.heap.size := (by have h9 := hb.size; (try simp at h9); omega)); (try have hz1 : w.heap.size + 1 < w'.heap.size := (by have h9 := hb.size; (try simp at h9); omega))))
      go_ret
      exact ⟨ret_b (unhide hq).symm, (by repeat (first | (with_reducible refine bel_set ?_ (by first | (simp; done) | (simp; omega)) _) | (with_reducible refine bel_alloc ?_ _) | (with_reducible exact Below.refl _ _) | (with_reducible assumption) | (with_reducible refine bel_drew ?_) | (with_reducible refine bel_drewN ?_ _) | (with_reducible refine bel_trans ?_ (by with_reducible assumption))))⟩
  · cases c1 : (ky == ky')
    · have hq : Hid (nextP kd ky st en ky' st' en' = decide (plCmp ky' st' en' ky st en < 0)) := hide (by simp [nextP, c1, aheadP])
      go_enter Try.func38, Try.ntmps38
      go_wp2_with (first
        | (go_at_call 54; refine (touches_any _ _ _ _ _).mono ?_; rintro e w' ⟨rfl, hb⟩; obtain ⟨hc, hf, hs⟩ := bcell hb; (try have hz0 : w.heap.size < w'.heap.size := (by have h9 := hb.size; (try simp at h9); omega)); (try have hz1 : w.heap.size + 1 < w'.heap.size := (by have h9 := hb.size; (try simp at h9); omega)))
        | (go_at_call 39; refine (opplace_any _ _ _ _ _ _ _ _ _ _ _ _ _ _).mono ?_; rintro e w' ⟨rfl, hb⟩; obtain ⟨hc, hf, hs⟩ := bcell hb; (try have hz0 : w.heap.size < w'.heap.size := (by have h9 := hb.size; (try simp at h9); omega)); (try have hz1 : w.heap.size + 1 < w'.heap.size := (by have h9 := hb.size; (try simp at h9); omega)))
        | (go_at_call 55; refine (compare_any _ _ _ _ _ _ _).mono ?_; rintro e w' ⟨rfl, hb⟩; obtain ⟨hc, hf, hs⟩ := bcell hb; (try have hz0 : w.heap.size < w'.heap.size := (by have h9 := hb.size; (try simp at h9); omega)); (try have hz1 : w.heap.size + 1 < w'.heap.size := (by have h9 := hb.size; (try simp at h9); omega))))
      go_region_held3 (fun W => ((W.cell? ⟨w.heap.size, 0, none⟩ = some (.int .i64 ky) ∧ W.cell? ⟨w.heap.size, 1, none⟩ = some (.int .i64 st) ∧ W.cell? ⟨w.heap.size, 2, none⟩ = some (.int .i64 en) ∧ W.cell? ⟨w.heap.size, 3, none⟩ = some (.int .i64 an) ∧ W.cell? ⟨w.heap.size, 4, none⟩ = some (.int .i64 asu) ∧ W.cell? ⟨w.heap.size, 5, none⟩ = some (.int .i64 ale) ∧ W.cell? ⟨w.heap.size, 6, none⟩ = some (.int .i64 amo) ∧ W.cell? ⟨w.heap.size, 7, none⟩ = some (.int .i64 fn) ∧ W.cell? ⟨w.heap.size, 8, none⟩ = some (.int .i64 fsu) ∧ W.cell? ⟨w.heap.size, 9, none⟩ = some (.int .i64 fle) ∧ W.cell? ⟨w.heap.size, 10, none⟩ = some (.int .i64 fmo) ∧ W.cell? ⟨w.heap.size, 11, none⟩ = some (.int .i64 td) ∧ W.cell? ⟨w.heap.size, 12, none⟩ = some (.bool tm) ∧ W.cell? ⟨w.heap.size + 1, 0, none⟩ = some (.int .i64 ky') ∧ W.cell? ⟨w.heap.size + 1, 1, none⟩ = some (.int .i64 st') ∧ W.cell? ⟨w.heap.size + 1, 2, none⟩ = some (.int .i64 en') ∧ W.cell? ⟨w.heap.size + 1, 3, none⟩ = some (.int .i64 an') ∧ W.cell? ⟨w.heap.size + 1, 4, none⟩ = some (.int .i64 asu') ∧ W.cell? ⟨w.heap.size + 1, 5, none⟩ = some (.int .i64 ale') ∧ W.cell? ⟨w.heap.size + 1, 6, none⟩ = some (.int .i64 amo') ∧ W.cell? ⟨w.heap.size + 1, 7, none⟩ = some (.int .i64 fn') ∧ W.cell? ⟨w.heap.size + 1, 8, none⟩ = some (.int .i64 fsu') ∧ W.cell? ⟨w.heap.size + 1, 9, none⟩ = some (.int .i64 fle') ∧ W.cell? ⟨w.heap.size + 1, 10, none⟩ = some (.int .i64 fmo') ∧ W.cell? ⟨w.heap.size + 1, 11, none⟩ = some (.int .i64 td') ∧ W.cell? ⟨w.heap.size + 1, 12, none⟩ = some (.bool tm')) ∧ w.heap.size < W.heap.size ∧ w.heap.size + 1 < W.heap.size)) ((first | ((repeat (first | (with_reducible assumption) | (with_reducible refine hd_13_13 ?_ (by with_reducible assumption)) | (with_reducible refine hd_13_13 ?_ (bel_drew (Below.refl _ _))) | (with_reducible exact hd_13_13_re (by with_reducible assumption) (by first | omega | (simp; done) | (simp; omega)) (by first | omega | (simp; done) | (simp; omega))) | (with_reducible refine hd_13_13 ?_ (bel_one _ _)) | (with_reducible refine hd_13_13_set ?_ (by first | omega | (simp; done) | (simp; omega)) (by first | omega | (simp; done) | (simp; omega)) _))); done) | (refine ⟨⟨?_, ?_, ?_, ?_, ?_, ?_, ?_, ?_, ?_, ?_, ?_, ?_, ?_, ?_, ?_, ?_, ?_, ?_, ?_, ?_, ?_, ?_, ?_, ?_, ?_, ?_⟩, ?_, ?_⟩ <;> first | (go_keep; done) | (simp; done) | (simp; omega) | omega)))
        (first
        | (go_at_call 54; refine (touches_any _ _ _ _ _).mono ?_; rintro e w' ⟨rfl, hb⟩; obtain ⟨hc, hf, hs⟩ := bcell hb)
        | (go_at_call 39; refine (opplace_any _ _ _ _ _ _ _ _ _ _ _ _ _ _).mono ?_; rintro e w' ⟨rfl, hb⟩; obtain ⟨hc, hf, hs⟩ := bcell hb)
        | (go_at_call 55; refine (compare_any _ _ _ _ _ _ _).mono ?_; rintro e w' ⟨rfl, hb⟩; obtain ⟨hc, hf, hs⟩ := bcell hb))
      all_goals
        go_wp2_with (first
          | (go_at_call 54; refine (touches_any _ _ _ _ _).mono ?_; rintro e w' ⟨rfl, hb⟩; obtain ⟨hc, hf, hs⟩ := bcell hb; (try have hz0 : w.heap.size < w'.heap.size := (by have h9 := hb.size; (try simp at h9); omega)); (try have hz1 : w.heap.size + 1 < w'.heap.size := (by have h9 := hb.size; (try simp at h9); omega)))
          | (go_at_call 39; refine (opplace_any _ _ _ _ _ _ _ _ _ _ _ _ _ _).mono ?_; rintro e w' ⟨rfl, hb⟩; obtain ⟨hc, hf, hs⟩ := bcell hb; (try have hz0 : w.heap.size < w'.heap.size := (by have h9 := hb.size; (try simp at h9); omega)); (try have hz1 : w.heap.size + 1 < w'.heap.size := (by have h9 := hb.size; (try simp at h9); omega)))
          | (go_at_call 55; refine (compare_any _ _ _ _ _ _ _).mono ?_; rintro e w' ⟨rfl, hb⟩; obtain ⟨hc, hf, hs⟩ := bcell hb; (try have hz0 : w.heap.size < w'.heap.size := (by have h9 := hb.size; (try simp at h9); omega)); (try have hz1 : w.heap.size + 1 < w'.heap.size := (by have h9 := hb.size; (try simp at h9); omega))))
        go_ret
        exact ⟨ret_b (unhide hq).symm, (by repeat (first | (with_reducible refine bel_set ?_ (by first | (simp; done) | (simp; omega)) _) | (with_reducible refine bel_alloc ?_ _) | (with_reducible exact Below.refl _ _) | (with_reducible assumption) | (with_reducible refine bel_drew ?_) | (with_reducible refine bel_drewN ?_ _) | (with_reducible refine bel_trans ?_ (by with_reducible assumption))))⟩
    · cases c2 : touchB st en st' en'
      · have hq : Hid (nextP kd ky st en ky' st' en' = decide (plCmp ky' st' en' ky st en < 0)) := hide (by simp [nextP, c2, aheadP])
        go_enter Try.func38, Try.ntmps38
        go_wp2_with (first
          | (go_at_call 54; refine (touches_any _ _ _ _ _).mono ?_; rintro e w' ⟨rfl, hb⟩; obtain ⟨hc, hf, hs⟩ := bcell hb; (try have hz0 : w.heap.size < w'.heap.size := (by have h9 := hb.size; (try simp at h9); omega)); (try have hz1 : w.heap.size + 1 < w'.heap.size := (by have h9 := hb.size; (try simp at h9); omega)))
          | (go_at_call 39; refine (opplace_any _ _ _ _ _ _ _ _ _ _ _ _ _ _).mono ?_; rintro e w' ⟨rfl, hb⟩; obtain ⟨hc, hf, hs⟩ := bcell hb; (try have hz0 : w.heap.size < w'.heap.size := (by have h9 := hb.size; (try simp at h9); omega)); (try have hz1 : w.heap.size + 1 < w'.heap.size := (by have h9 := hb.size; (try simp at h9); omega)))
          | (go_at_call 55; refine (compare_any _ _ _ _ _ _ _).mono ?_; rintro e w' ⟨rfl, hb⟩; obtain ⟨hc, hf, hs⟩ := bcell hb; (try have hz0 : w.heap.size < w'.heap.size := (by have h9 := hb.size; (try simp at h9); omega)); (try have hz1 : w.heap.size + 1 < w'.heap.size := (by have h9 := hb.size; (try simp at h9); omega))))
        have hS : ((w'.cell? ⟨w.heap.size, 0, none⟩ = some (.int .i64 ky) ∧ w'.cell? ⟨w.heap.size, 1, none⟩ = some (.int .i64 st) ∧ w'.cell? ⟨w.heap.size, 2, none⟩ = some (.int .i64 en) ∧ w'.cell? ⟨w.heap.size, 3, none⟩ = some (.int .i64 an) ∧ w'.cell? ⟨w.heap.size, 4, none⟩ = some (.int .i64 asu) ∧ w'.cell? ⟨w.heap.size, 5, none⟩ = some (.int .i64 ale) ∧ w'.cell? ⟨w.heap.size, 6, none⟩ = some (.int .i64 amo) ∧ w'.cell? ⟨w.heap.size, 7, none⟩ = some (.int .i64 fn) ∧ w'.cell? ⟨w.heap.size, 8, none⟩ = some (.int .i64 fsu) ∧ w'.cell? ⟨w.heap.size, 9, none⟩ = some (.int .i64 fle) ∧ w'.cell? ⟨w.heap.size, 10, none⟩ = some (.int .i64 fmo) ∧ w'.cell? ⟨w.heap.size, 11, none⟩ = some (.int .i64 td) ∧ w'.cell? ⟨w.heap.size, 12, none⟩ = some (.bool tm) ∧ w'.cell? ⟨w.heap.size + 1, 0, none⟩ = some (.int .i64 ky') ∧ w'.cell? ⟨w.heap.size + 1, 1, none⟩ = some (.int .i64 st') ∧ w'.cell? ⟨w.heap.size + 1, 2, none⟩ = some (.int .i64 en') ∧ w'.cell? ⟨w.heap.size + 1, 3, none⟩ = some (.int .i64 an') ∧ w'.cell? ⟨w.heap.size + 1, 4, none⟩ = some (.int .i64 asu') ∧ w'.cell? ⟨w.heap.size + 1, 5, none⟩ = some (.int .i64 ale') ∧ w'.cell? ⟨w.heap.size + 1, 6, none⟩ = some (.int .i64 amo') ∧ w'.cell? ⟨w.heap.size + 1, 7, none⟩ = some (.int .i64 fn') ∧ w'.cell? ⟨w.heap.size + 1, 8, none⟩ = some (.int .i64 fsu') ∧ w'.cell? ⟨w.heap.size + 1, 9, none⟩ = some (.int .i64 fle') ∧ w'.cell? ⟨w.heap.size + 1, 10, none⟩ = some (.int .i64 fmo') ∧ w'.cell? ⟨w.heap.size + 1, 11, none⟩ = some (.int .i64 td') ∧ w'.cell? ⟨w.heap.size + 1, 12, none⟩ = some (.bool tm')) ∧ w.heap.size < w'.heap.size ∧ w.heap.size + 1 < w'.heap.size) := ⟨⟨(hb.cell (p := ⟨w.heap.size, 0, none⟩) (by simp <;> omega)).trans (by simp [go_sem]), (hb.cell (p := ⟨w.heap.size, 1, none⟩) (by simp <;> omega)).trans (by simp [go_sem]), (hb.cell (p := ⟨w.heap.size, 2, none⟩) (by simp <;> omega)).trans (by simp [go_sem]), (hb.cell (p := ⟨w.heap.size, 3, none⟩) (by simp <;> omega)).trans (by simp [go_sem]), (hb.cell (p := ⟨w.heap.size, 4, none⟩) (by simp <;> omega)).trans (by simp [go_sem]), (hb.cell (p := ⟨w.heap.size, 5, none⟩) (by simp <;> omega)).trans (by simp [go_sem]), (hb.cell (p := ⟨w.heap.size, 6, none⟩) (by simp <;> omega)).trans (by simp [go_sem]), (hb.cell (p := ⟨w.heap.size, 7, none⟩) (by simp <;> omega)).trans (by simp [go_sem]), (hb.cell (p := ⟨w.heap.size, 8, none⟩) (by simp <;> omega)).trans (by simp [go_sem]), (hb.cell (p := ⟨w.heap.size, 9, none⟩) (by simp <;> omega)).trans (by simp [go_sem]), (hb.cell (p := ⟨w.heap.size, 10, none⟩) (by simp <;> omega)).trans (by simp [go_sem]), (hb.cell (p := ⟨w.heap.size, 11, none⟩) (by simp <;> omega)).trans (by simp [go_sem]), (hb.cell (p := ⟨w.heap.size, 12, none⟩) (by simp <;> omega)).trans (by simp [go_sem]), (hb.cell (p := ⟨w.heap.size + 1, 0, none⟩) (by simp <;> omega)).trans (by simp [go_sem]), (hb.cell (p := ⟨w.heap.size + 1, 1, none⟩) (by simp <;> omega)).trans (by simp [go_sem]), (hb.cell (p := ⟨w.heap.size + 1, 2, none⟩) (by simp <;> omega)).trans (by simp [go_sem]), (hb.cell (p := ⟨w.heap.size + 1, 3, none⟩) (by simp <;> omega)).trans (by simp [go_sem]), (hb.cell (p := ⟨w.heap.size + 1, 4, none⟩) (by simp <;> omega)).trans (by simp [go_sem]), (hb.cell (p := ⟨w.heap.size + 1, 5, none⟩) (by simp <;> omega)).trans (by simp [go_sem]), (hb.cell (p := ⟨w.heap.size + 1, 6, none⟩) (by simp <;> omega)).trans (by simp [go_sem]), (hb.cell (p := ⟨w.heap.size + 1, 7, none⟩) (by simp <;> omega)).trans (by simp [go_sem]), (hb.cell (p := ⟨w.heap.size + 1, 8, none⟩) (by simp <;> omega)).trans (by simp [go_sem]), (hb.cell (p := ⟨w.heap.size + 1, 9, none⟩) (by simp <;> omega)).trans (by simp [go_sem]), (hb.cell (p := ⟨w.heap.size + 1, 10, none⟩) (by simp <;> omega)).trans (by simp [go_sem]), (hb.cell (p := ⟨w.heap.size + 1, 11, none⟩) (by simp <;> omega)).trans (by simp [go_sem]), (hb.cell (p := ⟨w.heap.size + 1, 12, none⟩) (by simp <;> omega)).trans (by simp [go_sem])⟩, by have h9 := hb.size; simp at h9; omega, by have h9 := hb.size; simp at h9; omega⟩
        go_region_held3 (fun W => ((W.cell? ⟨w.heap.size, 0, none⟩ = some (.int .i64 ky) ∧ W.cell? ⟨w.heap.size, 1, none⟩ = some (.int .i64 st) ∧ W.cell? ⟨w.heap.size, 2, none⟩ = some (.int .i64 en) ∧ W.cell? ⟨w.heap.size, 3, none⟩ = some (.int .i64 an) ∧ W.cell? ⟨w.heap.size, 4, none⟩ = some (.int .i64 asu) ∧ W.cell? ⟨w.heap.size, 5, none⟩ = some (.int .i64 ale) ∧ W.cell? ⟨w.heap.size, 6, none⟩ = some (.int .i64 amo) ∧ W.cell? ⟨w.heap.size, 7, none⟩ = some (.int .i64 fn) ∧ W.cell? ⟨w.heap.size, 8, none⟩ = some (.int .i64 fsu) ∧ W.cell? ⟨w.heap.size, 9, none⟩ = some (.int .i64 fle) ∧ W.cell? ⟨w.heap.size, 10, none⟩ = some (.int .i64 fmo) ∧ W.cell? ⟨w.heap.size, 11, none⟩ = some (.int .i64 td) ∧ W.cell? ⟨w.heap.size, 12, none⟩ = some (.bool tm) ∧ W.cell? ⟨w.heap.size + 1, 0, none⟩ = some (.int .i64 ky') ∧ W.cell? ⟨w.heap.size + 1, 1, none⟩ = some (.int .i64 st') ∧ W.cell? ⟨w.heap.size + 1, 2, none⟩ = some (.int .i64 en') ∧ W.cell? ⟨w.heap.size + 1, 3, none⟩ = some (.int .i64 an') ∧ W.cell? ⟨w.heap.size + 1, 4, none⟩ = some (.int .i64 asu') ∧ W.cell? ⟨w.heap.size + 1, 5, none⟩ = some (.int .i64 ale') ∧ W.cell? ⟨w.heap.size + 1, 6, none⟩ = some (.int .i64 amo') ∧ W.cell? ⟨w.heap.size + 1, 7, none⟩ = some (.int .i64 fn') ∧ W.cell? ⟨w.heap.size + 1, 8, none⟩ = some (.int .i64 fsu') ∧ W.cell? ⟨w.heap.size + 1, 9, none⟩ = some (.int .i64 fle') ∧ W.cell? ⟨w.heap.size + 1, 10, none⟩ = some (.int .i64 fmo') ∧ W.cell? ⟨w.heap.size + 1, 11, none⟩ = some (.int .i64 td') ∧ W.cell? ⟨w.heap.size + 1, 12, none⟩ = some (.bool tm')) ∧ w.heap.size < W.heap.size ∧ w.heap.size + 1 < W.heap.size)) ((first | ((repeat (first | (with_reducible assumption) | (with_reducible refine hd_13_13 ?_ (by with_reducible assumption)) | (with_reducible refine hd_13_13 ?_ (bel_drew (Below.refl _ _))) | (with_reducible exact hd_13_13_re (by with_reducible assumption) (by first | omega | (simp; done) | (simp; omega)) (by first | omega | (simp; done) | (simp; omega))) | (with_reducible refine hd_13_13 ?_ (bel_one _ _)) | (with_reducible refine hd_13_13_set ?_ (by first | omega | (simp; done) | (simp; omega)) (by first | omega | (simp; done) | (simp; omega)) _))); done) | (refine ⟨⟨?_, ?_, ?_, ?_, ?_, ?_, ?_, ?_, ?_, ?_, ?_, ?_, ?_, ?_, ?_, ?_, ?_, ?_, ?_, ?_, ?_, ?_, ?_, ?_, ?_, ?_⟩, ?_, ?_⟩ <;> first | (go_keep; done) | (simp; done) | (simp; omega) | omega)))
          (first
          | (go_at_call 54; refine (touches_any _ _ _ _ _).mono ?_; rintro e w' ⟨rfl, hb⟩; obtain ⟨hc, hf, hs⟩ := bcell hb)
          | (go_at_call 39; refine (opplace_any _ _ _ _ _ _ _ _ _ _ _ _ _ _).mono ?_; rintro e w' ⟨rfl, hb⟩; obtain ⟨hc, hf, hs⟩ := bcell hb)
          | (go_at_call 55; refine (compare_any _ _ _ _ _ _ _).mono ?_; rintro e w' ⟨rfl, hb⟩; obtain ⟨hc, hf, hs⟩ := bcell hb))
        all_goals
          go_wp2_with (first
            | (go_at_call 54; refine (touches_any _ _ _ _ _).mono ?_; rintro e w' ⟨rfl, hb⟩; obtain ⟨hc, hf, hs⟩ := bcell hb; (try have hz0 : w.heap.size < w'.heap.size := (by have h9 := hb.size; (try simp at h9); omega)); (try have hz1 : w.heap.size + 1 < w'.heap.size := (by have h9 := hb.size; (try simp at h9); omega)))
            | (go_at_call 39; refine (opplace_any _ _ _ _ _ _ _ _ _ _ _ _ _ _).mono ?_; rintro e w' ⟨rfl, hb⟩; obtain ⟨hc, hf, hs⟩ := bcell hb; (try have hz0 : w.heap.size < w'.heap.size := (by have h9 := hb.size; (try simp at h9); omega)); (try have hz1 : w.heap.size + 1 < w'.heap.size := (by have h9 := hb.size; (try simp at h9); omega)))
            | (go_at_call 55; refine (compare_any _ _ _ _ _ _ _).mono ?_; rintro e w' ⟨rfl, hb⟩; obtain ⟨hc, hf, hs⟩ := bcell hb; (try have hz0 : w.heap.size < w'.heap.size := (by have h9 := hb.size; (try simp at h9); omega)); (try have hz1 : w.heap.size + 1 < w'.heap.size := (by have h9 := hb.size; (try simp at h9); omega))))
          go_ret
          exact ⟨ret_b (unhide hq).symm, (by repeat (first | (with_reducible refine bel_set ?_ (by first | (simp; done) | (simp; omega)) _) | (with_reducible refine bel_alloc ?_ _) | (with_reducible exact Below.refl _ _) | (with_reducible assumption) | (with_reducible refine bel_drew ?_) | (with_reducible refine bel_drewN ?_ _) | (with_reducible refine bel_trans ?_ (by with_reducible assumption))))⟩
      · have hq : Hid (nextP kd ky st en ky' st' en' = false) := hide (by simp [nextP, c0, c1, c2])
        go_enter Try.func38, Try.ntmps38
        go_wp2_with (first
          | (go_at_call 54; refine (touches_any _ _ _ _ _).mono ?_; rintro e w' ⟨rfl, hb⟩; obtain ⟨hc, hf, hs⟩ := bcell hb; (try have hz0 : w.heap.size < w'.heap.size := (by have h9 := hb.size; (try simp at h9); omega)); (try have hz1 : w.heap.size + 1 < w'.heap.size := (by have h9 := hb.size; (try simp at h9); omega)))
          | (go_at_call 39; refine (opplace_any _ _ _ _ _ _ _ _ _ _ _ _ _ _).mono ?_; rintro e w' ⟨rfl, hb⟩; obtain ⟨hc, hf, hs⟩ := bcell hb; (try have hz0 : w.heap.size < w'.heap.size := (by have h9 := hb.size; (try simp at h9); omega)); (try have hz1 : w.heap.size + 1 < w'.heap.size := (by have h9 := hb.size; (try simp at h9); omega)))
          | (go_at_call 55; refine (compare_any _ _ _ _ _ _ _).mono ?_; rintro e w' ⟨rfl, hb⟩; obtain ⟨hc, hf, hs⟩ := bcell hb; (try have hz0 : w.heap.size < w'.heap.size := (by have h9 := hb.size; (try simp at h9); omega)); (try have hz1 : w.heap.size + 1 < w'.heap.size := (by have h9 := hb.size; (try simp at h9); omega))))
        go_ret
        exact ⟨ret_b (unhide hq).symm, (by repeat (first | (with_reducible refine bel_set ?_ (by first | (simp; done) | (simp; omega)) _) | (with_reducible refine bel_alloc ?_ _) | (with_reducible exact Below.refl _ _) | (with_reducible assumption) | (with_reducible refine bel_drew ?_) | (with_reducible refine bel_drewN ?_ _) | (with_reducible refine bel_trans ?_ (by with_reducible assumption))))⟩

end Go.Proofs.Ytflignpbboiahaa
