/- Laid together: what the claim needs of the texts that were built one by one. -/
import Derived.Test.YtbjhpiannjepkaaGreatPsCmp
import Derived.Test.YtbjhpiannjepkaaGreatPsOpRow
import Derived.Test.YtbjhpiannjepkaaGreatPsWin2
import Derived.Test.YtbjhpiannjepkaaGreatPsBase
namespace Go.Proofs.YtbjhpiannjepkaaGreat
open Go.ChangeShapes Go.WideShapes Go.ChangeAt Go.RowKit
set_option linter.unusedVariables false

theorem ret_pb {a b : Bool} (h : b = a) : Ending.returned (.bool a) = .returned (.bool b) := by rw [h]

/-- Whether a window of a key is ahead of another one. -/
def aheadP (ky st en ky' st' en' : Int) : Bool := decide (plCmp ky st en ky' st' en' < 0)

theorem aheadP_ky {ky st en ky' st' en' : Int} (h : ¬ ky = ky') : aheadP ky st en ky' st' en' = decide (ky < ky') := by
  unfold aheadP plCmp orI cmpI
  by_cases h1 : ky < ky'
  · simp [h1]
  · have h2 : ky' < ky := by omega
    simp [h1, h2]

theorem aheadP_st {ky st en st' en' : Int} (h2 : ¬ st = st') : aheadP ky st en ky st' en' = decide (st < st') := by
  unfold aheadP plCmp orI cmpI
  by_cases h1 : st < st'
  · simp [h1]
  · have h3 : st' < st := by omega
    simp [h1, h3]

theorem aheadP_en {ky st en en' : Int} : aheadP ky st en ky st en' = decide (en < en') := by
  unfold aheadP plCmp orI cmpI
  by_cases h1 : en < en'
  · simp [h1]
  · by_cases h3 : en' < en
    · simp [h1, h3]
    · simp [h1, h3]

/-- Whether a window is ahead of another one. -/
def lessW (st en st' en' : Int) : Bool := if st = st' then decide (en < en') else decide (st < st')

theorem l2less_any (st en st' en' : Int) (w : World) : Calls Tryz.prog 97 #[.agg #[.int .i64 st, .int .i64 en], .agg #[.int .i64 st', .int .i64 en']] w fun e w' => e = .returned (.bool (lessW st en st' en')) ∧ Below w.heap.size w w' := by
  by_cases h : st = st'
  · have hq : lessW st en st' en' = decide (en < en') := if_pos h
    have HQ := hide hq
    have h' : (st == st') = true := by simpa using h
    clear hq
    go_enter Tryz.func97, Tryz.ntmps97
    go_wp2
    go_ret
    exact ⟨ret_pb (unhide HQ), (belA)⟩
  · have hq : lessW st en st' en' = decide (st < st') := if_neg h
    have HQ := hide hq
    have h' : (st == st') = false := by simpa using h
    clear hq
    go_enter Tryz.func97, Tryz.ntmps97
    go_wp2
    go_ret
    exact ⟨ret_pb (unhide HQ), (belA)⟩

theorem ahead_kP {ky st en st' en' : Int} : lessW st en st' en' = aheadP ky st en ky st' en' := by
  unfold lessW
  by_cases h2 : st = st'
  · subst h2; rw [if_pos rfl, aheadP_en]
  · rw [if_neg h2, aheadP_st h2]

theorem l5aheadP_any (ky st en ky' st' en' : Int) (w : World) : Calls Tryz.prog 85 #[.int .i64 ky, .agg #[.int .i64 st, .int .i64 en], .int .i64 ky', .agg #[.int .i64 st', .int .i64 en']] w fun e w' => e = .returned (.bool (aheadP ky st en ky' st' en')) ∧ Below w.heap.size w w' := by
  by_cases h : ky = ky'
  · subst h
    have HQ := hide (ahead_kP (ky := ky) (st := st) (en := en) (st' := st') (en' := en')).symm
    go_enter Tryz.func85, Tryz.ntmps85
    go_wp2_with (go_at_call 97; refine (l2less_any _ _ _ _ _).mono ?_; rintro e w' ⟨rfl, hb⟩)
    go_ret
    exact ⟨ret_pb (unhide HQ), (belA)⟩
  · have HQ := hide (aheadP_ky (st := st) (en := en) (st' := st') (en' := en') h)
    have h' : (ky == ky') = false := by simpa using h
    go_enter Tryz.func85, Tryz.ntmps85
    go_wp2
    go_ret
    exact ⟨ret_pb (unhide HQ), (belA)⟩

/-- Whether a row may stand behind another one. -/
def nextP (kd ky st en ky' st' en' : Int) : Bool := !(kd == 3 && (ky == ky' && touchB st en st' en')) && aheadP ky' st' en' ky st en

set_option maxRecDepth 20000 in
set_option maxHeartbeats 4000000 in
theorem behind_any (ky st en an asu ale amo fn fsu fle fmo td : Int) (tm : Bool) (ky' st' en' an' asu' ale' amo' fn' fsu' fle' fmo' td' : Int) (tm' : Bool) (kd : Int) (w : World) : Calls Tryz.prog 100 #[.agg #[.int .i64 ky, .int .i64 st, .int .i64 en, .int .i64 an, .int .i64 asu, .int .i64 ale, .int .i64 amo, .int .i64 fn, .int .i64 fsu, .int .i64 fle, .int .i64 fmo, .int .i64 td, .bool tm], .agg #[.int .i64 ky', .int .i64 st', .int .i64 en', .int .i64 an', .int .i64 asu', .int .i64 ale', .int .i64 amo', .int .i64 fn', .int .i64 fsu', .int .i64 fle', .int .i64 fmo', .int .i64 td', .bool tm'], .int .i64 kd] w fun e' w' => e' = .returned (.bool (nextP kd ky st en ky' st' en')) ∧ Below w.heap.size w w' := by
  cases c0 : (kd == 3)
  · have hq : Hid (nextP kd ky st en ky' st' en' = decide (plCmp ky' st' en' ky st en < 0)) := hide (by simp [nextP, c0, aheadP])
    go_enter Tryz.func100, Tryz.ntmps100
    go_wp2_with (first
      | (go_at_call 107; refine (touches_any _ _ _ _ _).mono ?_; rintro e w' ⟨rfl, hb⟩; obtain ⟨hc, hf, hs⟩ := bcell hb; (try have hz0 : w.heap.size < w'.heap.size := (by have h9 := hb.size; (try simp at h9); omega)); (try have hz1 : w.heap.size + 1 < w'.heap.size := (by have h9 := hb.size; (try simp at h9); omega)))
      | (go_at_call 104; refine (opplace_any _ _ _ _ _ _ _ _ _ _ _ _ _ _).mono ?_; rintro e w' ⟨rfl, hb⟩; obtain ⟨hc, hf, hs⟩ := bcell hb; (try have hz0 : w.heap.size < w'.heap.size := (by have h9 := hb.size; (try simp at h9); omega)); (try have hz1 : w.heap.size + 1 < w'.heap.size := (by have h9 := hb.size; (try simp at h9); omega)))
      | (go_at_call 108; refine (compare_any _ _ _ _ _ _ _).mono ?_; rintro e w' ⟨rfl, hb⟩; obtain ⟨hc, hf, hs⟩ := bcell hb; (try have hz0 : w.heap.size < w'.heap.size := (by have h9 := hb.size; (try simp at h9); omega)); (try have hz1 : w.heap.size + 1 < w'.heap.size := (by have h9 := hb.size; (try simp at h9); omega))))
    go_region_held3 (fun W => ((W.cell? ⟨w.heap.size, 0, none⟩ = some (.int .i64 ky) ∧ W.cell? ⟨w.heap.size, 1, none⟩ = some (.int .i64 st) ∧ W.cell? ⟨w.heap.size, 2, none⟩ = some (.int .i64 en) ∧ W.cell? ⟨w.heap.size, 3, none⟩ = some (.int .i64 an) ∧ W.cell? ⟨w.heap.size, 4, none⟩ = some (.int .i64 asu) ∧ W.cell? ⟨w.heap.size, 5, none⟩ = some (.int .i64 ale) ∧ W.cell? ⟨w.heap.size, 6, none⟩ = some (.int .i64 amo) ∧ W.cell? ⟨w.heap.size, 7, none⟩ = some (.int .i64 fn) ∧ W.cell? ⟨w.heap.size, 8, none⟩ = some (.int .i64 fsu) ∧ W.cell? ⟨w.heap.size, 9, none⟩ = some (.int .i64 fle) ∧ W.cell? ⟨w.heap.size, 10, none⟩ = some (.int .i64 fmo) ∧ W.cell? ⟨w.heap.size, 11, none⟩ = some (.int .i64 td) ∧ W.cell? ⟨w.heap.size, 12, none⟩ = some (.bool tm) ∧ W.cell? ⟨w.heap.size + 1, 0, none⟩ = some (.int .i64 ky') ∧ W.cell? ⟨w.heap.size + 1, 1, none⟩ = some (.int .i64 st') ∧ W.cell? ⟨w.heap.size + 1, 2, none⟩ = some (.int .i64 en') ∧ W.cell? ⟨w.heap.size + 1, 3, none⟩ = some (.int .i64 an') ∧ W.cell? ⟨w.heap.size + 1, 4, none⟩ = some (.int .i64 asu') ∧ W.cell? ⟨w.heap.size + 1, 5, none⟩ = some (.int .i64 ale') ∧ W.cell? ⟨w.heap.size + 1, 6, none⟩ = some (.int .i64 amo') ∧ W.cell? ⟨w.heap.size + 1, 7, none⟩ = some (.int .i64 fn') ∧ W.cell? ⟨w.heap.size + 1, 8, none⟩ = some (.int .i64 fsu') ∧ W.cell? ⟨w.heap.size + 1, 9, none⟩ = some (.int .i64 fle') ∧ W.cell? ⟨w.heap.size + 1, 10, none⟩ = some (.int .i64 fmo') ∧ W.cell? ⟨w.heap.size + 1, 11, none⟩ = some (.int .i64 td') ∧ W.cell? ⟨w.heap.size + 1, 12, none⟩ = some (.bool tm')) ∧ w.heap.size < W.heap.size ∧ w.heap.size + 1 < W.heap.size)) ((first | ((repeat (first | (with_reducible assumption) | (with_reducible refine hd_13_13 ?_ (by with_reducible assumption)) | (with_reducible refine hd_13_13 ?_ (bel_drew (Below.refl _ _))) | (with_reducible exact hd_13_13_re (by with_reducible assumption) (sB) (sB)) | (with_reducible refine hd_13_13 ?_ (bel_one _ _)) | (with_reducible refine hd_13_13_set ?_ (sB) (sB) _))); done) | (refine ⟨⟨?_, ?_, ?_, ?_, ?_, ?_, ?_, ?_, ?_, ?_, ?_, ?_, ?_, ?_, ?_, ?_, ?_, ?_, ?_, ?_, ?_, ?_, ?_, ?_, ?_, ?_⟩, ?_, ?_⟩ <;> first | (go_keep; done) | (simp; done) | (simp; omega) | omega)))
      (first
      | (go_at_call 107; refine (touches_any _ _ _ _ _).mono ?_; rintro e w' ⟨rfl, hb⟩; obtain ⟨hc, hf, hs⟩ := bcell hb)
      | (go_at_call 104; refine (opplace_any _ _ _ _ _ _ _ _ _ _ _ _ _ _).mono ?_; rintro e w' ⟨rfl, hb⟩; obtain ⟨hc, hf, hs⟩ := bcell hb)
      | (go_at_call 108; refine (compare_any _ _ _ _ _ _ _).mono ?_; rintro e w' ⟨rfl, hb⟩; obtain ⟨hc, hf, hs⟩ := bcell hb))
    all_goals
      go_wp2_with (first
        | (go_at_call 107; refine (touches_any _ _ _ _ _).mono ?_; rintro e w' ⟨rfl, hb⟩; obtain ⟨hc, hf, hs⟩ := bcell hb; (try have hz0 : w.heap.size < w'.heap.size := (by have h9 := hb.size; (try simp at h9); omega)); (try have hz1 : w.heap.size + 1 < w'.heap.size := (by have h9 := hb.size; (try simp at h9); omega)))
        | (go_at_call 104; refine (opplace_any _ _ _ _ _ _ _ _ _ _ _ _ _ _).mono ?_; rintro e w' ⟨rfl, hb⟩; obtain ⟨hc, hf, hs⟩ := bcell hb; (try have hz0 : w.heap.size < w'.heap.size := (by have h9 := hb.size; (try simp at h9); omega)); (try have hz1 : w.heap.size + 1 < w'.heap.size := (by have h9 := hb.size; (try simp at h9); omega)))
        | (go_at_call 108; refine (compare_any _ _ _ _ _ _ _).mono ?_; rintro e w' ⟨rfl, hb⟩; obtain ⟨hc, hf, hs⟩ := bcell hb; (try have hz0 : w.heap.size < w'.heap.size := (by have h9 := hb.size; (try simp at h9); omega)); (try have hz1 : w.heap.size + 1 < w'.heap.size := (by have h9 := hb.size; (try simp at h9); omega))))
      go_ret
      exact ⟨ret_b (unhide hq).symm, (belB)⟩
  · cases c1 : (ky == ky')
    · have hq : Hid (nextP kd ky st en ky' st' en' = decide (plCmp ky' st' en' ky st en < 0)) := hide (by simp [nextP, c1, aheadP])
      go_enter Tryz.func100, Tryz.ntmps100
      go_wp2_with (first
        | (go_at_call 107; refine (touches_any _ _ _ _ _).mono ?_; rintro e w' ⟨rfl, hb⟩; obtain ⟨hc, hf, hs⟩ := bcell hb; (try have hz0 : w.heap.size < w'.heap.size := (by have h9 := hb.size; (try simp at h9); omega)); (try have hz1 : w.heap.size + 1 < w'.heap.size := (by have h9 := hb.size; (try simp at h9); omega)))
        | (go_at_call 104; refine (opplace_any _ _ _ _ _ _ _ _ _ _ _ _ _ _).mono ?_; rintro e w' ⟨rfl, hb⟩; obtain ⟨hc, hf, hs⟩ := bcell hb; (try have hz0 : w.heap.size < w'.heap.size := (by have h9 := hb.size; (try simp at h9); omega)); (try have hz1 : w.heap.size + 1 < w'.heap.size := (by have h9 := hb.size; (try simp at h9); omega)))
        | (go_at_call 108; refine (compare_any _ _ _ _ _ _ _).mono ?_; rintro e w' ⟨rfl, hb⟩; obtain ⟨hc, hf, hs⟩ := bcell hb; (try have hz0 : w.heap.size < w'.heap.size := (by have h9 := hb.size; (try simp at h9); omega)); (try have hz1 : w.heap.size + 1 < w'.heap.size := (by have h9 := hb.size; (try simp at h9); omega))))
      go_region_held3 (fun W => ((W.cell? ⟨w.heap.size, 0, none⟩ = some (.int .i64 ky) ∧ W.cell? ⟨w.heap.size, 1, none⟩ = some (.int .i64 st) ∧ W.cell? ⟨w.heap.size, 2, none⟩ = some (.int .i64 en) ∧ W.cell? ⟨w.heap.size, 3, none⟩ = some (.int .i64 an) ∧ W.cell? ⟨w.heap.size, 4, none⟩ = some (.int .i64 asu) ∧ W.cell? ⟨w.heap.size, 5, none⟩ = some (.int .i64 ale) ∧ W.cell? ⟨w.heap.size, 6, none⟩ = some (.int .i64 amo) ∧ W.cell? ⟨w.heap.size, 7, none⟩ = some (.int .i64 fn) ∧ W.cell? ⟨w.heap.size, 8, none⟩ = some (.int .i64 fsu) ∧ W.cell? ⟨w.heap.size, 9, none⟩ = some (.int .i64 fle) ∧ W.cell? ⟨w.heap.size, 10, none⟩ = some (.int .i64 fmo) ∧ W.cell? ⟨w.heap.size, 11, none⟩ = some (.int .i64 td) ∧ W.cell? ⟨w.heap.size, 12, none⟩ = some (.bool tm) ∧ W.cell? ⟨w.heap.size + 1, 0, none⟩ = some (.int .i64 ky') ∧ W.cell? ⟨w.heap.size + 1, 1, none⟩ = some (.int .i64 st') ∧ W.cell? ⟨w.heap.size + 1, 2, none⟩ = some (.int .i64 en') ∧ W.cell? ⟨w.heap.size + 1, 3, none⟩ = some (.int .i64 an') ∧ W.cell? ⟨w.heap.size + 1, 4, none⟩ = some (.int .i64 asu') ∧ W.cell? ⟨w.heap.size + 1, 5, none⟩ = some (.int .i64 ale') ∧ W.cell? ⟨w.heap.size + 1, 6, none⟩ = some (.int .i64 amo') ∧ W.cell? ⟨w.heap.size + 1, 7, none⟩ = some (.int .i64 fn') ∧ W.cell? ⟨w.heap.size + 1, 8, none⟩ = some (.int .i64 fsu') ∧ W.cell? ⟨w.heap.size + 1, 9, none⟩ = some (.int .i64 fle') ∧ W.cell? ⟨w.heap.size + 1, 10, none⟩ = some (.int .i64 fmo') ∧ W.cell? ⟨w.heap.size + 1, 11, none⟩ = some (.int .i64 td') ∧ W.cell? ⟨w.heap.size + 1, 12, none⟩ = some (.bool tm')) ∧ w.heap.size < W.heap.size ∧ w.heap.size + 1 < W.heap.size)) ((first | ((repeat (first | (with_reducible assumption) | (with_reducible refine hd_13_13 ?_ (by with_reducible assumption)) | (with_reducible refine hd_13_13 ?_ (bel_drew (Below.refl _ _))) | (with_reducible exact hd_13_13_re (by with_reducible assumption) (sB) (sB)) | (with_reducible refine hd_13_13 ?_ (bel_one _ _)) | (with_reducible refine hd_13_13_set ?_ (sB) (sB) _))); done) | (refine ⟨⟨?_, ?_, ?_, ?_, ?_, ?_, ?_, ?_, ?_, ?_, ?_, ?_, ?_, ?_, ?_, ?_, ?_, ?_, ?_, ?_, ?_, ?_, ?_, ?_, ?_, ?_⟩, ?_, ?_⟩ <;> first | (go_keep; done) | (simp; done) | (simp; omega) | omega)))
        (first
        | (go_at_call 107; refine (touches_any _ _ _ _ _).mono ?_; rintro e w' ⟨rfl, hb⟩; obtain ⟨hc, hf, hs⟩ := bcell hb)
        | (go_at_call 104; refine (opplace_any _ _ _ _ _ _ _ _ _ _ _ _ _ _).mono ?_; rintro e w' ⟨rfl, hb⟩; obtain ⟨hc, hf, hs⟩ := bcell hb)
        | (go_at_call 108; refine (compare_any _ _ _ _ _ _ _).mono ?_; rintro e w' ⟨rfl, hb⟩; obtain ⟨hc, hf, hs⟩ := bcell hb))
      all_goals
        go_wp2_with (first
          | (go_at_call 107; refine (touches_any _ _ _ _ _).mono ?_; rintro e w' ⟨rfl, hb⟩; obtain ⟨hc, hf, hs⟩ := bcell hb; (try have hz0 : w.heap.size < w'.heap.size := (by have h9 := hb.size; (try simp at h9); omega)); (try have hz1 : w.heap.size + 1 < w'.heap.size := (by have h9 := hb.size; (try simp at h9); omega)))
          | (go_at_call 104; refine (opplace_any _ _ _ _ _ _ _ _ _ _ _ _ _ _).mono ?_; rintro e w' ⟨rfl, hb⟩; obtain ⟨hc, hf, hs⟩ := bcell hb; (try have hz0 : w.heap.size < w'.heap.size := (by have h9 := hb.size; (try simp at h9); omega)); (try have hz1 : w.heap.size + 1 < w'.heap.size := (by have h9 := hb.size; (try simp at h9); omega)))
          | (go_at_call 108; refine (compare_any _ _ _ _ _ _ _).mono ?_; rintro e w' ⟨rfl, hb⟩; obtain ⟨hc, hf, hs⟩ := bcell hb; (try have hz0 : w.heap.size < w'.heap.size := (by have h9 := hb.size; (try simp at h9); omega)); (try have hz1 : w.heap.size + 1 < w'.heap.size := (by have h9 := hb.size; (try simp at h9); omega))))
        go_ret
        exact ⟨ret_b (unhide hq).symm, (belB)⟩
    · cases c2 : touchB st en st' en'
      · have hq : Hid (nextP kd ky st en ky' st' en' = decide (plCmp ky' st' en' ky st en < 0)) := hide (by simp [nextP, c2, aheadP])
        go_enter Tryz.func100, Tryz.ntmps100
        go_wp2_with (first
          | (go_at_call 107; refine (touches_any _ _ _ _ _).mono ?_; rintro e w' ⟨rfl, hb⟩; obtain ⟨hc, hf, hs⟩ := bcell hb; (try have hz0 : w.heap.size < w'.heap.size := (by have h9 := hb.size; (try simp at h9); omega)); (try have hz1 : w.heap.size + 1 < w'.heap.size := (by have h9 := hb.size; (try simp at h9); omega)))
          | (go_at_call 104; refine (opplace_any _ _ _ _ _ _ _ _ _ _ _ _ _ _).mono ?_; rintro e w' ⟨rfl, hb⟩; obtain ⟨hc, hf, hs⟩ := bcell hb; (try have hz0 : w.heap.size < w'.heap.size := (by have h9 := hb.size; (try simp at h9); omega)); (try have hz1 : w.heap.size + 1 < w'.heap.size := (by have h9 := hb.size; (try simp at h9); omega)))
          | (go_at_call 108; refine (compare_any _ _ _ _ _ _ _).mono ?_; rintro e w' ⟨rfl, hb⟩; obtain ⟨hc, hf, hs⟩ := bcell hb; (try have hz0 : w.heap.size < w'.heap.size := (by have h9 := hb.size; (try simp at h9); omega)); (try have hz1 : w.heap.size + 1 < w'.heap.size := (by have h9 := hb.size; (try simp at h9); omega))))
        have hS : ((w'.cell? ⟨w.heap.size, 0, none⟩ = some (.int .i64 ky) ∧ w'.cell? ⟨w.heap.size, 1, none⟩ = some (.int .i64 st) ∧ w'.cell? ⟨w.heap.size, 2, none⟩ = some (.int .i64 en) ∧ w'.cell? ⟨w.heap.size, 3, none⟩ = some (.int .i64 an) ∧ w'.cell? ⟨w.heap.size, 4, none⟩ = some (.int .i64 asu) ∧ w'.cell? ⟨w.heap.size, 5, none⟩ = some (.int .i64 ale) ∧ w'.cell? ⟨w.heap.size, 6, none⟩ = some (.int .i64 amo) ∧ w'.cell? ⟨w.heap.size, 7, none⟩ = some (.int .i64 fn) ∧ w'.cell? ⟨w.heap.size, 8, none⟩ = some (.int .i64 fsu) ∧ w'.cell? ⟨w.heap.size, 9, none⟩ = some (.int .i64 fle) ∧ w'.cell? ⟨w.heap.size, 10, none⟩ = some (.int .i64 fmo) ∧ w'.cell? ⟨w.heap.size, 11, none⟩ = some (.int .i64 td) ∧ w'.cell? ⟨w.heap.size, 12, none⟩ = some (.bool tm) ∧ w'.cell? ⟨w.heap.size + 1, 0, none⟩ = some (.int .i64 ky') ∧ w'.cell? ⟨w.heap.size + 1, 1, none⟩ = some (.int .i64 st') ∧ w'.cell? ⟨w.heap.size + 1, 2, none⟩ = some (.int .i64 en') ∧ w'.cell? ⟨w.heap.size + 1, 3, none⟩ = some (.int .i64 an') ∧ w'.cell? ⟨w.heap.size + 1, 4, none⟩ = some (.int .i64 asu') ∧ w'.cell? ⟨w.heap.size + 1, 5, none⟩ = some (.int .i64 ale') ∧ w'.cell? ⟨w.heap.size + 1, 6, none⟩ = some (.int .i64 amo') ∧ w'.cell? ⟨w.heap.size + 1, 7, none⟩ = some (.int .i64 fn') ∧ w'.cell? ⟨w.heap.size + 1, 8, none⟩ = some (.int .i64 fsu') ∧ w'.cell? ⟨w.heap.size + 1, 9, none⟩ = some (.int .i64 fle') ∧ w'.cell? ⟨w.heap.size + 1, 10, none⟩ = some (.int .i64 fmo') ∧ w'.cell? ⟨w.heap.size + 1, 11, none⟩ = some (.int .i64 td') ∧ w'.cell? ⟨w.heap.size + 1, 12, none⟩ = some (.bool tm')) ∧ w.heap.size < w'.heap.size ∧ w.heap.size + 1 < w'.heap.size) := ⟨⟨(hb.cell (p := ⟨w.heap.size, 0, none⟩) (by simp <;> omega)).trans (by simp [go_sem]), (hb.cell (p := ⟨w.heap.size, 1, none⟩) (by simp <;> omega)).trans (by simp [go_sem]), (hb.cell (p := ⟨w.heap.size, 2, none⟩) (by simp <;> omega)).trans (by simp [go_sem]), (hb.cell (p := ⟨w.heap.size, 3, none⟩) (by simp <;> omega)).trans (by simp [go_sem]), (hb.cell (p := ⟨w.heap.size, 4, none⟩) (by simp <;> omega)).trans (by simp [go_sem]), (hb.cell (p := ⟨w.heap.size, 5, none⟩) (by simp <;> omega)).trans (by simp [go_sem]), (hb.cell (p := ⟨w.heap.size, 6, none⟩) (by simp <;> omega)).trans (by simp [go_sem]), (hb.cell (p := ⟨w.heap.size, 7, none⟩) (by simp <;> omega)).trans (by simp [go_sem]), (hb.cell (p := ⟨w.heap.size, 8, none⟩) (by simp <;> omega)).trans (by simp [go_sem]), (hb.cell (p := ⟨w.heap.size, 9, none⟩) (by simp <;> omega)).trans (by simp [go_sem]), (hb.cell (p := ⟨w.heap.size, 10, none⟩) (by simp <;> omega)).trans (by simp [go_sem]), (hb.cell (p := ⟨w.heap.size, 11, none⟩) (by simp <;> omega)).trans (by simp [go_sem]), (hb.cell (p := ⟨w.heap.size, 12, none⟩) (by simp <;> omega)).trans (by simp [go_sem]), (hb.cell (p := ⟨w.heap.size + 1, 0, none⟩) (by simp <;> omega)).trans (by simp [go_sem]), (hb.cell (p := ⟨w.heap.size + 1, 1, none⟩) (by simp <;> omega)).trans (by simp [go_sem]), (hb.cell (p := ⟨w.heap.size + 1, 2, none⟩) (by simp <;> omega)).trans (by simp [go_sem]), (hb.cell (p := ⟨w.heap.size + 1, 3, none⟩) (by simp <;> omega)).trans (by simp [go_sem]), (hb.cell (p := ⟨w.heap.size + 1, 4, none⟩) (by simp <;> omega)).trans (by simp [go_sem]), (hb.cell (p := ⟨w.heap.size + 1, 5, none⟩) (by simp <;> omega)).trans (by simp [go_sem]), (hb.cell (p := ⟨w.heap.size + 1, 6, none⟩) (by simp <;> omega)).trans (by simp [go_sem]), (hb.cell (p := ⟨w.heap.size + 1, 7, none⟩) (by simp <;> omega)).trans (by simp [go_sem]), (hb.cell (p := ⟨w.heap.size + 1, 8, none⟩) (by simp <;> omega)).trans (by simp [go_sem]), (hb.cell (p := ⟨w.heap.size + 1, 9, none⟩) (by simp <;> omega)).trans (by simp [go_sem]), (hb.cell (p := ⟨w.heap.size + 1, 10, none⟩) (by simp <;> omega)).trans (by simp [go_sem]), (hb.cell (p := ⟨w.heap.size + 1, 11, none⟩) (by simp <;> omega)).trans (by simp [go_sem]), (hb.cell (p := ⟨w.heap.size + 1, 12, none⟩) (by simp <;> omega)).trans (by simp [go_sem])⟩, by have h9 := hb.size; simp at h9; omega, by have h9 := hb.size; simp at h9; omega⟩
        go_region_held3 (fun W => ((W.cell? ⟨w.heap.size, 0, none⟩ = some (.int .i64 ky) ∧ W.cell? ⟨w.heap.size, 1, none⟩ = some (.int .i64 st) ∧ W.cell? ⟨w.heap.size, 2, none⟩ = some (.int .i64 en) ∧ W.cell? ⟨w.heap.size, 3, none⟩ = some (.int .i64 an) ∧ W.cell? ⟨w.heap.size, 4, none⟩ = some (.int .i64 asu) ∧ W.cell? ⟨w.heap.size, 5, none⟩ = some (.int .i64 ale) ∧ W.cell? ⟨w.heap.size, 6, none⟩ = some (.int .i64 amo) ∧ W.cell? ⟨w.heap.size, 7, none⟩ = some (.int .i64 fn) ∧ W.cell? ⟨w.heap.size, 8, none⟩ = some (.int .i64 fsu) ∧ W.cell? ⟨w.heap.size, 9, none⟩ = some (.int .i64 fle) ∧ W.cell? ⟨w.heap.size, 10, none⟩ = some (.int .i64 fmo) ∧ W.cell? ⟨w.heap.size, 11, none⟩ = some (.int .i64 td) ∧ W.cell? ⟨w.heap.size, 12, none⟩ = some (.bool tm) ∧ W.cell? ⟨w.heap.size + 1, 0, none⟩ = some (.int .i64 ky') ∧ W.cell? ⟨w.heap.size + 1, 1, none⟩ = some (.int .i64 st') ∧ W.cell? ⟨w.heap.size + 1, 2, none⟩ = some (.int .i64 en') ∧ W.cell? ⟨w.heap.size + 1, 3, none⟩ = some (.int .i64 an') ∧ W.cell? ⟨w.heap.size + 1, 4, none⟩ = some (.int .i64 asu') ∧ W.cell? ⟨w.heap.size + 1, 5, none⟩ = some (.int .i64 ale') ∧ W.cell? ⟨w.heap.size + 1, 6, none⟩ = some (.int .i64 amo') ∧ W.cell? ⟨w.heap.size + 1, 7, none⟩ = some (.int .i64 fn') ∧ W.cell? ⟨w.heap.size + 1, 8, none⟩ = some (.int .i64 fsu') ∧ W.cell? ⟨w.heap.size + 1, 9, none⟩ = some (.int .i64 fle') ∧ W.cell? ⟨w.heap.size + 1, 10, none⟩ = some (.int .i64 fmo') ∧ W.cell? ⟨w.heap.size + 1, 11, none⟩ = some (.int .i64 td') ∧ W.cell? ⟨w.heap.size + 1, 12, none⟩ = some (.bool tm')) ∧ w.heap.size < W.heap.size ∧ w.heap.size + 1 < W.heap.size)) ((first | ((repeat (first | (with_reducible assumption) | (with_reducible refine hd_13_13 ?_ (by with_reducible assumption)) | (with_reducible refine hd_13_13 ?_ (bel_drew (Below.refl _ _))) | (with_reducible exact hd_13_13_re (by with_reducible assumption) (sB) (sB)) | (with_reducible refine hd_13_13 ?_ (bel_one _ _)) | (with_reducible refine hd_13_13_set ?_ (sB) (sB) _))); done) | (refine ⟨⟨?_, ?_, ?_, ?_, ?_, ?_, ?_, ?_, ?_, ?_, ?_, ?_, ?_, ?_, ?_, ?_, ?_, ?_, ?_, ?_, ?_, ?_, ?_, ?_, ?_, ?_⟩, ?_, ?_⟩ <;> first | (go_keep; done) | (simp; done) | (simp; omega) | omega)))
          (first
          | (go_at_call 107; refine (touches_any _ _ _ _ _).mono ?_; rintro e w' ⟨rfl, hb⟩; obtain ⟨hc, hf, hs⟩ := bcell hb)
          | (go_at_call 104; refine (opplace_any _ _ _ _ _ _ _ _ _ _ _ _ _ _).mono ?_; rintro e w' ⟨rfl, hb⟩; obtain ⟨hc, hf, hs⟩ := bcell hb)
          | (go_at_call 108; refine (compare_any _ _ _ _ _ _ _).mono ?_; rintro e w' ⟨rfl, hb⟩; obtain ⟨hc, hf, hs⟩ := bcell hb))
        all_goals
          go_wp2_with (first
            | (go_at_call 107; refine (touches_any _ _ _ _ _).mono ?_; rintro e w' ⟨rfl, hb⟩; obtain ⟨hc, hf, hs⟩ := bcell hb; (try have hz0 : w.heap.size < w'.heap.size := (by have h9 := hb.size; (try simp at h9); omega)); (try have hz1 : w.heap.size + 1 < w'.heap.size := (by have h9 := hb.size; (try simp at h9); omega)))
            | (go_at_call 104; refine (opplace_any _ _ _ _ _ _ _ _ _ _ _ _ _ _).mono ?_; rintro e w' ⟨rfl, hb⟩; obtain ⟨hc, hf, hs⟩ := bcell hb; (try have hz0 : w.heap.size < w'.heap.size := (by have h9 := hb.size; (try simp at h9); omega)); (try have hz1 : w.heap.size + 1 < w'.heap.size := (by have h9 := hb.size; (try simp at h9); omega)))
            | (go_at_call 108; refine (compare_any _ _ _ _ _ _ _).mono ?_; rintro e w' ⟨rfl, hb⟩; obtain ⟨hc, hf, hs⟩ := bcell hb; (try have hz0 : w.heap.size < w'.heap.size := (by have h9 := hb.size; (try simp at h9); omega)); (try have hz1 : w.heap.size + 1 < w'.heap.size := (by have h9 := hb.size; (try simp at h9); omega))))
          go_ret
          exact ⟨ret_b (unhide hq).symm, (belB)⟩
      · have hq : Hid (nextP kd ky st en ky' st' en' = false) := hide (by simp [nextP, c0, c1, c2])
        go_enter Tryz.func100, Tryz.ntmps100
        go_wp2_with (first
          | (go_at_call 107; refine (touches_any _ _ _ _ _).mono ?_; rintro e w' ⟨rfl, hb⟩; obtain ⟨hc, hf, hs⟩ := bcell hb; (try have hz0 : w.heap.size < w'.heap.size := (by have h9 := hb.size; (try simp at h9); omega)); (try have hz1 : w.heap.size + 1 < w'.heap.size := (by have h9 := hb.size; (try simp at h9); omega)))
          | (go_at_call 104; refine (opplace_any _ _ _ _ _ _ _ _ _ _ _ _ _ _).mono ?_; rintro e w' ⟨rfl, hb⟩; obtain ⟨hc, hf, hs⟩ := bcell hb; (try have hz0 : w.heap.size < w'.heap.size := (by have h9 := hb.size; (try simp at h9); omega)); (try have hz1 : w.heap.size + 1 < w'.heap.size := (by have h9 := hb.size; (try simp at h9); omega)))
          | (go_at_call 108; refine (compare_any _ _ _ _ _ _ _).mono ?_; rintro e w' ⟨rfl, hb⟩; obtain ⟨hc, hf, hs⟩ := bcell hb; (try have hz0 : w.heap.size < w'.heap.size := (by have h9 := hb.size; (try simp at h9); omega)); (try have hz1 : w.heap.size + 1 < w'.heap.size := (by have h9 := hb.size; (try simp at h9); omega))))
        go_ret
        exact ⟨ret_b (unhide hq).symm, (belB)⟩
end Go.Proofs.YtbjhpiannjepkaaGreat
