/- Laid together: what the claim needs of the texts that were built one by one. -/
import Derived.Test.YtikidpcgnmffcaaGreatPkSlide4
import Derived.Test.YtikidpcgnmffcaaGreatPkBase
namespace Go.Proofs.YtikidpcgnmffcaaGreat
open Go.ChangeShapes Go.WideShapes Go.ChangeAt Go.RowKit Go.Maps
set_option linter.unusedVariables false

/-- The windows of a time, none if the job is not ok or there is no such time. -/
def winsAll (s t k z p l e v r T : Int) : List WnR := if (okJob s t k z p l e v r && inB T 0 60) = true then winsOf k z p T else []

theorem winsAll_tt {s t k z p l e v r T : Int} (h : okJob s t k z p l e v r = true) (h2 : inB T 0 60 = true) : winsAll s t k z p l e v r T = winsOf k z p T := by simp [winsAll, h, h2]

theorem winsAll_f1 {s t k z p l e v r T : Int} (h : okJob s t k z p l e v r = false) : winsAll s t k z p l e v r T = [] := by simp [winsAll, h]

theorem winsAll_f2 {s t k z p l e v r T : Int} (h2 : inB T 0 60 = false) : winsAll s t k z p l e v r T = [] := by simp [winsAll, h2]

theorem winsAll_len (s t k z p l e v r T : Int) : (winsAll s t k z p l e v r T).length ≤ 61 := by
  unfold winsAll
  split
  · exact winsOf_len _ _ _ _
  · simp

theorem okJob_parts {s t k z p l e v r : Int} (h : okJob s t k z p l e v r = true) : (1 ≤ k ∧ k ≤ 3) ∧ (1 ≤ z ∧ z ≤ 20) ∧ stepB k z p = true := by
  simp only [okJob, Bool.and_eq_true] at h
  obtain ⟨⟨⟨⟨⟨⟨⟨⟨h1, h2⟩, h3⟩, h4⟩, h5⟩, h6⟩, h7⟩, h8⟩, h9⟩ := h
  exact ⟨inB_iff.1 h3, inB_iff.1 h4, h5⟩

theorem stepB_in {z p : Int} (hz : 1 ≤ z ∧ z ≤ 20) (h : stepB 2 z p = true) : 1 ≤ p ∧ p ≤ 20 := by
  rw [stepB_2, Bool.and_eq_true] at h
  have := inB_iff.1 h.1
  omega

theorem winsOf_1 (z p T : Int) : winsOf 1 z p T = [⟨T - T % z, T - T % z + z⟩] := rfl

theorem winsOf_2 (z p T : Int) : winsOf 2 z p T = slideGo z p T 61 0 := rfl

theorem winsOf_3 (z p T : Int) : winsOf 3 z p T = [⟨T, T + z⟩] := rfl

theorem implw1 (s t z p l e : Int) (b : Bool) (v r : Int) (T : Int) (hT : inB T 0 60 = true) (hj : okJob s t 1 z p l e v r = true) (w : World) : Calls Tryz.prog 37 #[.agg #[.int .i64 s, .int .i64 t, .int .i64 1, .int .i64 z, .int .i64 p, .int .i64 l, .int .i64 e, .bool b, .int .i64 v, .int .i64 r], .int .i64 T] w fun e' w' => ∃ v', e' = .returned v' ∧ OwnWn w' w.heap.size v' (winsOf 1 z p T) ∧ Below w.heap.size w w' := by
  have hmm := @run_makeMap Tryz.prog
  obtain ⟨u1, u2, u3, hr1, hr2, hr3, hl1, hl2, hl3, hu⟩ := mapMade
  obtain ⟨hk, hz, hp⟩ := okJob_parts hj
  have hT' := inB_iff.1 hT
  rw [winsOf_1]
  go_enter Tryz.func37, Tryz.ntmps37
  go_wp2_with (first
    | (go_at_call 52; refine (impljobok_any _ _ _ _ _ _ _ _ _ _ _).mono ?_; rintro e' w1 ⟨rfl, hb⟩; obtain ⟨hc, hf, hsz⟩ := bcell hb; (try have hz0 : w.heap.size < w1.heap.size := (by have h9 := hb.size; (try simp at h9); omega)); obtain ⟨hc3, hf3, hs3⟩ := bcell (hu w1))
    | (go_at_call 53; refine (within_any _ _ _ _).mono ?_; rintro e' w' ⟨rfl, rfl⟩)
    | (go_at_call 54; refine (fixed_any _ _ _ _ _ _ _ _ _ _ _ (by omega) (by omega) _).mono ?_; rintro e' w2 ⟨v2, rfl, hO, hb2⟩))
  go_ret
  have h9 := hb.size
  have h8 := (hu w').size
  simp at h9
  exact ⟨_, rfl, World.ownsRow.mono hO (by omega), bel_trans (bel_trans (bel_trans (bel_one _ _) hb) (hu w')) hb2⟩

theorem implw2 (s t z p l e : Int) (b : Bool) (v r : Int) (T : Int) (hT : inB T 0 60 = true) (hj : okJob s t 2 z p l e v r = true) (w : World) : Calls Tryz.prog 37 #[.agg #[.int .i64 s, .int .i64 t, .int .i64 2, .int .i64 z, .int .i64 p, .int .i64 l, .int .i64 e, .bool b, .int .i64 v, .int .i64 r], .int .i64 T] w fun e' w' => ∃ v', e' = .returned v' ∧ OwnWn w' w.heap.size v' (winsOf 2 z p T) ∧ Below w.heap.size w w' := by
  have hmm := @run_makeMap Tryz.prog
  obtain ⟨u1, u2, u3, hr1, hr2, hr3, hl1, hl2, hl3, hu⟩ := mapMade
  obtain ⟨hk, hz, hp⟩ := okJob_parts hj
  have hT' := inB_iff.1 hT
  have hp' := stepB_in hz hp
  rw [winsOf_2]
  go_enter Tryz.func37, Tryz.ntmps37
  go_wp2_with (first
    | (go_at_call 52; refine (impljobok_any _ _ _ _ _ _ _ _ _ _ _).mono ?_; rintro e' w1 ⟨rfl, hb⟩; obtain ⟨hc, hf, hsz⟩ := bcell hb; (try have hz0 : w.heap.size < w1.heap.size := (by have h9 := hb.size; (try simp at h9); omega)); obtain ⟨hc3, hf3, hs3⟩ := bcell (hu w1))
    | (go_at_call 53; refine (within_any _ _ _ _).mono ?_; rintro e' w' ⟨rfl, rfl⟩)
    | (go_at_call 55; refine (slide_any _ _ _ _ _ _ _ _ _ _ _ (by omega) (by omega) (by omega) _).mono ?_; rintro e' w2 ⟨v2, rfl, hO, hb2⟩))
  go_ret
  have h9 := hb.size
  have h8 := (hu w').size
  simp at h9
  exact ⟨_, rfl, World.ownsRow.mono hO (by omega), bel_trans (bel_trans (bel_trans (bel_one _ _) hb) (hu w')) hb2⟩

theorem implw3 (s t z p l e : Int) (b : Bool) (v r : Int) (T : Int) (hT : inB T 0 60 = true) (hj : okJob s t 3 z p l e v r = true) (w : World) : Calls Tryz.prog 37 #[.agg #[.int .i64 s, .int .i64 t, .int .i64 3, .int .i64 z, .int .i64 p, .int .i64 l, .int .i64 e, .bool b, .int .i64 v, .int .i64 r], .int .i64 T] w fun e' w' => ∃ v', e' = .returned v' ∧ OwnWn w' w.heap.size v' (winsOf 3 z p T) ∧ Below w.heap.size w w' := by
  have hmm := @run_makeMap Tryz.prog
  obtain ⟨u1, u2, u3, hr1, hr2, hr3, hl1, hl2, hl3, hu⟩ := mapMade
  obtain ⟨hk, hz, hp⟩ := okJob_parts hj
  have hT' := inB_iff.1 hT
  rw [winsOf_3]
  go_enter Tryz.func37, Tryz.ntmps37
  go_wp2_with (first
    | (go_at_call 52; refine (impljobok_any _ _ _ _ _ _ _ _ _ _ _).mono ?_; rintro e' w1 ⟨rfl, hb⟩; obtain ⟨hc, hf, hsz⟩ := bcell hb; (try have hz0 : w.heap.size < w1.heap.size := (by have h9 := hb.size; (try simp at h9); omega)); obtain ⟨hc3, hf3, hs3⟩ := bcell (hu w1))
    | (go_at_call 53; refine (within_any _ _ _ _).mono ?_; rintro e' w' ⟨rfl, rfl⟩)
    | (go_at_call 56; refine (session_any _ _ _ _ _ _ _ _ _ _ _ (by omega) (by omega) _).mono ?_; rintro e' w2 ⟨v2, rfl, hO, hb2⟩))
  go_ret
  have h9 := hb.size
  have h8 := (hu w').size
  simp at h9
  exact ⟨_, rfl, World.ownsRow.mono hO (by omega), bel_trans (bel_trans (bel_trans (bel_one _ _) hb) (hu w')) hb2⟩

theorem implwinof_any (s t k z p l e : Int) (b : Bool) (v r : Int) (T : Int) (w : World) : Calls Tryz.prog 37 #[.agg #[.int .i64 s, .int .i64 t, .int .i64 k, .int .i64 z, .int .i64 p, .int .i64 l, .int .i64 e, .bool b, .int .i64 v, .int .i64 r], .int .i64 T] w fun e' w' => ∃ v', e' = .returned v' ∧ OwnWn w' w.heap.size v' (winsAll s t k z p l e v r T) ∧ Below w.heap.size w w' := by
  cases c0 : okJob s t k z p l e v r
  · rw [winsAll_f1 c0]
    go_enter Tryz.func37, Tryz.ntmps37
    go_wp2_with (first
      | (go_at_call 52; refine (impljobok_any _ _ _ _ _ _ _ _ _ _ _).mono ?_; rintro e' w1 ⟨rfl, hb⟩; obtain ⟨hc, hf, hsz⟩ := bcell hb)
      | (go_at_call 53; refine (within_any _ _ _ _).mono ?_; rintro e' w' ⟨rfl, rfl⟩))
    go_ret
    exact ⟨_, rfl, World.ownsRow_nil _ _ _ _, (belB)⟩
  cases c1 : inB T 0 60
  · rw [winsAll_f2 c1]
    go_enter Tryz.func37, Tryz.ntmps37
    go_wp2_with (first
      | (go_at_call 52; refine (impljobok_any _ _ _ _ _ _ _ _ _ _ _).mono ?_; rintro e' w1 ⟨rfl, hb⟩; obtain ⟨hc, hf, hsz⟩ := bcell hb)
      | (go_at_call 53; refine (within_any _ _ _ _).mono ?_; rintro e' w' ⟨rfl, rfl⟩))
    go_ret
    exact ⟨_, rfl, World.ownsRow_nil _ _ _ _, (belB)⟩
  rw [winsAll_tt c0 c1]
  obtain ⟨hk, _, _⟩ := okJob_parts c0
  by_cases h1 : k = 1
  · subst h1; exact implw1 s t z p l e b v r T c1 c0 w
  by_cases h2 : k = 2
  · subst h2; exact implw2 s t z p l e b v r T c1 c0 w
  obtain rfl : k = 3 := by omega
  exact implw3 s t z p l e b v r T c1 c0 w
end Go.Proofs.YtikidpcgnmffcaaGreat
