/- Proved here: the windows of a time in the specification, in new memory. -/
import Derived.Test.YtijgbahmlldffaaSlide5
namespace Go.Proofs.Ytijgbahmlldffaa
open Go.ChangeShapes Go.WideShapes Go.ChangeAt Go.RowKit Go.Maps
set_option linter.unusedVariables false

theorem own_lit1' {W : World} {B g : Nat} (h : B ≤ W.heap.size) (hg : g = W.heap.size) (a b : Int) : OwnWn (W.alloc (.cells #[.int .i64 a, .int .i64 b] 33)) B (.slice (some ⟨g, 0, none⟩) 1 1) [⟨a, b⟩] := by
  subst hg; exact own_lit1 h a b

theorem l4_1 (s t z p l e : Int) (b : Bool) (v r : Int) (T : Int) (hT : 0 ≤ T ∧ T ≤ 60) (hz : 1 ≤ z ∧ z ≤ 20) (w : World) : Calls Try.prog 26 #[.agg #[.int .i64 s, .int .i64 t, .int .i64 1, .int .i64 z, .int .i64 p, .int .i64 l, .int .i64 e, .bool b, .int .i64 v, .int .i64 r], .int .i64 T] w fun e' w' => ∃ v', e' = .returned v' ∧ OwnWn w' w.heap.size v' (winsOf 1 z p T) ∧ Below w.heap.size w w' := by
  have hmod : 0 ≤ T % z ∧ T % z ≤ T := ⟨Int.emod_nonneg _ (by omega), by have := Int.emod_add_mul_ediv T z; have := Int.ediv_nonneg (a := T) (b := z) (by omega) (by omega); have := Int.mul_nonneg (a := z) (b := T / z) (by omega) (by omega); omega⟩
  rw [winsOf_1]
  have hwr : IntKind.i64.wrap (T - T % z) = T - T % z := IntWalk.i64_in _ (by omega)
  have hwr2 : IntKind.i64.wrap (T - T % z + z) = T - T % z + z := IntWalk.i64_in _ (by omega)
  go_enter Try.func26, Try.ntmps26
  go_wp2
  go_region
  all_goals go_wp2
  all_goals
    go_ret
    exact ⟨_, rfl, own_lit1' (by simp) (by simp) _ _, (by repeat (first | (with_reducible refine bel_set ?_ (by first | (simp; done) | (simp; omega)) _) | (with_reducible refine bel_alloc ?_ _) | (with_reducible exact Below.refl _ _) | (with_reducible assumption) | (with_reducible refine bel_drew ?_) | (with_reducible refine bel_drewN ?_ _) | (with_reducible refine bel_trans ?_ (by with_reducible assumption))))⟩

theorem l4_3 (s t z p l e : Int) (b : Bool) (v r : Int) (T : Int) (hT : 0 ≤ T ∧ T ≤ 60) (hz : 1 ≤ z ∧ z ≤ 20) (w : World) : Calls Try.prog 26 #[.agg #[.int .i64 s, .int .i64 t, .int .i64 3, .int .i64 z, .int .i64 p, .int .i64 l, .int .i64 e, .bool b, .int .i64 v, .int .i64 r], .int .i64 T] w fun e' w' => ∃ v', e' = .returned v' ∧ OwnWn w' w.heap.size v' (winsOf 3 z p T) ∧ Below w.heap.size w w' := by
  have hmod : 0 ≤ T % z ∧ T % z ≤ T := ⟨Int.emod_nonneg _ (by omega), by have := Int.emod_add_mul_ediv T z; have := Int.ediv_nonneg (a := T) (b := z) (by omega) (by omega); have := Int.mul_nonneg (a := z) (b := T / z) (by omega) (by omega); omega⟩
  rw [winsOf_3]
  have hwr : IntKind.i64.wrap (T - T % z) = T - T % z := IntWalk.i64_in _ (by omega)
  have hwr2 : IntKind.i64.wrap (T - T % z + z) = T - T % z + z := IntWalk.i64_in _ (by omega)
  go_enter Try.func26, Try.ntmps26
  go_wp2
  all_goals
    go_ret
    exact ⟨_, rfl, own_lit1' (by simp) (by simp) _ _, (by repeat (first | (with_reducible refine bel_set ?_ (by first | (simp; done) | (simp; omega)) _) | (with_reducible refine bel_alloc ?_ _) | (with_reducible exact Below.refl _ _) | (with_reducible assumption) | (with_reducible refine bel_drew ?_) | (with_reducible refine bel_drewN ?_ _) | (with_reducible refine bel_trans ?_ (by with_reducible assumption))))⟩

theorem specw1 (s t z p l e : Int) (b : Bool) (v r : Int) (T : Int) (hT : inB T 0 60 = true) (hj : okJob s t 1 z p l e v r = true) (w : World) : Calls Try.prog 9 #[.agg #[.int .i64 s, .int .i64 t, .int .i64 1, .int .i64 z, .int .i64 p, .int .i64 l, .int .i64 e, .bool b, .int .i64 v, .int .i64 r], .int .i64 T] w fun e' w' => ∃ v', e' = .returned v' ∧ OwnWn w' w.heap.size v' (winsOf 1 z p T) ∧ Below w.heap.size w w' := by
  obtain ⟨hk, hz, hp⟩ := okJob_parts hj
  have hT' := inB_iff.1 hT
  go_enter Try.func9, Try.ntmps9
  go_wp2_with (first
    | (go_at_call 11; refine (specjobok_any _ _ _ _ _ _ _ _ _ _ _).mono ?_; rintro e' w1 ⟨rfl, hb⟩; obtain ⟨hc, hf, hsz⟩ := bcell hb; (try have hz0 : w.heap.size < w1.heap.size := (by have h9 := hb.size; (try simp at h9); omega)))
    | (go_at_call 25; refine (l1In_any _ _ _ _).mono ?_; rintro e' w' ⟨rfl, rfl⟩)
    | (go_at_call 26; refine (l4_1 _ _ _ _ _ _ _ _ _ _ (by omega) (by omega) _).mono ?_; rintro e' w2 ⟨v2, rfl, hO, hb2⟩))
  go_ret
  have h9 := hb.size
  simp at h9
  exact ⟨_, rfl, World.ownsRow.mono hO (by omega), (by repeat (first | (with_reducible refine bel_set ?_ (by first | (simp; done) | (simp; omega)) _) | (with_reducible refine bel_alloc ?_ _) | (with_reducible exact Below.refl _ _) | (with_reducible assumption) | (with_reducible refine bel_drew ?_) | (with_reducible refine bel_drewN ?_ _) | (with_reducible refine bel_trans ?_ (by with_reducible assumption))))⟩

theorem specw2 (s t z p l e : Int) (b : Bool) (v r : Int) (T : Int) (hT : inB T 0 60 = true) (hj : okJob s t 2 z p l e v r = true) (w : World) : Calls Try.prog 9 #[.agg #[.int .i64 s, .int .i64 t, .int .i64 2, .int .i64 z, .int .i64 p, .int .i64 l, .int .i64 e, .bool b, .int .i64 v, .int .i64 r], .int .i64 T] w fun e' w' => ∃ v', e' = .returned v' ∧ OwnWn w' w.heap.size v' (winsOf 2 z p T) ∧ Below w.heap.size w w' := by
  obtain ⟨hk, hz, hp⟩ := okJob_parts hj
  have hT' := inB_iff.1 hT
  have hp' := stepB_in hz hp
  rw [winsOf_2]
  go_enter Try.func9, Try.ntmps9
  go_wp2_with (first
    | (go_at_call 11; refine (specjobok_any _ _ _ _ _ _ _ _ _ _ _).mono ?_; rintro e' w1 ⟨rfl, hb⟩; obtain ⟨hc, hf, hsz⟩ := bcell hb; (try have hz0 : w.heap.size < w1.heap.size := (by have h9 := hb.size; (try simp at h9); omega)))
    | (go_at_call 25; refine (l1In_any _ _ _ _).mono ?_; rintro e' w' ⟨rfl, rfl⟩)
    | (go_at_call 26; refine (specslide_any _ _ _ _ _ _ _ _ _ _ _ (by omega) (by omega) (by omega) rfl _).mono ?_; rintro e' w2 ⟨v2, rfl, hO, hb2⟩))
  go_ret
  have h9 := hb.size
  simp at h9
  exact ⟨_, rfl, World.ownsRow.mono hO (by omega), (by repeat (first | (with_reducible refine bel_set ?_ (by first | (simp; done) | (simp; omega)) _) | (with_reducible refine bel_alloc ?_ _) | (with_reducible exact Below.refl _ _) | (with_reducible assumption) | (with_reducible refine bel_drew ?_) | (with_reducible refine bel_drewN ?_ _) | (with_reducible refine bel_trans ?_ (by with_reducible assumption))))⟩

theorem specw3 (s t z p l e : Int) (b : Bool) (v r : Int) (T : Int) (hT : inB T 0 60 = true) (hj : okJob s t 3 z p l e v r = true) (w : World) : Calls Try.prog 9 #[.agg #[.int .i64 s, .int .i64 t, .int .i64 3, .int .i64 z, .int .i64 p, .int .i64 l, .int .i64 e, .bool b, .int .i64 v, .int .i64 r], .int .i64 T] w fun e' w' => ∃ v', e' = .returned v' ∧ OwnWn w' w.heap.size v' (winsOf 3 z p T) ∧ Below w.heap.size w w' := by
  obtain ⟨hk, hz, hp⟩ := okJob_parts hj
  have hT' := inB_iff.1 hT
  go_enter Try.func9, Try.ntmps9
  go_wp2_with (first
    | (go_at_call 11; refine (specjobok_any _ _ _ _ _ _ _ _ _ _ _).mono ?_; rintro e' w1 ⟨rfl, hb⟩; obtain ⟨hc, hf, hsz⟩ := bcell hb; (try have hz0 : w.heap.size < w1.heap.size := (by have h9 := hb.size; (try simp at h9); omega)))
    | (go_at_call 25; refine (l1In_any _ _ _ _).mono ?_; rintro e' w' ⟨rfl, rfl⟩)
    | (go_at_call 26; refine (l4_3 _ _ _ _ _ _ _ _ _ _ (by omega) (by omega) _).mono ?_; rintro e' w2 ⟨v2, rfl, hO, hb2⟩))
  go_ret
  have h9 := hb.size
  simp at h9
  exact ⟨_, rfl, World.ownsRow.mono hO (by omega), (by repeat (first | (with_reducible refine bel_set ?_ (by first | (simp; done) | (simp; omega)) _) | (with_reducible refine bel_alloc ?_ _) | (with_reducible exact Below.refl _ _) | (with_reducible assumption) | (with_reducible refine bel_drew ?_) | (with_reducible refine bel_drewN ?_ _) | (with_reducible refine bel_trans ?_ (by with_reducible assumption))))⟩

theorem specwinof_any (s t k z p l e : Int) (b : Bool) (v r : Int) (T : Int) (w : World) : Calls Try.prog 9 #[.agg #[.int .i64 s, .int .i64 t, .int .i64 k, .int .i64 z, .int .i64 p, .int .i64 l, .int .i64 e, .bool b, .int .i64 v, .int .i64 r], .int .i64 T] w fun e' w' => ∃ v', e' = .returned v' ∧ OwnWn w' w.heap.size v' (winsAll s t k z p l e v r T) ∧ Below w.heap.size w w' := by
  cases c0 : okJob s t k z p l e v r
  · rw [winsAll_f1 c0]
    go_enter Try.func9, Try.ntmps9
    go_wp2_with (first
      | (go_at_call 11; refine (specjobok_any _ _ _ _ _ _ _ _ _ _ _).mono ?_; rintro e' w1 ⟨rfl, hb⟩; obtain ⟨hc, hf, hsz⟩ := bcell hb; (try have hz0 : w.heap.size < w1.heap.size := (by have h9 := hb.size; (try simp at h9); omega)))
      | (go_at_call 25; refine (l1In_any _ _ _ _).mono ?_; rintro e' w' ⟨rfl, rfl⟩))
    go_ret
    exact ⟨_, rfl, World.ownsRow.below (own_lit0 (W := w.alloc (.cells #[.int .i64 s, .int .i64 t, .int .i64 k, .int .i64 z, .int .i64 p, .int .i64 l, .int .i64 e, .bool b, .int .i64 v, .int .i64 r] 24)) (B := w.heap.size) (by simp) (by simp)) hb, (by repeat (first | (with_reducible refine bel_set ?_ (by first | (simp; done) | (simp; omega)) _) | (with_reducible refine bel_alloc ?_ _) | (with_reducible exact Below.refl _ _) | (with_reducible assumption) | (with_reducible refine bel_drew ?_) | (with_reducible refine bel_drewN ?_ _) | (with_reducible refine bel_trans ?_ (by with_reducible assumption))))⟩
  cases c1 : inB T 0 60
  · rw [winsAll_f2 c1]
    go_enter Try.func9, Try.ntmps9
    go_wp2_with (first
      | (go_at_call 11; refine (specjobok_any _ _ _ _ _ _ _ _ _ _ _).mono ?_; rintro e' w1 ⟨rfl, hb⟩; obtain ⟨hc, hf, hsz⟩ := bcell hb; (try have hz0 : w.heap.size < w1.heap.size := (by have h9 := hb.size; (try simp at h9); omega)))
      | (go_at_call 25; refine (l1In_any _ _ _ _).mono ?_; rintro e' w' ⟨rfl, rfl⟩))
    go_ret
    exact ⟨_, rfl, World.ownsRow.below (own_lit0 (W := w.alloc (.cells #[.int .i64 s, .int .i64 t, .int .i64 k, .int .i64 z, .int .i64 p, .int .i64 l, .int .i64 e, .bool b, .int .i64 v, .int .i64 r] 24)) (B := w.heap.size) (by simp) (by simp)) hb, (by repeat (first | (with_reducible refine bel_set ?_ (by first | (simp; done) | (simp; omega)) _) | (with_reducible refine bel_alloc ?_ _) | (with_reducible exact Below.refl _ _) | (with_reducible assumption) | (with_reducible refine bel_drew ?_) | (with_reducible refine bel_drewN ?_ _) | (with_reducible refine bel_trans ?_ (by with_reducible assumption))))⟩
  rw [winsAll_tt c0 c1]
  obtain ⟨hk, _, _⟩ := okJob_parts c0
  by_cases h1 : k = 1
  · subst h1; exact specw1 s t z p l e b v r T c1 c0 w
  by_cases h2 : k = 2
  · subst h2; exact specw2 s t z p l e b v r T c1 c0 w
  obtain rfl : k = 3 := by omega
  exact specw3 s t z p l e b v r T c1 c0 w

end Go.Proofs.Ytijgbahmlldffaa
