/- Proved here: what the windows of a time are. -/
import Derived.Test.YtmlnddbbpdijoaaFrWin
namespace Go.Proofs.Ytmlnddbbpdijoaa
open Go.ChangeShapes Go.WideShapes Go.ChangeAt Go.RowKit
set_option linter.unusedVariables false

theorem slide_at (z p t : Int) (hp : 1 ≤ p) : ∀ (n : Nat) (s : Int), s % p = 0 → ∀ (i : Nat) (x : WnR), (slideGo z p t n s)[i]? = some x → s ≤ x.a ∧ x.a ≤ t ∧ t < x.a + z ∧ x.b = x.a + z ∧ x.a % p = 0 := by
  intro n
  induction n with
  | zero => intro s _ i x h; simp [slideGo] at h
  | succ n ih =>
    intro s hs i x h
    have hs' : (s + p) % p = 0 := by rw [Int.add_emod, hs, Int.zero_add, Int.emod_emod, Int.emod_self]
    by_cases h1 : s ≤ t
    · by_cases h2 : t < s + z
      · rw [slideGo_in h1 h2] at h
        cases i with
        | zero => simp at h; subst h; exact ⟨Int.le_refl _, h1, h2, rfl, hs⟩
        | succ i =>
          have h9 := ih (s + p) hs' i x (by simpa using h)
          exact ⟨by omega, h9.2⟩
      · rw [slideGo_out h1 h2] at h
        have h9 := ih (s + p) hs' i x h
        exact ⟨by omega, h9.2⟩
    · rw [slideGo_end h1] at h
      simp at h
theorem slide_rise (z p t : Int) (hp : 1 ≤ p) : ∀ (n : Nat) (s : Int), s % p = 0 → ∀ (i : Nat) (x y : WnR), (slideGo z p t n s)[i]? = some x → (slideGo z p t n s)[i + 1]? = some y → x.a < y.a := by
  intro n
  induction n with
  | zero => intro s _ i x y h; simp [slideGo] at h
  | succ n ih =>
    intro s hs i x y h h'
    have hs' : (s + p) % p = 0 := by rw [Int.add_emod, hs, Int.zero_add, Int.emod_emod, Int.emod_self]
    by_cases h1 : s ≤ t
    · by_cases h2 : t < s + z
      · rw [slideGo_in h1 h2] at h h'
        cases i with
        | zero =>
          simp at h
          subst h
          have h9 := slide_at z p t hp n (s + p) hs' 0 y (by simpa using h')
          show s < y.a
          omega
        | succ i => exact ih (s + p) hs' i x y (by simpa using h) (by simpa using h')
      · rw [slideGo_out h1 h2] at h h'
        exact ih (s + p) hs' i x y h h'
    · rw [slideGo_end h1] at h
      simp at h
theorem slide_most (z p t : Int) (hp : 1 ≤ p) (hz : 1 ≤ z) : ∀ (n : Nat) (s : Int), s ≤ t → ((slideGo z p t n s).length : Int) * p ≤ (if t < s + z then t - s else z - 1) + p := by
  intro n
  induction n with
  | zero => intro s h1; simp [slideGo]; split <;> omega
  | succ n ih =>
    intro s h1
    by_cases h2 : t < s + z
    · rw [slideGo_in h1 h2, if_pos h2]
      by_cases h3 : s + p ≤ t
      · have h4 := ih (s + p) h3
        rw [if_pos (by omega)] at h4
        rw [List.length_cons]
        push_cast
        rw [Int.add_mul, Int.one_mul]
        omega
      · rw [slideGo_end h3]
        simp
        omega
    · rw [slideGo_out h1 h2, if_neg h2]
      by_cases h3 : s + p ≤ t
      · have h4 := ih (s + p) h3
        split at h4
        · omega
        · exact h4
      · rw [slideGo_end h3]
        simp
        omega
theorem slide_least (z p t : Int) (hp : 1 ≤ p) (hpz : p ≤ z) : ∀ (n : Nat) (s : Int), s ≤ t → t - s < n → 1 ≤ (slideGo z p t n s).length := by
  intro n
  induction n with
  | zero => intro s h1 h2; omega
  | succ n ih =>
    intro s h1 h2
    by_cases h3 : t < s + z
    · rw [slideGo_in h1 h3]; simp
    · rw [slideGo_out h1 h3]
      exact ih (s + p) (by omega) (by omega)
theorem slide_four {z p t : Int} (hp : 1 ≤ p) (hpz : p ≤ z) (h4 : z ≤ 4 * p) (ht : 0 ≤ t ∧ t ≤ 60) : 1 ≤ (slideGo z p t 61 0).length ∧ (slideGo z p t 61 0).length ≤ 4 := by
  refine ⟨slide_least z p t hp hpz 61 0 ht.1 (by omega), ?_⟩
  have h := slide_most z p t hp (by omega) 61 0 ht.1
  have h5 : ((slideGo z p t 61 0).length : Int) * p < 5 * p := by
    split at h <;> omega
  have h6 := Int.lt_of_mul_lt_mul_right h5 (by omega)
  omega
/-- All that the law asks of a window. -/
structure WinIs (k z p T : Int) (x : WnR) : Prop where
  lo : 0 ≤ x.a
  le : x.a ≤ T
  lt : T < x.b
  sz : x.b = x.a + z
  k1 : k = 1 → x.a % z = 0
  k3 : k = 3 → x.a = T
  k2 : k = 2 → x.a % p = 0
theorem okJob_kp {s t k z p l e v r : Int} (h : okJob s t k z p l e v r = true) : (k = 1 ∨ k = 3 ∨ k = 2) ∧ (k = 2 → 1 ≤ p ∧ p ≤ z ∧ z ≤ 4 * p) := by
  simp only [okJob, Bool.and_eq_true] at h
  have h1 := h.1.1.1.1.1.1.2
  have h2 := h.1.1.1.1.2
  simp only [inB, decide_eq_true_eq] at h1
  refine ⟨by omega, fun hk => ?_⟩
  subst hk
  rw [stepB_2] at h2
  simp only [inB, Bool.and_eq_true, decide_eq_true_eq] at h2
  omega
theorem wins_are {s t k z p l e v r T : Int} (h : okJob s t k z p l e v r = true) (hT : 0 ≤ T ∧ T ≤ 60) : ∃ xs : List WnR, winsAll s t k z p l e v r T = xs ∧ (∀ (i : Nat) (x : WnR), xs[i]? = some x → WinIs k z p T x) ∧ (∀ (i : Nat) (x y : WnR), xs[i]? = some x → xs[i + 1]? = some y → x.a < y.a) ∧ (k ≠ 2 → xs.length = 1) ∧ (k = 2 → xs = slideGo z p T 61 0) ∧ 1 ≤ xs.length ∧ xs.length ≤ 4 := by
  have hz := okJob_z h
  obtain ⟨hk, hs⟩ := okJob_kp h
  refine ⟨_, winsAll_tt h (by simp [inB]; omega), ?_⟩
  rcases hk with rfl | rfl | rfl
  · have e : winsOf 1 z p T = [⟨T - T % z, T - T % z + z⟩] := rfl
    have h1 := Int.emod_nonneg T (show z ≠ 0 by omega)
    have h2 := Int.emod_lt_of_pos T (show 0 < z by omega)
    have h3 : (T - T % z) % z = 0 := by rw [Int.sub_emod, Int.emod_emod, Int.sub_self, Int.zero_emod]
    have h4 : T % z ≤ T := by
      have h5 := Int.mul_nonneg (show 0 ≤ z by omega) (Int.ediv_nonneg hT.1 (show 0 ≤ z by omega))
      rw [Int.emod_def]
      omega
    rw [e]
    refine ⟨fun i x hx => ?_, fun i x y hx hy => by simp at hy, fun _ => rfl, fun hk => by omega, by simp, by simp⟩
    obtain ⟨rfl, rfl⟩ : i = 0 ∧ x = ⟨T - T % z, T - T % z + z⟩ := by
      cases i with
      | zero => simp at hx; exact ⟨rfl, hx.symm⟩
      | succ i => simp at hx
    exact ⟨show 0 ≤ T - T % z by omega, show T - T % z ≤ T by omega, show T < T - T % z + z by omega, rfl, fun _ => h3, fun hk => by omega, fun hk => by omega⟩
  · have e : winsOf 3 z p T = [⟨T, T + z⟩] := rfl
    rw [e]
    refine ⟨fun i x hx => ?_, fun i x y hx hy => by simp at hy, fun _ => rfl, fun hk => by omega, by simp, by simp⟩
    obtain ⟨rfl, rfl⟩ : i = 0 ∧ x = ⟨T, T + z⟩ := by
      cases i with
      | zero => simp at hx; exact ⟨rfl, hx.symm⟩
      | succ i => simp at hx
    exact ⟨hT.1, Int.le_refl _, show T < T + z by omega, rfl, fun hk => by omega, fun _ => rfl, fun hk => by omega⟩
  · have e : winsOf 2 z p T = slideGo z p T 61 0 := rfl
    obtain ⟨p1, p2, p3⟩ := hs rfl
    rw [e]
    have h9 := slide_four p1 p2 p3 hT
    refine ⟨fun i x hx => ?_, slide_rise z p T p1 61 0 (by simp), fun hk => absurd rfl hk, fun _ => rfl, h9.1, h9.2⟩
    have h8 := slide_at z p T p1 61 0 (by simp) i x hx
    exact ⟨h8.1, h8.2.1, by rw [h8.2.2.2.1]; exact h8.2.2.1, h8.2.2.2.1, fun hk => by omega, fun hk => by omega, fun _ => h8.2.2.2.2⟩
end Go.Proofs.Ytmlnddbbpdijoaa
