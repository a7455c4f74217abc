/- Laid together: what the claim needs of the texts that were built one by one. -/
import Derived.Test.YtikidpcgnmffcaaGreatPkSesO
import Derived.Test.YtikidpcgnmffcaaGreatPkSpcTS
import Derived.Test.YtikidpcgnmffcaaGreatPkBase
namespace Go.Proofs.YtikidpcgnmffcaaGreat
open Go.ChangeShapes Go.WideShapes Go.ChangeAt Go.RowKit Go.Shelf
set_option linter.unusedVariables false
set_option linter.unusedSimpArgs false

theorem slideGo_bd (z p t : Int) (hp : 0 ≤ p) : ∀ (n : Nat) (s : Int), 0 ≤ s → ∀ x ∈ slideGo z p t n s, 0 ≤ x.a ∧ x.a ≤ t ∧ x.b = x.a + z
  | 0, _, _, x, hx => by simp [slideGo] at hx
  | n + 1, s, hs, x, hx => by
    by_cases h1 : s ≤ t
    · by_cases h2 : t < s + z
      · rw [slideGo_in h1 h2] at hx
        rcases List.mem_cons.1 hx with rfl | hx
        · exact ⟨hs, h1, rfl⟩
        · exact slideGo_bd z p t hp n (s + p) (by omega) x hx
      · rw [slideGo_out h1 h2] at hx
        exact slideGo_bd z p t hp n (s + p) (by omega) x hx
    · rw [slideGo_end h1] at hx
      cases hx

theorem winsOf_bd {k z p t : Int} (hz : 1 ≤ z ∧ z ≤ 20) (hp : 0 ≤ p) (ht : 0 ≤ t ∧ t ≤ 60) : ∀ x ∈ winsOf k z p t, 0 ≤ x.a ∧ x.a ≤ 60 ∧ 0 ≤ x.b ∧ x.b ≤ 80 := by
  intro x hx
  unfold winsOf at hx
  have h1 := Int.emod_nonneg t (b := z) (by omega)
  have h2 := Int.emod_lt_of_pos t (b := z) (by omega)
  have h3 : t % z ≤ t := by have := Int.emod_add_mul_ediv t z; have := Int.ediv_nonneg (a := t) (b := z) (by omega) (by omega); have := Int.mul_nonneg (a := z) (b := t / z) (by omega) (by omega); omega
  split at hx
  · simp at hx; subst hx; simp; omega
  · split at hx
    · simp at hx; subst hx; simp; omega
    · have := slideGo_bd z p t hp 61 0 (by omega) x hx
      omega

theorem pairsT_pb (s t k z p l e v r : Int) (xs : List IwR) : ∀ x ∈ pairsT s t k z p l e v r xs, PB x := by
  intro x hx
  unfold pairsT at hx
  split at hx
  · rename_i hc
    simp only [Bool.and_eq_true] at hc
    obtain ⟨hj, hr⟩ := hc
    have ha := (recsB_iff hr).2
    unfold prsT at hx
    obtain ⟨y, hy, hx⟩ := List.mem_flatMap.1 hx
    unfold prsOf at hx
    obtain ⟨q, hq, rfl⟩ := List.mem_map.1 hx
    have hb := List.all_eq_true.1 ha y hy
    have hk : 0 ≤ y.ke ∧ y.ke ≤ 1000000 := by
      unfold IwR.isB isRecB okRec at hb
      simp only [Bool.and_eq_true] at hb
      have := inB_iff.1 hb.2.1.1.2
      omega
    unfold okJob at hj
    simp only [Bool.and_eq_true] at hj
    have hz := inB_iff.1 hj.1.1.1.1.1.2
    have hs := hj.1.1.1.1.2
    have hp : 0 ≤ p := by
      unfold stepB at hs
      split at hs
      · simp only [Bool.and_eq_true] at hs
        have := inB_iff.1 hs.1
        omega
      · simp at hs
        omega
    have h4 := winsOf_bd hz hp (isB_tm hb) q hq
    exact ⟨WalkArith.wf_i64 (by simp [mkP]; omega), WalkArith.wf_i64 (by simp [mkP]; omega), WalkArith.wf_i64 (by simp [mkP]; omega)⟩
  · cases hx

theorem pairsOf_is (s t k z p l e : Int) (b : Bool) (v r : Int) (a : Option Addr) (len cap : Nat) (w : World) : Calls Tryz.prog 21 #[.agg #[.int .i64 s, .int .i64 t, .int .i64 k, .int .i64 z, .int .i64 p, .int .i64 l, .int .i64 e, .bool b, .int .i64 v, .int .i64 r], .slice a len cap] w fun e' w' => e' = .returned (.func (.func 35) #[] #[.pointer (some ⟨w.heap.size + 1, 0, none⟩), .pointer (some ⟨w.heap.size, 0, none⟩)]) ∧ w' = (w.alloc (.cells #[.int .i64 s, .int .i64 t, .int .i64 k, .int .i64 z, .int .i64 p, .int .i64 l, .int .i64 e, .bool b, .int .i64 v, .int .i64 r] 28)).alloc (.cells #[.slice a len cap] 30) := by
  go_enter Tryz.func21, Tryz.ntmps21
  go_wp2
  go_ret
  exact ⟨rfl, rfl⟩

set_option maxRecDepth 20000 in
set_option maxHeartbeats 2000000 in
theorem impltable_any (s t k z p l e : Int) (b : Bool) (v r : Int) (a : Option Addr) (len cap : Nat) (xs : List IwR) (w : World) (h : IwRs w a len xs) : Calls Tryz.prog 8 #[.agg #[.int .i64 s, .int .i64 t, .int .i64 k, .int .i64 z, .int .i64 p, .int .i64 l, .int .i64 e, .bool b, .int .i64 v, .int .i64 r], .slice a len cap] w fun e' w' => ∃ v', e' = .returned v' ∧ OwnTb w' w.heap.size v' (tabP k (pairsT s t k z p l e v r xs)) ∧ Below w.heap.size w w' := by
  obtain ⟨PR, hPR0⟩ := lift_pb _ (pairsT_pb s t k z p l e v r xs)
  have hPR : PR.map (·.1) = pairsI s t k z p l e v r xs := hPR0.trans (pairsI_eq s t k z p l e v r xs).symm
  have hPl : PR.length ≤ 7320 := by
    have h1 := pairsT_le s t k z p l e v r xs
    rw [← hPR0, List.length_map] at h1
    exact h1
  have HP0 := hide hPR0
  clear hPR0
  go_enter Tryz.func8, Tryz.ntmps8
  by_cases hk : k = 3
  · subst hk
    go_wp2_with fail
    refine (pairsOf_is _ _ _ _ _ _ _ _ _ _ _ _ _ _).mono ?_
    rintro e' w1 ⟨rfl, hw⟩
    have hb1 : Below w.heap.size w w1 := by rw [hw]; exact bel_alloc (bel_alloc (bel_one _ _) _) _
    have hs1 : w1.heap.size = w.heap.size + 1 + 1 + 1 := by rw [hw]; simp
    have hBr : w1.cell? ⟨w.heap.size + 1 + 1, 0, none⟩ = some (.slice a len cap) := by rw [hw]; simp [go_sem]
    have hBj : w1.cell? ⟨w.heap.size + 1, 0, none⟩ = some (.int .i64 s) ∧ w1.cell? ⟨w.heap.size + 1, 1, none⟩ = some (.int .i64 t) ∧ w1.cell? ⟨w.heap.size + 1, 2, none⟩ = some (.int .i64 3) ∧ w1.cell? ⟨w.heap.size + 1, 3, none⟩ = some (.int .i64 z) ∧ w1.cell? ⟨w.heap.size + 1, 4, none⟩ = some (.int .i64 p) ∧ w1.cell? ⟨w.heap.size + 1, 5, none⟩ = some (.int .i64 l) ∧ w1.cell? ⟨w.heap.size + 1, 6, none⟩ = some (.int .i64 e) ∧ w1.cell? ⟨w.heap.size + 1, 7, none⟩ = some (.bool b) ∧ w1.cell? ⟨w.heap.size + 1, 8, none⟩ = some (.int .i64 v) ∧ w1.cell? ⟨w.heap.size + 1, 9, none⟩ = some (.int .i64 r) := by
      rw [hw]
      exact ⟨by simp [go_sem], by simp [go_sem], by simp [go_sem], by simp [go_sem], by simp [go_sem], by simp [go_sem], by simp [go_sem], by simp [go_sem], by simp [go_sem], by simp [go_sem]⟩
    clear hw
    go_wp2_with fail
    refine (sessionsof_any 35 _ (enters_of Tryz.func35 (by kernel_rfl) rfl) PR (by omega) w1 (pairsB_stops 29 (by omega) (w.heap.size + 1 + 1) (w.heap.size + 1) len cap a xs s t 3 z p l e b v r w1 w1.heap.size (Nat.le_refl _) hBr (by omega) hBj (by omega) (h.below hb1) (fun g o hp ha => by subst ha; exact (h.below hb1).lt hp) PR hPR)).mono ?_
    rintro e' w' ⟨v', rfl, hO, hb⟩
    go_wp2_with fail
    go_ret
    refine ⟨_, rfl, ?_, bel_trans hb1 hb⟩
    rw [← unhide HP0]
    exact World.ownsRow.mono hO (by omega)
  · skip
    go_wp2_with fail
    refine (pairsOf_is _ _ _ _ _ _ _ _ _ _ _ _ _ _).mono ?_
    rintro e' w1 ⟨rfl, hw⟩
    have hb1 : Below w.heap.size w w1 := by rw [hw]; exact bel_alloc (bel_alloc (bel_one _ _) _) _
    have hs1 : w1.heap.size = w.heap.size + 1 + 1 + 1 := by rw [hw]; simp
    have hBr : w1.cell? ⟨w.heap.size + 1 + 1, 0, none⟩ = some (.slice a len cap) := by rw [hw]; simp [go_sem]
    have hBj : w1.cell? ⟨w.heap.size + 1, 0, none⟩ = some (.int .i64 s) ∧ w1.cell? ⟨w.heap.size + 1, 1, none⟩ = some (.int .i64 t) ∧ w1.cell? ⟨w.heap.size + 1, 2, none⟩ = some (.int .i64 k) ∧ w1.cell? ⟨w.heap.size + 1, 3, none⟩ = some (.int .i64 z) ∧ w1.cell? ⟨w.heap.size + 1, 4, none⟩ = some (.int .i64 p) ∧ w1.cell? ⟨w.heap.size + 1, 5, none⟩ = some (.int .i64 l) ∧ w1.cell? ⟨w.heap.size + 1, 6, none⟩ = some (.int .i64 e) ∧ w1.cell? ⟨w.heap.size + 1, 7, none⟩ = some (.bool b) ∧ w1.cell? ⟨w.heap.size + 1, 8, none⟩ = some (.int .i64 v) ∧ w1.cell? ⟨w.heap.size + 1, 9, none⟩ = some (.int .i64 r) := by
      rw [hw]
      exact ⟨by simp [go_sem], by simp [go_sem], by simp [go_sem], by simp [go_sem], by simp [go_sem], by simp [go_sem], by simp [go_sem], by simp [go_sem], by simp [go_sem], by simp [go_sem]⟩
    clear hw
    go_wp2_with fail
    refine (windows_any 35 _ (enters_of Tryz.func35 (by kernel_rfl) rfl) PR (by omega) w1 (pairsB_stops 29 (by omega) (w.heap.size + 1 + 1) (w.heap.size + 1) len cap a xs s t k z p l e b v r w1 w1.heap.size (Nat.le_refl _) hBr (by omega) hBj (by omega) (h.below hb1) (fun g o hp ha => by subst ha; exact (h.below hb1).lt hp) PR hPR)).mono ?_
    rintro e' w' ⟨v', rfl, hO, hb⟩
    go_wp2_with fail
    go_ret
    refine ⟨_, rfl, ?_, bel_trans hb1 hb⟩
    rw [← unhide HP0, tabP_panes hk, List.map_map]
    exact World.ownsRow.mono hO (by omega)
end Go.Proofs.YtikidpcgnmffcaaGreat
