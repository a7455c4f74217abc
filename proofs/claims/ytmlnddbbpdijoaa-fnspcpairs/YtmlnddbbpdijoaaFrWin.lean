/- Proved here: two lists of the same windows are alike; the windows of jobs that differ in their kind. -/
import Derived.Test.YtmlnddbbpdijoaaSlide6
import Derived.Test.YtmlnddbbpdijoaaWin2
import Derived.BigQuiet
namespace Go.Proofs.Ytmlnddbbpdijoaa
open Go.ChangeShapes Go.WideShapes Go.ChangeAt Go.RowKit
set_option linter.unusedVariables false

theorem okJob_is {s t k z p l e v r : Int} (h : okJob s t k z p l e v r = true) {k' p' : Int} (hk : 1 ≤ k' ∧ k' ≤ 3) (hs : stepB k' z p' = true) : okJob s t k' z p' l e v r = true := by
  simp only [okJob, Bool.and_eq_true] at h ⊢
  exact ⟨⟨⟨⟨⟨⟨⟨⟨h.1.1.1.1.1.1.1.1, h.1.1.1.1.1.1.1.2⟩, by simp [inB]; omega⟩, h.1.1.1.1.1.2⟩, hs⟩, h.1.1.1.2⟩, h.1.1.2⟩, h.1.2⟩, h.2⟩
theorem okJob_z {s t k z p l e v r : Int} (h : okJob s t k z p l e v r = true) : 1 ≤ z ∧ z ≤ 20 := by
  simp only [okJob, Bool.and_eq_true] at h
  have h2 := h.1.1.1.1.1.2
  simp only [inB, decide_eq_true_eq] at h2
  omega
/-- Windows that slide by their size. -/
theorem slide_one (z t : Int) (hz : 1 ≤ z) (ht : 0 ≤ t) : ∀ (n : Nat) (s : Int), s % z = 0 → s ≤ t → t - s < n → slideGo z z t n s = [⟨t - t % z, t - t % z + z⟩] := by
  intro n
  induction n with
  | zero => intro s _ h1 h2; omega
  | succ n ih =>
    intro s hs h1 h2
    by_cases h3 : t < s + z
    · rw [slideGo_in h1 h3, slideGo_end (by omega)]
      have h4 : t % z = t - s := by
        have h5 : t = s + (t - s) := by omega
        rw [h5, Int.add_emod, hs, Int.zero_add, Int.emod_emod, Int.emod_eq_of_lt (by omega) (by omega)]
        omega
      rw [h4]
      have h6 : t - (t - s) = s := by omega
      rw [h6]
    · rw [slideGo_out h1 h3]
      exact ih (s + z) (by rw [Int.add_emod, hs, Int.zero_add, Int.emod_emod, Int.emod_self]) (by omega) (by omega)
theorem wins_1 {s t z l e v r T : Int} (h : okJob s t 1 z 0 l e v r = true) (hT : 0 ≤ T ∧ T ≤ 60) : winsAll s t 1 z 0 l e v r T = [⟨T - T % z, T - T % z + z⟩] := by
  unfold winsAll
  rw [h, show inB T 0 60 = true by simp [inB]; omega]
  rfl
theorem wins_3 {s t z l e v r T : Int} (h : okJob s t 3 z 0 l e v r = true) (hT : 0 ≤ T ∧ T ≤ 60) : winsAll s t 3 z 0 l e v r T = [⟨T, T + z⟩] := by
  unfold winsAll
  rw [h, show inB T 0 60 = true by simp [inB]; omega]
  rfl
theorem wins_2 {s t z l e v r T : Int} (h : okJob s t 2 z z l e v r = true) (hT : 0 ≤ T ∧ T ≤ 60) : winsAll s t 2 z z l e v r T = [⟨T - T % z, T - T % z + z⟩] := by
  have hz := okJob_z h
  unfold winsAll
  rw [h, show inB T 0 60 = true by simp [inB]; omega]
  exact slide_one z T hz.1 hT.1 61 0 (by simp) hT.1 (by omega)

theorem implwinof_is (s t k z p l e : Int) (b : Bool) (v r : Int) (T : Int) (w : World) {xs : List WnR} (h : Hid (winsAll s t k z p l e v r T = xs)) : Calls Try.prog 8 #[.agg #[.int .i64 s, .int .i64 t, .int .i64 k, .int .i64 z, .int .i64 p, .int .i64 l, .int .i64 e, .bool b, .int .i64 v, .int .i64 r], .int .i64 T] w fun e' w' => ∃ v', e' = .returned v' ∧ OwnWn w' w.heap.size v' xs ∧ Below w.heap.size w w' := by
  rw [← unhide h]
  exact implwinof_any s t k z p l e b v r T w

/-- One window, in memory. -/
theorem own_one {W : World} {B : Nat} {v : Value} {x : WnR} (h : OwnWn W B v [x]) : ∃ g c, v = .slice (some ⟨g, 0, none⟩) 1 c ∧ W.cell? ⟨g, 0, none⟩ = some (.int .i64 x.a) ∧ W.cell? ⟨g, 1, none⟩ = some (.int .i64 x.b) ∧ g < W.heap.size ∧ WnRs W (some ⟨g, 0, none⟩) 1 [x] := by
  obtain ⟨a, cap, rfl, hR, hWr, _⟩ := holdWn h (by simp)
  have hR' := hR
  rcases hWr with h0 | ⟨g, rfl, _⟩
  · simp at h0
  · obtain ⟨_, _, h3⟩ := hR
    rcases h3 with h0 | ⟨g', o', e, hat⟩
    · simp at h0
    · cases e
      obtain ⟨c0, c1⟩ := hat 0 x rfl
      have c0 : W.cell? ⟨g, 0, none⟩ = some (.int .i64 x.a) := by simpa using c0
      have c1 : W.cell? ⟨g, 1, none⟩ = some (.int .i64 x.b) := by simpa using c1
      exact ⟨g, cap, rfl, c0, c1, World.block_lt_of_cell? W ⟨g, 0, none⟩ c0, hR'⟩
theorem WnRs.up {W W' : World} {a : Option Addr} {len : Nat} {xs : List WnR} (h : WnRs W a len xs) (hb : Below W.heap.size W W') : WnRs W' a len xs := h.below hb
end Go.Proofs.Ytmlnddbbpdijoaa
