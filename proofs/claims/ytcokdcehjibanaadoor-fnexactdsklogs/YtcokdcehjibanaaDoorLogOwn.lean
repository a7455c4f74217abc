/- Proved here: items in a slice of the call's own: a shorter slice, one item stored, read as items, appended behind others. -/
import Derived.Test.YtcokdcehjibanaaDoorRecs
import Derived.Laws.OwnMore
namespace Go.Proofs.YtcokdcehjibanaaDoor
open Go.ChangeShapes Go.WideShapes Go.ChangeAt Go.RowKit
set_option linter.unusedVariables false

theorem flat_take (xs : List It) (k : Nat) : flat (xs.take k) = (flat xs).take (k * 5) := by
  induction xs generalizing k with
  | nil => simp [flat]
  | cons y r ih =>
    cases k with
    | zero => simp [flat]
    | succ k =>
      have hf : flat (y :: r) = y.cells ++ flat r := rfl
      have hf2 : flat (y :: r.take k) = y.cells ++ flat (r.take k) := rfl
      rw [List.take_succ_cons, hf, hf2, ih, List.take_append]
      have hl : y.cells.length = 5 := rfl
      rw [hl, List.take_of_length_le (l := y.cells) (by rw [hl]; omega), show (k + 1) * 5 - 5 = k * 5 by omega]
theorem flat_drop (xs : List It) (k : Nat) : flat (xs.drop k) = (flat xs).drop (k * 5) := by
  induction xs generalizing k with
  | nil => simp [flat]
  | cons y r ih =>
    cases k with
    | zero => simp [flat]
    | succ k =>
      have hf : flat (y :: r) = y.cells ++ flat r := rfl
      have hl : y.cells.length = 5 := rfl
      rw [List.drop_succ_cons, hf, ih, List.drop_append, hl, show y.cells.drop ((k + 1) * 5) = [] from List.drop_eq_nil_of_le (by rw [hl]; omega), show (k + 1) * 5 - 5 = k * 5 by omega, List.nil_append]
theorem flat_app (xs ys : List It) : flat (xs ++ ys) = flat xs ++ flat ys := by simp [flat]
theorem flat_one (xs : List It) : ∀ u ∈ flat xs, u.oneCell' = true := by
  intro u hu
  simp only [flat, List.mem_flatMap] at hu
  obtain ⟨x, _, hx⟩ := hu
  simp only [It.cells, List.mem_cons, List.not_mem_nil, or_false] at hx
  rcases hx with rfl | rfl | rfl | rfl | rfl <;> rfl
theorem flat_set (xs : List It) (k : Nat) (x : It) : (((((flat xs).set (k * 5) (.int .i64 x.q)).set (k * 5 + 1) (.int .i64 x.t)).set (k * 5 + 2) (.int .i64 x.k)).set (k * 5 + 3) (.int .i64 x.v)).set (k * 5 + 4) (.int .i64 x.n) = flat (xs.set k x) := by
  induction xs generalizing k with
  | nil => simp [flat]
  | cons y r ih =>
    have hf : flat (y :: r) = y.cells ++ flat r := rfl
    cases k with
    | zero => rfl
    | succ k =>
      have hf2 : flat (y :: r.set k x) = y.cells ++ flat (r.set k x) := rfl
      have hl : y.cells.length = 5 := rfl
      rw [List.set_cons_succ, hf, hf2, ← ih]
      rw [List.set_append_right _ _ (by rw [hl]; omega), List.set_append_right _ _ (by rw [hl]; omega), List.set_append_right _ _ (by rw [hl]; omega), List.set_append_right _ _ (by rw [hl]; omega), List.set_append_right _ _ (by rw [hl]; omega), hl]
      rw [show (k + 1) * 5 - 5 = k * 5 by omega, show (k + 1) * 5 + 1 - 5 = k * 5 + 1 by omega, show (k + 1) * 5 + 2 - 5 = k * 5 + 2 by omega, show (k + 1) * 5 + 3 - 5 = k * 5 + 3 by omega, show (k + 1) * 5 + 4 - 5 = k * 5 + 4 by omega]
theorem own_form {W : World} {B : Nat} {v : Value} {xs : List It} (h : OwnIts W B v xs) (hp : 1 ≤ xs.length) : ∃ g cp, v = .slice (some ⟨g, 0, none⟩) xs.length cp ∧ B ≤ g ∧ g < W.heap.size ∧ xs.length ≤ cp := by
  rcases h.2 with ⟨rfl, h0⟩ | ⟨g, cap, cur, rfl, hB, hblk, hc, _⟩
  · omega
  · exact ⟨g, cap, rfl, hB, (Array.getElem?_eq_some_iff.1 hblk).1, hc⟩
theorem own_take {W : World} {B g cp : Nat} {xs : List It} (h : OwnIts W B (.slice (some ⟨g, 0, none⟩) xs.length cp) xs) (k : Nat) (hk : k ≤ xs.length) : OwnIts W B (.slice (some ⟨g, 0, none⟩) k cp) (xs.take k) := by
  have hl : (xs.take k).length = k := by simp; omega
  unfold OwnIts
  rw [hl]
  refine ⟨by rw [flat_len, hl], ?_⟩
  rcases h.2 with ⟨h', _⟩ | ⟨g', cap, cur, h', hB, hblk, hc, hm, hs, ht⟩
  · simp at h'
  · simp only [Value.slice.injEq, Option.some.injEq, Addr.mk.injEq, and_true, true_and] at h'
    obtain ⟨rfl, rfl⟩ := h'
    refine Or.inr ⟨g, cp, cur, rfl, hB, hblk, by omega, hm, hs, ?_⟩
    rw [flat_take, ← ht, List.take_take, Nat.min_eq_left (by omega)]
theorem own_put {W : World} {B g cp n : Nat} {xs : List It} (h : OwnIts W B (.slice (some ⟨g, 0, none⟩) n cp) xs) (hn : xs.length = n) (k : Nat) (x : It) : OwnIts (((((W.setCell ⟨g, k * 5, none⟩ (.int .i64 x.q)).setCell ⟨g, k * 5 + 1, none⟩ (.int .i64 x.t)).setCell ⟨g, k * 5 + 2, none⟩ (.int .i64 x.k)).setCell ⟨g, k * 5 + 3, none⟩ (.int .i64 x.v)).setCell ⟨g, k * 5 + 4, none⟩ (.int .i64 x.n)) B (.slice (some ⟨g, 0, none⟩) n cp) (xs.set k x) := by
  subst hn
  have hl : (xs.set k x).length = xs.length := by simp
  unfold OwnIts
  rw [hl, ← flat_set]
  exact (World.ownsRow.stored (World.ownsRow.stored (World.ownsRow.stored (World.ownsRow.stored (World.ownsRow.stored h _ _).1 _ _).1 _ _).1 _ _).1 _ _).1
theorem own_cells {W : World} {B g cp n : Nat} {xs : List It} (h : OwnIts W B (.slice (some ⟨g, 0, none⟩) n cp) xs) (hn : xs.length = n) {k : Nat} (hk : k < n) : (∃ u, W.cell? ⟨g, k * 5, none⟩ = some u) ∧ (∃ u, W.cell? ⟨g, k * 5 + 1, none⟩ = some u) ∧ (∃ u, W.cell? ⟨g, k * 5 + 2, none⟩ = some u) ∧ (∃ u, W.cell? ⟨g, k * 5 + 3, none⟩ = some u) ∧ (∃ u, W.cell? ⟨g, k * 5 + 4, none⟩ = some u) := by
  subst hn
  have hat : ∀ j, j < xs.length * 5 → ∃ u, W.cell? ⟨g, j, none⟩ = some u := fun j hj => by
    rw [World.ownsRow.cellAt h j hj]
    exact ⟨_, List.getElem?_eq_getElem (by rw [flat_len]; exact hj)⟩
  exact ⟨hat _ (by omega), hat _ (by omega), hat _ (by omega), hat _ (by omega), hat _ (by omega)⟩
theorem own_frozen {W : World} {B g cp n : Nat} {xs : List It} (h : OwnIts W B (.slice (some ⟨g, 0, none⟩) n cp) xs) (hn : xs.length = n) (j : Nat) : W.frozen? ⟨g, j, none⟩ = false := by
  subst hn
  exact World.ownsRow.frozenAt h j
theorem own_its {W : World} {B : Nat} {v : Value} {xs : List It} (h : OwnIts W B v xs) (hm : xs.length ≤ maxLen) : ∃ a1 cap1, v = .slice a1 xs.length cap1 ∧ Its W a1 xs.length xs := by
  rcases h.2 with ⟨rfl, h0⟩ | ⟨g, cap, cur, rfl, hB, hblk, hc, _⟩
  · exact ⟨none, 0, by rw [h0], rfl, hm, Or.inl h0⟩
  · refine ⟨_, cap, rfl, rfl, hm, Or.inr ⟨g, 0, rfl, fun i x hx => ?_⟩⟩
    have hi : i < xs.length := by
      rcases Nat.lt_or_ge i xs.length with h' | h'
      · exact h'
      · rw [List.getElem?_eq_none h'] at hx; cases hx
    obtain ⟨h0, h1, h2, h3, h4⟩ := flat_get hx
    have hat : ∀ j, j < xs.length * 5 → W.cell? ⟨g, j, none⟩ = (flat xs)[j]? := fun j hj => World.ownsRow.cellAt h j hj
    refine ⟨?_, ?_, ?_, ?_, ?_⟩
    · rw [show 0 + i * 5 = i * 5 by omega, hat _ (by omega)]; exact h0
    · rw [show 0 + i * 5 + 1 = i * 5 + 1 by omega, hat _ (by omega)]; exact h1
    · rw [show 0 + i * 5 + 2 = i * 5 + 2 by omega, hat _ (by omega)]; exact h2
    · rw [show 0 + i * 5 + 3 = i * 5 + 3 by omega, hat _ (by omega)]; exact h3
    · rw [show 0 + i * 5 + 4 = i * 5 + 4 by omega, hat _ (by omega)]; exact h4
/-- The cells of such a slice, from one of its items on. -/
theorem own_news {W : World} {B g cp n : Nat} {xs : List It} (h : OwnIts W B (.slice (some ⟨g, 0, none⟩) n cp) xs) (hn : xs.length = n) (k : Nat) : ∀ j u, (flat (xs.drop k))[j]? = some u → W.cell? ((⟨g, k * 5, none⟩ : Addr).add j) = some u := by
  subst hn
  intro j u hu
  have e : ((⟨g, k * 5, none⟩ : Addr).add j) = ⟨g, k * 5 + j, none⟩ := by
    unfold Addr.add
    split
    · rename_i h0; rw [h0]; rfl
    · rfl
  rw [flat_drop, List.getElem?_drop] at hu
  have hj : k * 5 + j < xs.length * 5 := by
    rcases Nat.lt_or_ge (k * 5 + j) (flat xs).length with h' | h'
    · rw [flat_len] at h'; exact h'
    · rw [List.getElem?_eq_none h'] at hu; cases hu
  rw [e, World.ownsRow.cellAt h _ hj]
  exact hu
theorem own_news_take {W : World} {B g cp n : Nat} {xs : List It} (h : OwnIts W B (.slice (some ⟨g, 0, none⟩) n cp) xs) (hn : xs.length = n) (k : Nat) : ∀ j u, (flat (xs.take k))[j]? = some u → W.cell? ((⟨g, 0, none⟩ : Addr).add j) = some u := by
  intro j u hu
  refine own_news h hn 0 j u ?_ |> (fun h => by simpa using h)
  rw [List.drop_zero]
  rw [flat_take, List.getElem?_take] at hu
  split at hu
  · exact hu
  · cases hu
end Go.Proofs.YtcokdcehjibanaaDoor
