/- Laid together: what the claim needs of the texts that were built one by one. -/
import Derived.Test.YtabphkmhafflbaaPkBase
import Derived.OwnWalk
import Derived.Laws.OwnMore
namespace Go.Proofs.Ytabphkmhafflbaa
open Go.ChangeShapes Go.WideShapes Go.ChangeAt Go.RowKit Go.Deep
set_option linter.unusedVariables false

theorem ownIn_of {W : World} {B : Nat} {v : Value} {zs : List Int} {n : Nat} (h : W.ownsRow B 3 1 v n (zs.map fun z => .int .i64 z)) (hn : zs.length = n) (hl : n ≤ 1048576) : ∃ a cap, v = .slice a n cap ∧ InB W B a n zs ∧ WrC W 3 a n cap ∧ ∀ b, rowC a n = some b → B ≤ b := by
  subst hn
  have hm : zs.length ≤ maxLen := by unfold maxLen; omega
  rcases h.2 with ⟨rfl, h0⟩ | ⟨g, cap, cur, rfl, hB, hblk, hc, _, hsz, htk⟩
  · exact ⟨none, 0, by rw [h0], ⟨⟨rfl, hm, Or.inl h0⟩, fun g o hp => by omega⟩, Or.inl h0, fun b hb => by simp [rowC, h0] at hb⟩
  · refine ⟨_, cap, rfl, ⟨⟨rfl, hm, Or.inr ⟨g, 0, rfl, fun i x hx => ?_⟩⟩, fun g' o' _ e => by cases e; exact hB⟩, Or.inr ⟨g, rfl, ⟨cur, hblk, by omega⟩, hc⟩, fun b hb => ?_⟩
    · have hi : i < zs.length := (List.getElem?_eq_some_iff.1 hx).1
      have h1 := World.ownsRow.cellAt h i (by omega)
      rw [Nat.zero_add, h1, List.getElem?_map, hx]
      rfl
    · by_cases h0 : zs.length = 0
      · simp [rowC, h0] at hb
      · rw [rowC_pos h0] at hb
        cases hb
        exact hB

theorem ownBo_of {W : World} {B : Nat} {v : Value} {zs : List Bool} {n : Nat} (h : W.ownsRow B 4 1 v n (zs.map fun z => .bool z)) (hn : zs.length = n) (hl : n ≤ 1048576) : ∃ a cap, v = .slice a n cap ∧ BoB W B a n zs ∧ WrC W 4 a n cap ∧ ∀ b, rowC a n = some b → B ≤ b := by
  subst hn
  have hm : zs.length ≤ maxLen := by unfold maxLen; omega
  rcases h.2 with ⟨rfl, h0⟩ | ⟨g, cap, cur, rfl, hB, hblk, hc, _, hsz, htk⟩
  · exact ⟨none, 0, by rw [h0], ⟨⟨rfl, hm, Or.inl h0⟩, fun g o hp => by omega⟩, Or.inl h0, fun b hb => by simp [rowC, h0] at hb⟩
  · refine ⟨_, cap, rfl, ⟨⟨rfl, hm, Or.inr ⟨g, 0, rfl, fun i x hx => ?_⟩⟩, fun g' o' _ e => by cases e; exact hB⟩, Or.inr ⟨g, rfl, ⟨cur, hblk, by omega⟩, hc⟩, fun b hb => ?_⟩
    · have hi : i < zs.length := (List.getElem?_eq_some_iff.1 hx).1
      have h1 := World.ownsRow.cellAt h i (by omega)
      rw [Nat.zero_add, h1, List.getElem?_map, hx]
      rfl
    · by_cases h0 : zs.length = 0
      · simp [rowC, h0] at hb
      · rw [rowC_pos h0] at hb
        cases hb
        exact hB

/-- The cells of what is kept: a mark, and where the rest lies. -/
def SnV.cells (p : Int × SnV) : List Value := [.int .i64 p.1, .slice p.2.a1 p.2.l1 p.2.c1, .slice p.2.a2 p.2.l2 p.2.c2]

def flatSV (l : List (Int × SnV)) : List Value := l.flatMap SnV.cells

theorem flatSV_snoc (l : List (Int × SnV)) (p : Int × SnV) : flatSV (l ++ [p]) = flatSV l ++ SnV.cells p := by simp [flatSV]

theorem flatSV_get {l : List (Int × SnV)} {i : Nat} {p : Int × SnV} (h : l[i]? = some p) : (flatSV l)[i * 3]? = some (.int .i64 p.1) ∧ (flatSV l)[i * 3 + 1]? = some (.slice p.2.a1 p.2.l1 p.2.c1) ∧ (flatSV l)[i * 3 + 2]? = some (.slice p.2.a2 p.2.l2 p.2.c2) := by
  induction l generalizing i with
  | nil => simp at h
  | cons y r ih =>
    have hf : flatSV (y :: r) = SnV.cells y ++ flatSV r := rfl
    have hl : (SnV.cells y).length = 3 := rfl
    cases i with
    | zero => simp at h; subst h; rw [hf]; exact ⟨rfl, rfl, rfl⟩
    | succ i =>
      simp at h
      obtain ⟨h0, h1, h2⟩ := ih h
      rw [hf]
      refine ⟨?_, ?_, ?_⟩
      · rw [List.getElem?_append_right (by omega), hl, show (i + 1) * 3 - 3 = i * 3 by omega]; exact h0
      · rw [List.getElem?_append_right (by omega), hl, show (i + 1) * 3 + 1 - 3 = i * 3 + 1 by omega]; exact h1
      · rw [List.getElem?_append_right (by omega), hl, show (i + 1) * 3 + 2 - 3 = i * 3 + 2 by omega]; exact h2

def OwnSn (W : World) (B : Nat) (v : Value) (l : List (Int × SnV)) : Prop := W.ownsRow B 48 3 v l.length (flatSV l)

/-- Such a slice, if what its parts hold is known, holds what is kept of tasks, and may be written. -/
theorem ownSn_of {W : World} {B : Nat} {v : Value} {l : List (Int × SnV)} {xs : List SnD} {n : Nat} (h : OwnSn W B v l) (hn : l.length = n) (hx : xs.length = n) (hl : n ≤ 1048576)
    (hp : ∀ (i : Nat) (p : Int × SnV) (x : SnD), l[i]? = some p → xs[i]? = some x → x.ma = p.1 ∧ OrB W B p.2.a1 p.2.l1 x.rows ∧ InB W B p.2.a2 p.2.l2 x.marks) : ∃ a cap, v = .slice a n cap ∧ SnB W B a n xs ∧ (n = 0 ∨ ∃ g, a = some ⟨g, 0, none⟩ ∧ BlkSn W g 48 cap ∧ n ≤ cap ∧ ∀ (i : Nat) (u : SnV), (l.map (·.2))[i]? = some u → W.cell? ⟨g, i * 3 + 1, none⟩ = some (.slice u.a1 u.l1 u.c1) ∧ W.cell? ⟨g, i * 3 + 2, none⟩ = some (.slice u.a2 u.l2 u.c2)) ∧ ∀ b, rowSn a n = some b → v.ownBlock = some b ∧ B ≤ b := by
  subst hn
  have hm : l.length ≤ maxLen := by unfold maxLen; omega
  rcases h.2 with ⟨rfl, h0⟩ | ⟨g, cap, cur, rfl, hB, hblk, hc, _, hsz, htk⟩
  · exact ⟨none, 0, by rw [h0], ⟨hx, hm, Or.inl h0⟩, Or.inl h0, fun b hb => by simp [rowSn, h0] at hb⟩
  · have hat : ∀ j, j < l.length * 3 → W.cell? ⟨g, j, none⟩ = (flatSV l)[j]? := fun j hj => World.ownsRow.cellAt h j hj
    refine ⟨_, cap, rfl, ⟨hx, hm, Or.inr ⟨g, 0, rfl, hB, fun i x hix => ?_⟩⟩, Or.inr ⟨g, rfl, ⟨cur, hblk, hsz⟩, hc, fun i u hu => ?_⟩, fun b hb => ?_⟩
    · have hi : i < xs.length := (List.getElem?_eq_some_iff.1 hix).1
      obtain ⟨p, hpi⟩ : ∃ p, l[i]? = some p := ⟨_, List.getElem?_eq_getElem (by omega)⟩
      obtain ⟨h1, h2, h3⟩ := hp i p x hpi hix
      obtain ⟨g0, g1, g2⟩ := flatSV_get hpi
      refine ⟨p.2.a1, p.2.l1, p.2.c1, p.2.a2, p.2.l2, p.2.c2, ⟨?_, ?_, ?_⟩, h2, h3⟩
      · rw [Nat.zero_add, hat _ (by omega), g0, h1]
      · rw [Nat.zero_add, hat _ (by omega), g1]
      · rw [Nat.zero_add, hat _ (by omega), g2]
    · rw [List.getElem?_map, Option.map_eq_some_iff] at hu
      obtain ⟨p, hpi, rfl⟩ := hu
      have hi : i < l.length := (List.getElem?_eq_some_iff.1 hpi).1
      obtain ⟨g0, g1, g2⟩ := flatSV_get hpi
      exact ⟨by rw [hat _ (by omega), g1], by rw [hat _ (by omega), g2]⟩
    · by_cases h0 : l.length = 0
      · simp [rowSn, h0] at hb
      · rw [rowSn_pos h0] at hb
        cases hb
        exact ⟨rfl, hB⟩

theorem own_upB {W W' : World} {B : Nat} {e : TypeId} {size n : Nat} {v : Value} {xs : List Value} (h : W.ownsRow B e size v n xs) (hb : ∀ b, v.ownBlock = some b → W'.heap[b]? = W.heap[b]?) : W'.ownsRow B e size v n xs := by
  rcases h with ⟨hl, h | ⟨g, cap, cur, rfl, hB, hblk, r⟩⟩
  · exact ⟨hl, Or.inl h⟩
  · exact ⟨hl, Or.inr ⟨g, cap, cur, rfl, hB, (hb g rfl).trans hblk, r⟩⟩

theorem own_bel {W W' : World} {B : Nat} {e : TypeId} {size n : Nat} {v : Value} {xs : List Value} (h : W.ownsRow B e size v n xs) (hb : Below W.heap.size W W') : W'.ownsRow B e size v n xs := own_upB h (fun b hv => hb.block b (h.lt b hv).2)
end Go.Proofs.Ytabphkmhafflbaa
