/- Laid together: what the claim needs of the texts that were built one by one. -/
import Derived.Test.YtikidpcgnmffcaaGreatPkBase
import Derived.Deep.Slices
import Derived.Lib.SmallJoins
import Derived.OwnWalk
import Derived.WalkSpells
import Derived.Deep.RegionHeld3
namespace Go.Proofs.YtikidpcgnmffcaaGreat
open Go.ChangeShapes Go.WideShapes Go.ChangeAt Go.RowKit
set_option linter.unusedVariables false

/-- A row of 2 numbers. -/
structure WnR where
  a : Int
  b : Int

/-- A row lies in its cells; rows lie one behind the other; a slice's value holds rows. -/
def WnRAt (W : World) (g o : Nat) (x : WnR) : Prop := W.cell? ⟨g, o, none⟩ = some (.int .i64 x.a) ∧ W.cell? ⟨g, o + 1, none⟩ = some (.int .i64 x.b)

def WnRsAt (W : World) (g o : Nat) (xs : List WnR) : Prop := ∀ i x, xs[i]? = some x → WnRAt W g (o + i * 2) x

def WnRs (W : World) (a : Option Addr) (len : Nat) (xs : List WnR) : Prop := xs.length = len ∧ len ≤ maxLen ∧ (len = 0 ∨ ∃ g o, a = some ⟨g, o, none⟩ ∧ WnRsAt W g o xs)

theorem WnRAt.lt {W : World} {g o : Nat} {x : WnR} (h : WnRAt W g o x) : g < W.heap.size := by
  obtain ⟨h0, _⟩ := h
  rcases Nat.lt_or_ge g W.heap.size with hl | hg
  · exact hl
  · simp [World.cell?, Array.getElem?_eq_none hg] at h0

theorem WnRsAt.lt {W : World} {g o : Nat} {xs : List WnR} (h : WnRsAt W g o xs) (hp : 0 < xs.length) : g < W.heap.size := (h 0 xs[0] (List.getElem?_eq_getElem hp)).lt

theorem WnRAt.below {W W' : World} {B g o : Nat} {x : WnR} (h : WnRAt W g o x) (hb : Below B W W') (hg : g < B) : WnRAt W' g o x := by
  obtain ⟨h0, h1⟩ := h
  exact ⟨(hb.cell (p := ⟨g, _, none⟩) hg).trans h0, (hb.cell (p := ⟨g, _, none⟩) hg).trans h1⟩

theorem WnRsAt.below {W W' : World} {B g o : Nat} {xs : List WnR} (h : WnRsAt W g o xs) (hb : Below B W W') (hg : 0 < xs.length → g < B) : WnRsAt W' g o xs := by
  intro i x hx
  have hlt : i < xs.length := (List.getElem?_eq_some_iff.1 hx).1
  exact (h i x hx).below hb (hg (by omega))

theorem WnRs.below {W W' : World} {a : Option Addr} {len : Nat} {xs : List WnR} (h : WnRs W a len xs) (hb : Below W.heap.size W W') : WnRs W' a len xs := by
  obtain ⟨h1, h2, h3⟩ := h
  refine ⟨h1, h2, ?_⟩
  rcases h3 with h3 | ⟨g, o, ha, hr⟩
  · exact Or.inl h3
  · exact Or.inr ⟨g, o, ha, hr.below hb (fun hp => hr.lt hp)⟩

theorem WnRAt.grown {W W' : World} {row : Option Nat} {g o : Nat} {x : WnR} (h : WnRAt W g o x) (hg : W.grownBy W' row) (hne : some g ≠ row) : WnRAt W' g o x := by
  have hbk := hg.block g h.lt hne
  obtain ⟨h0, h1⟩ := h
  exact ⟨(World.cell?_of_block (w := W) hbk).trans h0, (World.cell?_of_block (w := W) hbk).trans h1⟩

theorem WnRs.grown {W W' : World} {row : Option Nat} {a : Option Addr} {n : Nat} {xs : List WnR} (h : WnRs W a n xs) (hg : W.grownBy W' row) (hne : ∀ g o, 0 < n → a = some ⟨g, o, none⟩ → some g ≠ row) : WnRs W' a n xs := by
  obtain ⟨h1, h2, h3⟩ := h
  refine ⟨h1, h2, ?_⟩
  rcases h3 with h3 | ⟨g, o, ha, hr⟩
  · exact Or.inl h3
  · refine Or.inr ⟨g, o, ha, fun i x hx => (hr i x hx).grown hg (hne g o ?_ ha)⟩
    have hlt : i < xs.length := (List.getElem?_eq_some_iff.1 hx).1
    omega

theorem WnRs.lt {W : World} {g o n : Nat} {xs : List WnR} (h : WnRs W (some ⟨g, o, none⟩) n xs) (hp : 0 < n) : g < W.heap.size := by
  obtain ⟨h1, h2, h3⟩ := h
  obtain ⟨g', o', ha, hr⟩ := h3.resolve_left (by omega)
  simp at ha
  have := hr.lt (by omega)
  omega

/-- A row is stored; a block of rows, known whole. -/
def setWn (W : World) (g o : Nat) (x : WnR) : World := ((W.setCell ⟨g, o, none⟩ (.int .i64 x.a)).setCell ⟨g, o + 1, none⟩ (.int .i64 x.b))

def BlkWn (W : World) (g ty len : Nat) : Prop := ∃ cur, W.heap[g]? = some (.cells cur ty (0, 0)) ∧ cur.size = len * 2

theorem BlkWn.set {W : World} {g ty len i : Nat} (h : BlkWn W g ty len) (v : Value) : BlkWn (W.setCell ⟨g, i, none⟩ v) g ty len := by
  obtain ⟨cur, h1, h2⟩ := h
  exact ⟨_, Joins.block_setCell h1 v, by simp [h2]⟩

theorem BlkWn.below {W W' : World} {g ty len B : Nat} (h : BlkWn W g ty len) (hb : Below B W W') (hg : g < B) : BlkWn W' g ty len := by
  obtain ⟨cur, h1, h2⟩ := h
  exact ⟨cur, (hb.block g hg).trans h1, h2⟩

theorem BlkWn.lt {W : World} {g ty len : Nat} (h : BlkWn W g ty len) : g < W.heap.size := by
  obtain ⟨cur, h1, h2⟩ := h
  exact (Array.getElem?_eq_some_iff.1 h1).1

theorem BlkWn.cell {W : World} {g ty len i : Nat} (h : BlkWn W g ty len) (hi : i < len * 2) : ∃ u, W.cell? ⟨g, i, none⟩ = some u := by
  obtain ⟨cur, h1, h2⟩ := h
  exact ⟨_, (Joins.cell_of_block h1 i).trans (Array.getElem?_eq_getElem (by omega))⟩

theorem BlkWn.frozen {W : World} {g ty len i : Nat} (h : BlkWn W g ty len) : W.frozen? ⟨g, i, none⟩ = false := by
  obtain ⟨cur, h1, h2⟩ := h
  exact Joins.unfrozen_of_block h1 i

theorem BlkWn.cells {W : World} {g ty len k : Nat} (h : BlkWn W g ty len) (hk : k < len) : (∃ u, W.cell? ⟨g, k * 2, none⟩ = some u) ∧ (∃ u, W.cell? ⟨g, k * 2 + 1, none⟩ = some u) := ⟨h.cell (by omega), h.cell (by omega)⟩

theorem BlkWn.sets {W : World} {g ty len o : Nat} (h : BlkWn W g ty len) (x : WnR) : BlkWn (setWn W g o x) g ty len := ((h.set _).set _)

/-- The cells of rows; a slice of the call's own that holds rows. -/
def WnR.cells (x : WnR) : List Value := [.int .i64 x.a, .int .i64 x.b]

def flatWn (xs : List WnR) : List Value := xs.flatMap WnR.cells

theorem flatWn_snoc (xs : List WnR) (x : WnR) : flatWn (xs ++ [x]) = flatWn xs ++ x.cells := by simp [flatWn]

theorem flatWn_get {xs : List WnR} {i : Nat} {x : WnR} (h : xs[i]? = some x) : (flatWn xs)[i * 2]? = some (.int .i64 x.a) ∧ (flatWn xs)[i * 2 + 1]? = some (.int .i64 x.b) := by
  induction xs generalizing i with
  | nil => simp at h
  | cons y r ih =>
    have hf : flatWn (y :: r) = y.cells ++ flatWn r := rfl
    cases i with
    | zero =>
      simp at h
      subst h
      rw [hf]
      exact ⟨rfl, rfl⟩
    | succ i =>
      simp at h
      obtain ⟨h0, h1⟩ := ih h
      have hl : y.cells.length = 2 := rfl
      rw [hf]
      refine ⟨?_, ?_⟩
      · rw [List.getElem?_append_right (by omega), hl, show (i + 1) * 2 - 2 = i * 2 by omega]; exact h0
      · rw [List.getElem?_append_right (by omega), hl, show (i + 1) * 2 + 1 - 2 = i * 2 + 1 by omega]; exact h1

def OwnWn (W : World) (B : Nat) (v : Value) (ys : List WnR) : Prop := W.ownsRow B 42 2 v ys.length (flatWn ys)

theorem ownWn_ge {W : World} {B : Nat} {v : Value} {ys : List WnR} (h : OwnWn W B v ys) : ∀ k, v.ownBlock = some k → B ≤ k := by
  intro k hk
  rcases h.2 with ⟨rfl, _⟩ | ⟨g, cap, cur, rfl, hg, _⟩
  · cases hk
  · simp [Value.ownBlock] at hk; omega

theorem ownWn_snoc {w1 : World} {B : Nat} {v' : Value} {ys : List WnR} {x : WnR} (ho : w1.ownsRow B 42 2 v' (ys.length + 1) (flatWn ys ++ x.cells)) : OwnWn w1 B v' (ys ++ [x]) := by
  unfold OwnWn
  rw [flatWn_snoc]
  simpa using ho

theorem cells_newWn (w : World) (a b : Int) (ty : Nat) : ∀ j u, ([.int .i64 a, .int .i64 b] : List Value)[j]? = some u → (w.alloc (.cells #[.int .i64 a, .int .i64 b] ty)).cell? ((⟨w.heap.size, 0, none⟩ : Addr).add j) = some u := by
  intro j u hj
  have e : ((⟨w.heap.size, 0, none⟩ : Addr).add j) = ⟨w.heap.size, j, none⟩ := by
    unfold Addr.add
    split
    · rename_i h0; rw [h0]
    · simp
  rw [e]
  simpa [go_sem] using hj

theorem cells_atWn (w : World) (a b : Int) (ty : Nat) {g : Nat} (hg : g = w.heap.size) : ∀ j u, ([.int .i64 a, .int .i64 b] : List Value)[j]? = some u → (w.alloc (.cells #[.int .i64 a, .int .i64 b] ty)).cell? ((⟨g, 0, none⟩ : Addr).add j) = some u := by
  subst hg
  exact cells_newWn w a b ty

def markWn (i : Nat) : WnR := ⟨1 + 2 * (i : Int), 1 + 2 * (i : Int) + 1⟩

def WrWn (W : World) (a : Option Addr) (n cap : Nat) : Prop := n = 0 ∨ ∃ g, a = some ⟨g, 0, none⟩ ∧ BlkWn W g 42 cap ∧ n ≤ cap

def MarkedWn (W : World) (a : Option Addr) (n : Nat) : Prop := n = 0 ∨ ∃ g, a = some ⟨g, 0, none⟩ ∧ ∀ i, i < n → WnRAt W g (i * 2) (markWn i)

theorem grown0Wn {W W' : World} (h : Below W.heap.size W W') : W.grownBy W' none := ⟨h.os, h.tape, h.output, h.size, fun k hk _ => h.block k hk⟩

theorem MarkedWn.below {W W' : World} {a : Option Addr} {n : Nat} (h : MarkedWn W a n) (hb : Below W.heap.size W W') : MarkedWn W' a n := by
  rcases h with h | ⟨g, ha, hM⟩
  · exact Or.inl h
  · exact Or.inr ⟨g, ha, fun i hi => (hM i hi).below hb (hM i hi).lt⟩

theorem holdWn {W : World} {B : Nat} {v : Value} {ys : List WnR} (h : OwnWn W B v ys) (hl : ys.length ≤ 1048576) :
    ∃ a cap, v = .slice a ys.length cap ∧ WnRs W a ys.length ys ∧ WrWn W a ys.length cap ∧ ∀ g o, 0 < ys.length → a = some ⟨g, o, none⟩ → B ≤ g := by
  have hm : ys.length ≤ maxLen := by unfold maxLen; omega
  obtain ⟨hlen, h | ⟨g, cap, cur, rfl, hB, hblk, hnc, hcm, hsz, htk⟩⟩ := h
  · obtain ⟨rfl, h0⟩ := h
    rw [h0]
    exact ⟨none, 0, rfl, ⟨h0, Nat.zero_le _, Or.inl rfl⟩, Or.inl rfl, fun _ _ hp => by omega⟩
  · refine ⟨_, cap, rfl, ⟨rfl, hm, Or.inr ⟨g, 0, rfl, ?_⟩⟩, Or.inr ⟨g, rfl, ⟨cur, hblk, hsz⟩, hnc⟩, fun g' o' _ e => by simp at e; omega⟩
    intro i x hx
    have hi : i < ys.length := (List.getElem?_eq_some_iff.1 hx).1
    have hcell : ∀ j u, j < ys.length * 2 → (flatWn ys)[j]? = some u → W.cell? ⟨g, j, none⟩ = some u := by
      intro j u hj hu
      rw [Joins.cell_of_block hblk j, ← Array.getElem?_toList]
      rw [← htk, List.getElem?_take_of_lt hj] at hu
      exact hu
    obtain ⟨f0, f1⟩ := flatWn_get hx
    rw [Nat.zero_add]
    exact ⟨hcell _ _ (by omega) f0, hcell _ _ (by omega) f1⟩

theorem WrWn.below {W W' : World} {a : Option Addr} {n cap : Nat} (h : WrWn W a n cap) (hb : Below W.heap.size W W') : WrWn W' a n cap := by
  rcases h with h | ⟨g, ha, hB, hc⟩
  · exact Or.inl h
  · exact Or.inr ⟨g, ha, hB.below hb hB.lt, hc⟩

theorem WrWn.grown {W W' : World} {row : Option Nat} {a : Option Addr} {n cap : Nat} (h : WrWn W a n cap) (hg : W.grownBy W' row) (hne : ∀ g o, 0 < n → a = some ⟨g, o, none⟩ → some g ≠ row) : WrWn W' a n cap := by
  rcases h with h | ⟨g, ha, hB, hc⟩
  · exact Or.inl h
  · by_cases h0 : n = 0
    · exact Or.inl h0
    · obtain ⟨cur, c1, c2⟩ := hB
      exact Or.inr ⟨g, ha, ⟨cur, (hg.block g (Array.getElem?_eq_some_iff.1 c1).1 (hne g 0 (by omega) ha)).trans c1, c2⟩, hc⟩

theorem WrWn.shape {W : World} {a : Option Addr} {n cap : Nat} (h : WrWn W a n cap) : n = 0 ∨ ∃ g', a = some ⟨g', 0, none⟩ := by
  rcases h with h | ⟨g, ha, _⟩
  · exact Or.inl h
  · exact Or.inr ⟨g, ha⟩
end Go.Proofs.YtikidpcgnmffcaaGreat
