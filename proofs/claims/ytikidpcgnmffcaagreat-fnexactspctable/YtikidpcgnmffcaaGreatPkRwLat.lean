/- Laid together: what the claim needs of the texts that were built one by one. -/
import Derived.Test.YtikidpcgnmffcaaGreatPkBase
import Derived.Deep.Slices
import Derived.Lib.SmallJoins
import Derived.OwnWalk
import Derived.WalkSpells
import Derived.Deep.RegionHeld3
namespace Go.Proofs.YtikidpcgnmffcaaGreat
open Go.ChangeShapes Go.WideShapes Go.ChangeAt Go.RowKit
set_option linter.unusedVariables false

/-- A row of 7 numbers. -/
structure LpR where
  kd : Int
  tm : Int
  ke : Int
  va : Int
  nn : Int
  st : Int
  en : Int

/-- A row lies in its cells; rows lie one behind the other; a slice's value holds rows. -/
def LpRAt (W : World) (g o : Nat) (x : LpR) : Prop := W.cell? ⟨g, o, none⟩ = some (.int .i64 x.kd) ∧ W.cell? ⟨g, o + 1, none⟩ = some (.int .i64 x.tm) ∧ W.cell? ⟨g, o + 2, none⟩ = some (.int .i64 x.ke) ∧ W.cell? ⟨g, o + 3, none⟩ = some (.int .i64 x.va) ∧ W.cell? ⟨g, o + 4, none⟩ = some (.int .i64 x.nn) ∧ W.cell? ⟨g, o + 5, none⟩ = some (.int .i64 x.st) ∧ W.cell? ⟨g, o + 6, none⟩ = some (.int .i64 x.en)

def LpRsAt (W : World) (g o : Nat) (xs : List LpR) : Prop := ∀ i x, xs[i]? = some x → LpRAt W g (o + i * 7) x

def LpRs (W : World) (a : Option Addr) (len : Nat) (xs : List LpR) : Prop := xs.length = len ∧ len ≤ maxLen ∧ (len = 0 ∨ ∃ g o, a = some ⟨g, o, none⟩ ∧ LpRsAt W g o xs)

theorem LpRAt.lt {W : World} {g o : Nat} {x : LpR} (h : LpRAt W g o x) : g < W.heap.size := by
  obtain ⟨h0, _⟩ := h
  rcases Nat.lt_or_ge g W.heap.size with hl | hg
  · exact hl
  · simp [World.cell?, Array.getElem?_eq_none hg] at h0

theorem LpRsAt.lt {W : World} {g o : Nat} {xs : List LpR} (h : LpRsAt W g o xs) (hp : 0 < xs.length) : g < W.heap.size := (h 0 xs[0] (List.getElem?_eq_getElem hp)).lt

theorem LpRAt.below {W W' : World} {B g o : Nat} {x : LpR} (h : LpRAt W g o x) (hb : Below B W W') (hg : g < B) : LpRAt W' g o x := by
  obtain ⟨h0, h1, h2, h3, h4, h5, h6⟩ := h
  exact ⟨(hb.cell (p := ⟨g, _, none⟩) hg).trans h0, (hb.cell (p := ⟨g, _, none⟩) hg).trans h1, (hb.cell (p := ⟨g, _, none⟩) hg).trans h2, (hb.cell (p := ⟨g, _, none⟩) hg).trans h3, (hb.cell (p := ⟨g, _, none⟩) hg).trans h4, (hb.cell (p := ⟨g, _, none⟩) hg).trans h5, (hb.cell (p := ⟨g, _, none⟩) hg).trans h6⟩

theorem LpRsAt.below {W W' : World} {B g o : Nat} {xs : List LpR} (h : LpRsAt W g o xs) (hb : Below B W W') (hg : 0 < xs.length → g < B) : LpRsAt W' g o xs := by
  intro i x hx
  have hlt : i < xs.length := (List.getElem?_eq_some_iff.1 hx).1
  exact (h i x hx).below hb (hg (by omega))

theorem LpRs.below {W W' : World} {a : Option Addr} {len : Nat} {xs : List LpR} (h : LpRs W a len xs) (hb : Below W.heap.size W W') : LpRs W' a len xs := by
  obtain ⟨h1, h2, h3⟩ := h
  refine ⟨h1, h2, ?_⟩
  rcases h3 with h3 | ⟨g, o, ha, hr⟩
  · exact Or.inl h3
  · exact Or.inr ⟨g, o, ha, hr.below hb (fun hp => hr.lt hp)⟩

theorem LpRAt.grown {W W' : World} {row : Option Nat} {g o : Nat} {x : LpR} (h : LpRAt W g o x) (hg : W.grownBy W' row) (hne : some g ≠ row) : LpRAt W' g o x := by
  have hbk := hg.block g h.lt hne
  obtain ⟨h0, h1, h2, h3, h4, h5, h6⟩ := h
  exact ⟨(World.cell?_of_block (w := W) hbk).trans h0, (World.cell?_of_block (w := W) hbk).trans h1, (World.cell?_of_block (w := W) hbk).trans h2, (World.cell?_of_block (w := W) hbk).trans h3, (World.cell?_of_block (w := W) hbk).trans h4, (World.cell?_of_block (w := W) hbk).trans h5, (World.cell?_of_block (w := W) hbk).trans h6⟩

theorem LpRs.grown {W W' : World} {row : Option Nat} {a : Option Addr} {n : Nat} {xs : List LpR} (h : LpRs W a n xs) (hg : W.grownBy W' row) (hne : ∀ g o, 0 < n → a = some ⟨g, o, none⟩ → some g ≠ row) : LpRs W' a n xs := by
  obtain ⟨h1, h2, h3⟩ := h
  refine ⟨h1, h2, ?_⟩
  rcases h3 with h3 | ⟨g, o, ha, hr⟩
  · exact Or.inl h3
  · refine Or.inr ⟨g, o, ha, fun i x hx => (hr i x hx).grown hg (hne g o ?_ ha)⟩
    have hlt : i < xs.length := (List.getElem?_eq_some_iff.1 hx).1
    omega

theorem LpRs.lt {W : World} {g o n : Nat} {xs : List LpR} (h : LpRs W (some ⟨g, o, none⟩) n xs) (hp : 0 < n) : g < W.heap.size := by
  obtain ⟨h1, h2, h3⟩ := h
  obtain ⟨g', o', ha, hr⟩ := h3.resolve_left (by omega)
  simp at ha
  have := hr.lt (by omega)
  omega

/-- A row is stored; a block of rows, known whole. -/
def setLp (W : World) (g o : Nat) (x : LpR) : World := (((((((W.setCell ⟨g, o, none⟩ (.int .i64 x.kd)).setCell ⟨g, o + 1, none⟩ (.int .i64 x.tm)).setCell ⟨g, o + 2, none⟩ (.int .i64 x.ke)).setCell ⟨g, o + 3, none⟩ (.int .i64 x.va)).setCell ⟨g, o + 4, none⟩ (.int .i64 x.nn)).setCell ⟨g, o + 5, none⟩ (.int .i64 x.st)).setCell ⟨g, o + 6, none⟩ (.int .i64 x.en))

def BlkLp (W : World) (g ty len : Nat) : Prop := ∃ cur, W.heap[g]? = some (.cells cur ty (0, 0)) ∧ cur.size = len * 7

theorem BlkLp.set {W : World} {g ty len i : Nat} (h : BlkLp W g ty len) (v : Value) : BlkLp (W.setCell ⟨g, i, none⟩ v) g ty len := by
  obtain ⟨cur, h1, h2⟩ := h
  exact ⟨_, Joins.block_setCell h1 v, by simp [h2]⟩

theorem BlkLp.below {W W' : World} {g ty len B : Nat} (h : BlkLp W g ty len) (hb : Below B W W') (hg : g < B) : BlkLp W' g ty len := by
  obtain ⟨cur, h1, h2⟩ := h
  exact ⟨cur, (hb.block g hg).trans h1, h2⟩

theorem BlkLp.lt {W : World} {g ty len : Nat} (h : BlkLp W g ty len) : g < W.heap.size := by
  obtain ⟨cur, h1, h2⟩ := h
  exact (Array.getElem?_eq_some_iff.1 h1).1

theorem BlkLp.cell {W : World} {g ty len i : Nat} (h : BlkLp W g ty len) (hi : i < len * 7) : ∃ u, W.cell? ⟨g, i, none⟩ = some u := by
  obtain ⟨cur, h1, h2⟩ := h
  exact ⟨_, (Joins.cell_of_block h1 i).trans (Array.getElem?_eq_getElem (by omega))⟩

theorem BlkLp.frozen {W : World} {g ty len i : Nat} (h : BlkLp W g ty len) : W.frozen? ⟨g, i, none⟩ = false := by
  obtain ⟨cur, h1, h2⟩ := h
  exact Joins.unfrozen_of_block h1 i

theorem BlkLp.cells {W : World} {g ty len k : Nat} (h : BlkLp W g ty len) (hk : k < len) : (∃ u, W.cell? ⟨g, k * 7, none⟩ = some u) ∧ (∃ u, W.cell? ⟨g, k * 7 + 1, none⟩ = some u) ∧ (∃ u, W.cell? ⟨g, k * 7 + 2, none⟩ = some u) ∧ (∃ u, W.cell? ⟨g, k * 7 + 3, none⟩ = some u) ∧ (∃ u, W.cell? ⟨g, k * 7 + 4, none⟩ = some u) ∧ (∃ u, W.cell? ⟨g, k * 7 + 5, none⟩ = some u) ∧ (∃ u, W.cell? ⟨g, k * 7 + 6, none⟩ = some u) := ⟨h.cell (by omega), h.cell (by omega), h.cell (by omega), h.cell (by omega), h.cell (by omega), h.cell (by omega), h.cell (by omega)⟩

theorem BlkLp.sets {W : World} {g ty len o : Nat} (h : BlkLp W g ty len) (x : LpR) : BlkLp (setLp W g o x) g ty len := (((((((h.set _).set _).set _).set _).set _).set _).set _)

theorem Lp_other {W : World} {g i j : Nat} {v : Value} (h : i ≠ j) : (W.setCell ⟨g, i, none⟩ v).cell? ⟨g, j, none⟩ = W.cell? ⟨g, j, none⟩ := World.cell?_setCell_other _ _ _ _ (by intro e; injection e with e1 e2; exact h e2)

theorem Lp_this {W : World} {g ty len i : Nat} {v : Value} (h : BlkLp W g ty len) (hi : i < len * 7) : (W.setCell ⟨g, i, none⟩ v).cell? ⟨g, i, none⟩ = some v := by
  obtain ⟨u, hu⟩ := h.cell hi
  exact World.cell?_setCell_same _ _ _ hu

theorem setLp_this {W : World} {g ty len k : Nat} (h : BlkLp W g ty len) (hk : k < len) (x : LpR) : LpRAt (setLp W g (k * 7) x) g (k * 7) x := by
  unfold setLp
  refine ⟨?_, ?_, ?_, ?_, ?_, ?_, ?_⟩
  · rw [Lp_other (by omega), Lp_other (by omega), Lp_other (by omega), Lp_other (by omega), Lp_other (by omega), Lp_other (by omega), Lp_this h (by omega)]
  · rw [Lp_other (by omega), Lp_other (by omega), Lp_other (by omega), Lp_other (by omega), Lp_other (by omega), Lp_this (h.set _) (by omega)]
  · rw [Lp_other (by omega), Lp_other (by omega), Lp_other (by omega), Lp_other (by omega), Lp_this ((h.set _).set _) (by omega)]
  · rw [Lp_other (by omega), Lp_other (by omega), Lp_other (by omega), Lp_this (((h.set _).set _).set _) (by omega)]
  · rw [Lp_other (by omega), Lp_other (by omega), Lp_this ((((h.set _).set _).set _).set _) (by omega)]
  · rw [Lp_other (by omega), Lp_this (((((h.set _).set _).set _).set _).set _) (by omega)]
  · rw [Lp_this ((((((h.set _).set _).set _).set _).set _).set _) (by omega)]

theorem setLp_ne {W : World} {g i k : Nat} {x y : LpR} (h : LpRAt W g (i * 7) y) (hk : i ≠ k) : LpRAt (setLp W g (k * 7) x) g (i * 7) y := by
  unfold setLp
  obtain ⟨h0, h1, h2, h3, h4, h5, h6⟩ := h
  refine ⟨?_, ?_, ?_, ?_, ?_, ?_, ?_⟩
  · rw [Lp_other (by omega), Lp_other (by omega), Lp_other (by omega), Lp_other (by omega), Lp_other (by omega), Lp_other (by omega), Lp_other (by omega)]; exact h0
  · rw [Lp_other (by omega), Lp_other (by omega), Lp_other (by omega), Lp_other (by omega), Lp_other (by omega), Lp_other (by omega), Lp_other (by omega)]; exact h1
  · rw [Lp_other (by omega), Lp_other (by omega), Lp_other (by omega), Lp_other (by omega), Lp_other (by omega), Lp_other (by omega), Lp_other (by omega)]; exact h2
  · rw [Lp_other (by omega), Lp_other (by omega), Lp_other (by omega), Lp_other (by omega), Lp_other (by omega), Lp_other (by omega), Lp_other (by omega)]; exact h3
  · rw [Lp_other (by omega), Lp_other (by omega), Lp_other (by omega), Lp_other (by omega), Lp_other (by omega), Lp_other (by omega), Lp_other (by omega)]; exact h4
  · rw [Lp_other (by omega), Lp_other (by omega), Lp_other (by omega), Lp_other (by omega), Lp_other (by omega), Lp_other (by omega), Lp_other (by omega)]; exact h5
  · rw [Lp_other (by omega), Lp_other (by omega), Lp_other (by omega), Lp_other (by omega), Lp_other (by omega), Lp_other (by omega), Lp_other (by omega)]; exact h6

/-- The cells of rows; a slice of the call's own that holds rows. -/
def LpR.cells (x : LpR) : List Value := [.int .i64 x.kd, .int .i64 x.tm, .int .i64 x.ke, .int .i64 x.va, .int .i64 x.nn, .int .i64 x.st, .int .i64 x.en]

def flatLp (xs : List LpR) : List Value := xs.flatMap LpR.cells

theorem flatLp_snoc (xs : List LpR) (x : LpR) : flatLp (xs ++ [x]) = flatLp xs ++ x.cells := by simp [flatLp]

theorem flatLp_get {xs : List LpR} {i : Nat} {x : LpR} (h : xs[i]? = some x) : (flatLp xs)[i * 7]? = some (.int .i64 x.kd) ∧ (flatLp xs)[i * 7 + 1]? = some (.int .i64 x.tm) ∧ (flatLp xs)[i * 7 + 2]? = some (.int .i64 x.ke) ∧ (flatLp xs)[i * 7 + 3]? = some (.int .i64 x.va) ∧ (flatLp xs)[i * 7 + 4]? = some (.int .i64 x.nn) ∧ (flatLp xs)[i * 7 + 5]? = some (.int .i64 x.st) ∧ (flatLp xs)[i * 7 + 6]? = some (.int .i64 x.en) := by
  induction xs generalizing i with
  | nil => simp at h
  | cons y r ih =>
    have hf : flatLp (y :: r) = y.cells ++ flatLp r := rfl
    cases i with
    | zero =>
      simp at h
      subst h
      rw [hf]
      exact ⟨rfl, rfl, rfl, rfl, rfl, rfl, rfl⟩
    | succ i =>
      simp at h
      obtain ⟨h0, h1, h2, h3, h4, h5, h6⟩ := ih h
      have hl : y.cells.length = 7 := rfl
      rw [hf]
      refine ⟨?_, ?_, ?_, ?_, ?_, ?_, ?_⟩
      · rw [List.getElem?_append_right (by omega), hl, show (i + 1) * 7 - 7 = i * 7 by omega]; exact h0
      · rw [List.getElem?_append_right (by omega), hl, show (i + 1) * 7 + 1 - 7 = i * 7 + 1 by omega]; exact h1
      · rw [List.getElem?_append_right (by omega), hl, show (i + 1) * 7 + 2 - 7 = i * 7 + 2 by omega]; exact h2
      · rw [List.getElem?_append_right (by omega), hl, show (i + 1) * 7 + 3 - 7 = i * 7 + 3 by omega]; exact h3
      · rw [List.getElem?_append_right (by omega), hl, show (i + 1) * 7 + 4 - 7 = i * 7 + 4 by omega]; exact h4
      · rw [List.getElem?_append_right (by omega), hl, show (i + 1) * 7 + 5 - 7 = i * 7 + 5 by omega]; exact h5
      · rw [List.getElem?_append_right (by omega), hl, show (i + 1) * 7 + 6 - 7 = i * 7 + 6 by omega]; exact h6

def OwnLp (W : World) (B : Nat) (v : Value) (ys : List LpR) : Prop := W.ownsRow B 44 7 v ys.length (flatLp ys)

theorem ownLp_ge {W : World} {B : Nat} {v : Value} {ys : List LpR} (h : OwnLp W B v ys) : ∀ k, v.ownBlock = some k → B ≤ k := by
  intro k hk
  rcases h.2 with ⟨rfl, _⟩ | ⟨g, cap, cur, rfl, hg, _⟩
  · cases hk
  · simp [Value.ownBlock] at hk; omega

theorem ownLp_snoc {w1 : World} {B : Nat} {v' : Value} {ys : List LpR} {x : LpR} (ho : w1.ownsRow B 44 7 v' (ys.length + 1) (flatLp ys ++ x.cells)) : OwnLp w1 B v' (ys ++ [x]) := by
  unfold OwnLp
  rw [flatLp_snoc]
  simpa using ho

theorem cells_newLp (w : World) (kd tm ke va nn st en : Int) (ty : Nat) : ∀ j u, ([.int .i64 kd, .int .i64 tm, .int .i64 ke, .int .i64 va, .int .i64 nn, .int .i64 st, .int .i64 en] : List Value)[j]? = some u → (w.alloc (.cells #[.int .i64 kd, .int .i64 tm, .int .i64 ke, .int .i64 va, .int .i64 nn, .int .i64 st, .int .i64 en] ty)).cell? ((⟨w.heap.size, 0, none⟩ : Addr).add j) = some u := by
  intro j u hj
  have e : ((⟨w.heap.size, 0, none⟩ : Addr).add j) = ⟨w.heap.size, j, none⟩ := by
    unfold Addr.add
    split
    · rename_i h0; rw [h0]
    · simp
  rw [e]
  simpa [go_sem] using hj

theorem cells_atLp (w : World) (kd tm ke va nn st en : Int) (ty : Nat) {g : Nat} (hg : g = w.heap.size) : ∀ j u, ([.int .i64 kd, .int .i64 tm, .int .i64 ke, .int .i64 va, .int .i64 nn, .int .i64 st, .int .i64 en] : List Value)[j]? = some u → (w.alloc (.cells #[.int .i64 kd, .int .i64 tm, .int .i64 ke, .int .i64 va, .int .i64 nn, .int .i64 st, .int .i64 en] ty)).cell? ((⟨g, 0, none⟩ : Addr).add j) = some u := by
  subst hg
  exact cells_newLp w kd tm ke va nn st en ty

def markLp (i : Nat) : LpR := ⟨1 + 7 * (i : Int), 1 + 7 * (i : Int) + 1, 1 + 7 * (i : Int) + 1 + 1, 1 + 7 * (i : Int) + 1 + 1 + 1, 1 + 7 * (i : Int) + 1 + 1 + 1 + 1, 1 + 7 * (i : Int) + 1 + 1 + 1 + 1 + 1, 1 + 7 * (i : Int) + 1 + 1 + 1 + 1 + 1 + 1⟩

def WrLp (W : World) (a : Option Addr) (n cap : Nat) : Prop := n = 0 ∨ ∃ g, a = some ⟨g, 0, none⟩ ∧ BlkLp W g 44 cap ∧ n ≤ cap

def MarkedLp (W : World) (a : Option Addr) (n : Nat) : Prop := n = 0 ∨ ∃ g, a = some ⟨g, 0, none⟩ ∧ ∀ i, i < n → LpRAt W g (i * 7) (markLp i)

theorem MarkedLp.below {W W' : World} {a : Option Addr} {n : Nat} (h : MarkedLp W a n) (hb : Below W.heap.size W W') : MarkedLp W' a n := by
  rcases h with h | ⟨g, ha, hM⟩
  · exact Or.inl h
  · exact Or.inr ⟨g, ha, fun i hi => (hM i hi).below hb (hM i hi).lt⟩

theorem holdLp {W : World} {B : Nat} {v : Value} {ys : List LpR} (h : OwnLp W B v ys) (hl : ys.length ≤ 1048576) :
    ∃ a cap, v = .slice a ys.length cap ∧ LpRs W a ys.length ys ∧ WrLp W a ys.length cap ∧ ∀ g o, 0 < ys.length → a = some ⟨g, o, none⟩ → B ≤ g := by
  have hm : ys.length ≤ maxLen := by unfold maxLen; omega
  obtain ⟨hlen, h | ⟨g, cap, cur, rfl, hB, hblk, hnc, hcm, hsz, htk⟩⟩ := h
  · obtain ⟨rfl, h0⟩ := h
    rw [h0]
    exact ⟨none, 0, rfl, ⟨h0, Nat.zero_le _, Or.inl rfl⟩, Or.inl rfl, fun _ _ hp => by omega⟩
  · refine ⟨_, cap, rfl, ⟨rfl, hm, Or.inr ⟨g, 0, rfl, ?_⟩⟩, Or.inr ⟨g, rfl, ⟨cur, hblk, hsz⟩, hnc⟩, fun g' o' _ e => by simp at e; omega⟩
    intro i x hx
    have hi : i < ys.length := (List.getElem?_eq_some_iff.1 hx).1
    have hcell : ∀ j u, j < ys.length * 7 → (flatLp ys)[j]? = some u → W.cell? ⟨g, j, none⟩ = some u := by
      intro j u hj hu
      rw [Joins.cell_of_block hblk j, ← Array.getElem?_toList]
      rw [← htk, List.getElem?_take_of_lt hj] at hu
      exact hu
    obtain ⟨f0, f1, f2, f3, f4, f5, f6⟩ := flatLp_get hx
    rw [Nat.zero_add]
    exact ⟨hcell _ _ (by omega) f0, hcell _ _ (by omega) f1, hcell _ _ (by omega) f2, hcell _ _ (by omega) f3, hcell _ _ (by omega) f4, hcell _ _ (by omega) f5, hcell _ _ (by omega) f6⟩

theorem WrLp.below {W W' : World} {a : Option Addr} {n cap : Nat} (h : WrLp W a n cap) (hb : Below W.heap.size W W') : WrLp W' a n cap := by
  rcases h with h | ⟨g, ha, hB, hc⟩
  · exact Or.inl h
  · exact Or.inr ⟨g, ha, hB.below hb hB.lt, hc⟩

theorem WrLp.grown {W W' : World} {row : Option Nat} {a : Option Addr} {n cap : Nat} (h : WrLp W a n cap) (hg : W.grownBy W' row) (hne : ∀ g o, 0 < n → a = some ⟨g, o, none⟩ → some g ≠ row) : WrLp W' a n cap := by
  rcases h with h | ⟨g, ha, hB, hc⟩
  · exact Or.inl h
  · by_cases h0 : n = 0
    · exact Or.inl h0
    · obtain ⟨cur, c1, c2⟩ := hB
      exact Or.inr ⟨g, ha, ⟨cur, (hg.block g (Array.getElem?_eq_some_iff.1 c1).1 (hne g 0 (by omega) ha)).trans c1, c2⟩, hc⟩

theorem WrLp.shape {W : World} {a : Option Addr} {n cap : Nat} (h : WrLp W a n cap) : n = 0 ∨ ∃ g', a = some ⟨g', 0, none⟩ := by
  rcases h with h | ⟨g, ha, _⟩
  · exact Or.inl h
  · exact Or.inr ⟨g, ha⟩
end Go.Proofs.YtikidpcgnmffcaaGreat
