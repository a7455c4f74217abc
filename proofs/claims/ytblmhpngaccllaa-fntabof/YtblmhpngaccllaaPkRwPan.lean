/- Laid together: what the claim needs of the texts that were built one by one. -/
import Derived.Test.YtblmhpngaccllaaPkBase
import Derived.Test.YtblmhpngaccllaaRows
import Derived.Deep.Slices
import Derived.Lib.SmallJoins
import Derived.OwnWalk
import Derived.WalkSpells
import Derived.Deep.RegionHeld3
namespace Go.Proofs.Ytblmhpngaccllaa
open Go.ChangeShapes Go.WideShapes Go.ChangeAt Go.RowKit
set_option linter.unusedVariables false

/-- A row of 9 numbers. -/
structure PnR where
  ky : Int
  st : Int
  en : Int
  no : Int
  kd : Int
  n : Int
  su : Int
  le : Int
  mo : Int

/-- A row lies in its cells; rows lie one behind the other; a slice's value holds rows. -/
def PnRAt (W : World) (g o : Nat) (x : PnR) : Prop := W.cell? ⟨g, o, none⟩ = some (.int .i64 x.ky) ∧ W.cell? ⟨g, o + 1, none⟩ = some (.int .i64 x.st) ∧ W.cell? ⟨g, o + 2, none⟩ = some (.int .i64 x.en) ∧ W.cell? ⟨g, o + 3, none⟩ = some (.int .i64 x.no) ∧ W.cell? ⟨g, o + 4, none⟩ = some (.int .i64 x.kd) ∧ W.cell? ⟨g, o + 5, none⟩ = some (.int .i64 x.n) ∧ W.cell? ⟨g, o + 6, none⟩ = some (.int .i64 x.su) ∧ W.cell? ⟨g, o + 7, none⟩ = some (.int .i64 x.le) ∧ W.cell? ⟨g, o + 8, none⟩ = some (.int .i64 x.mo)

def PnRsAt (W : World) (g o : Nat) (xs : List PnR) : Prop := ∀ i x, xs[i]? = some x → PnRAt W g (o + i * 9) x

def PnRs (W : World) (a : Option Addr) (len : Nat) (xs : List PnR) : Prop := xs.length = len ∧ len ≤ maxLen ∧ (len = 0 ∨ ∃ g o, a = some ⟨g, o, none⟩ ∧ PnRsAt W g o xs)

theorem PnRAt.lt {W : World} {g o : Nat} {x : PnR} (h : PnRAt W g o x) : g < W.heap.size := by
  obtain ⟨h0, _⟩ := h
  rcases Nat.lt_or_ge g W.heap.size with hl | hg
  · exact hl
  · simp [World.cell?, Array.getElem?_eq_none hg] at h0

theorem PnRsAt.lt {W : World} {g o : Nat} {xs : List PnR} (h : PnRsAt W g o xs) (hp : 0 < xs.length) : g < W.heap.size := (h 0 xs[0] (List.getElem?_eq_getElem hp)).lt

theorem PnRAt.below {W W' : World} {B g o : Nat} {x : PnR} (h : PnRAt W g o x) (hb : Below B W W') (hg : g < B) : PnRAt W' g o x := by
  obtain ⟨h0, h1, h2, h3, h4, h5, h6, h7, h8⟩ := h
  exact ⟨(hb.cell (p := ⟨g, _, none⟩) hg).trans h0, (hb.cell (p := ⟨g, _, none⟩) hg).trans h1, (hb.cell (p := ⟨g, _, none⟩) hg).trans h2, (hb.cell (p := ⟨g, _, none⟩) hg).trans h3, (hb.cell (p := ⟨g, _, none⟩) hg).trans h4, (hb.cell (p := ⟨g, _, none⟩) hg).trans h5, (hb.cell (p := ⟨g, _, none⟩) hg).trans h6, (hb.cell (p := ⟨g, _, none⟩) hg).trans h7, (hb.cell (p := ⟨g, _, none⟩) hg).trans h8⟩

theorem PnRsAt.below {W W' : World} {B g o : Nat} {xs : List PnR} (h : PnRsAt W g o xs) (hb : Below B W W') (hg : 0 < xs.length → g < B) : PnRsAt W' g o xs := by
  intro i x hx
  have hlt : i < xs.length := (List.getElem?_eq_some_iff.1 hx).1
  exact (h i x hx).below hb (hg (by omega))

theorem PnRs.below {W W' : World} {a : Option Addr} {len : Nat} {xs : List PnR} (h : PnRs W a len xs) (hb : Below W.heap.size W W') : PnRs W' a len xs := by
  obtain ⟨h1, h2, h3⟩ := h
  refine ⟨h1, h2, ?_⟩
  rcases h3 with h3 | ⟨g, o, ha, hr⟩
  · exact Or.inl h3
  · exact Or.inr ⟨g, o, ha, hr.below hb (fun hp => hr.lt hp)⟩

theorem PnRAt.grown {W W' : World} {row : Option Nat} {g o : Nat} {x : PnR} (h : PnRAt W g o x) (hg : W.grownBy W' row) (hne : some g ≠ row) : PnRAt W' g o x := by
  have hbk := hg.block g h.lt hne
  obtain ⟨h0, h1, h2, h3, h4, h5, h6, h7, h8⟩ := h
  exact ⟨(World.cell?_of_block (w := W) hbk).trans h0, (World.cell?_of_block (w := W) hbk).trans h1, (World.cell?_of_block (w := W) hbk).trans h2, (World.cell?_of_block (w := W) hbk).trans h3, (World.cell?_of_block (w := W) hbk).trans h4, (World.cell?_of_block (w := W) hbk).trans h5, (World.cell?_of_block (w := W) hbk).trans h6, (World.cell?_of_block (w := W) hbk).trans h7, (World.cell?_of_block (w := W) hbk).trans h8⟩

theorem PnRs.grown {W W' : World} {row : Option Nat} {a : Option Addr} {n : Nat} {xs : List PnR} (h : PnRs W a n xs) (hg : W.grownBy W' row) (hne : ∀ g o, 0 < n → a = some ⟨g, o, none⟩ → some g ≠ row) : PnRs W' a n xs := by
  obtain ⟨h1, h2, h3⟩ := h
  refine ⟨h1, h2, ?_⟩
  rcases h3 with h3 | ⟨g, o, ha, hr⟩
  · exact Or.inl h3
  · refine Or.inr ⟨g, o, ha, fun i x hx => (hr i x hx).grown hg (hne g o ?_ ha)⟩
    have hlt : i < xs.length := (List.getElem?_eq_some_iff.1 hx).1
    omega

theorem PnRs.lt {W : World} {g o n : Nat} {xs : List PnR} (h : PnRs W (some ⟨g, o, none⟩) n xs) (hp : 0 < n) : g < W.heap.size := by
  obtain ⟨h1, h2, h3⟩ := h
  obtain ⟨g', o', ha, hr⟩ := h3.resolve_left (by omega)
  simp at ha
  have := hr.lt (by omega)
  omega

/-- A row is stored; a block of rows, known whole. -/
def setPn (W : World) (g o : Nat) (x : PnR) : World := (((((((((W.setCell ⟨g, o, none⟩ (.int .i64 x.ky)).setCell ⟨g, o + 1, none⟩ (.int .i64 x.st)).setCell ⟨g, o + 2, none⟩ (.int .i64 x.en)).setCell ⟨g, o + 3, none⟩ (.int .i64 x.no)).setCell ⟨g, o + 4, none⟩ (.int .i64 x.kd)).setCell ⟨g, o + 5, none⟩ (.int .i64 x.n)).setCell ⟨g, o + 6, none⟩ (.int .i64 x.su)).setCell ⟨g, o + 7, none⟩ (.int .i64 x.le)).setCell ⟨g, o + 8, none⟩ (.int .i64 x.mo))

def BlkPn (W : World) (g ty len : Nat) : Prop := ∃ cur, W.heap[g]? = some (.cells cur ty (0, 0)) ∧ cur.size = len * 9

theorem BlkPn.set {W : World} {g ty len i : Nat} (h : BlkPn W g ty len) (v : Value) : BlkPn (W.setCell ⟨g, i, none⟩ v) g ty len := by
  obtain ⟨cur, h1, h2⟩ := h
  exact ⟨_, Joins.block_setCell h1 v, by simp [h2]⟩

theorem BlkPn.below {W W' : World} {g ty len B : Nat} (h : BlkPn W g ty len) (hb : Below B W W') (hg : g < B) : BlkPn W' g ty len := by
  obtain ⟨cur, h1, h2⟩ := h
  exact ⟨cur, (hb.block g hg).trans h1, h2⟩

theorem BlkPn.lt {W : World} {g ty len : Nat} (h : BlkPn W g ty len) : g < W.heap.size := by
  obtain ⟨cur, h1, h2⟩ := h
  exact (Array.getElem?_eq_some_iff.1 h1).1

theorem BlkPn.cell {W : World} {g ty len i : Nat} (h : BlkPn W g ty len) (hi : i < len * 9) : ∃ u, W.cell? ⟨g, i, none⟩ = some u := by
  obtain ⟨cur, h1, h2⟩ := h
  exact ⟨_, (Joins.cell_of_block h1 i).trans (Array.getElem?_eq_getElem (by omega))⟩

theorem BlkPn.frozen {W : World} {g ty len i : Nat} (h : BlkPn W g ty len) : W.frozen? ⟨g, i, none⟩ = false := by
  obtain ⟨cur, h1, h2⟩ := h
  exact Joins.unfrozen_of_block h1 i

theorem BlkPn.cells {W : World} {g ty len k : Nat} (h : BlkPn W g ty len) (hk : k < len) : (∃ u, W.cell? ⟨g, k * 9, none⟩ = some u) ∧ (∃ u, W.cell? ⟨g, k * 9 + 1, none⟩ = some u) ∧ (∃ u, W.cell? ⟨g, k * 9 + 2, none⟩ = some u) ∧ (∃ u, W.cell? ⟨g, k * 9 + 3, none⟩ = some u) ∧ (∃ u, W.cell? ⟨g, k * 9 + 4, none⟩ = some u) ∧ (∃ u, W.cell? ⟨g, k * 9 + 5, none⟩ = some u) ∧ (∃ u, W.cell? ⟨g, k * 9 + 6, none⟩ = some u) ∧ (∃ u, W.cell? ⟨g, k * 9 + 7, none⟩ = some u) ∧ (∃ u, W.cell? ⟨g, k * 9 + 8, none⟩ = some u) := ⟨h.cell (by omega), h.cell (by omega), h.cell (by omega), h.cell (by omega), h.cell (by omega), h.cell (by omega), h.cell (by omega), h.cell (by omega), h.cell (by omega)⟩

theorem BlkPn.sets {W : World} {g ty len o : Nat} (h : BlkPn W g ty len) (x : PnR) : BlkPn (setPn W g o x) g ty len := (((((((((h.set _).set _).set _).set _).set _).set _).set _).set _).set _)

theorem Pn_other {W : World} {g i j : Nat} {v : Value} (h : i ≠ j) : (W.setCell ⟨g, i, none⟩ v).cell? ⟨g, j, none⟩ = W.cell? ⟨g, j, none⟩ := World.cell?_setCell_other _ _ _ _ (by intro e; injection e with e1 e2; exact h e2)

theorem Pn_this {W : World} {g ty len i : Nat} {v : Value} (h : BlkPn W g ty len) (hi : i < len * 9) : (W.setCell ⟨g, i, none⟩ v).cell? ⟨g, i, none⟩ = some v := by
  obtain ⟨u, hu⟩ := h.cell hi
  exact World.cell?_setCell_same _ _ _ hu

theorem setPn_this {W : World} {g ty len k : Nat} (h : BlkPn W g ty len) (hk : k < len) (x : PnR) : PnRAt (setPn W g (k * 9) x) g (k * 9) x := by
  unfold setPn
  refine ⟨?_, ?_, ?_, ?_, ?_, ?_, ?_, ?_, ?_⟩
  · rw [Pn_other (by omega), Pn_other (by omega), Pn_other (by omega), Pn_other (by omega), Pn_other (by omega), Pn_other (by omega), Pn_other (by omega), Pn_other (by omega), Pn_this h (by omega)]
  · rw [Pn_other (by omega), Pn_other (by omega), Pn_other (by omega), Pn_other (by omega), Pn_other (by omega), Pn_other (by omega), Pn_other (by omega), Pn_this (h.set _) (by omega)]
  · rw [Pn_other (by omega), Pn_other (by omega), Pn_other (by omega), Pn_other (by omega), Pn_other (by omega), Pn_other (by omega), Pn_this ((h.set _).set _) (by omega)]
  · rw [Pn_other (by omega), Pn_other (by omega), Pn_other (by omega), Pn_other (by omega), Pn_other (by omega), Pn_this (((h.set _).set _).set _) (by omega)]
  · rw [Pn_other (by omega), Pn_other (by omega), Pn_other (by omega), Pn_other (by omega), Pn_this ((((h.set _).set _).set _).set _) (by omega)]
  · rw [Pn_other (by omega), Pn_other (by omega), Pn_other (by omega), Pn_this (((((h.set _).set _).set _).set _).set _) (by omega)]
  · rw [Pn_other (by omega), Pn_other (by omega), Pn_this ((((((h.set _).set _).set _).set _).set _).set _) (by omega)]
  · rw [Pn_other (by omega), Pn_this (((((((h.set _).set _).set _).set _).set _).set _).set _) (by omega)]
  · rw [Pn_this ((((((((h.set _).set _).set _).set _).set _).set _).set _).set _) (by omega)]

theorem setPn_ne {W : World} {g i k : Nat} {x y : PnR} (h : PnRAt W g (i * 9) y) (hk : i ≠ k) : PnRAt (setPn W g (k * 9) x) g (i * 9) y := by
  unfold setPn
  obtain ⟨h0, h1, h2, h3, h4, h5, h6, h7, h8⟩ := h
  refine ⟨?_, ?_, ?_, ?_, ?_, ?_, ?_, ?_, ?_⟩
  · rw [Pn_other (by omega), Pn_other (by omega), Pn_other (by omega), Pn_other (by omega), Pn_other (by omega), Pn_other (by omega), Pn_other (by omega), Pn_other (by omega), Pn_other (by omega)]; exact h0
  · rw [Pn_other (by omega), Pn_other (by omega), Pn_other (by omega), Pn_other (by omega), Pn_other (by omega), Pn_other (by omega), Pn_other (by omega), Pn_other (by omega), Pn_other (by omega)]; exact h1
  · rw [Pn_other (by omega), Pn_other (by omega), Pn_other (by omega), Pn_other (by omega), Pn_other (by omega), Pn_other (by omega), Pn_other (by omega), Pn_other (by omega), Pn_other (by omega)]; exact h2
  · rw [Pn_other (by omega), Pn_other (by omega), Pn_other (by omega), Pn_other (by omega), Pn_other (by omega), Pn_other (by omega), Pn_other (by omega), Pn_other (by omega), Pn_other (by omega)]; exact h3
  · rw [Pn_other (by omega), Pn_other (by omega), Pn_other (by omega), Pn_other (by omega), Pn_other (by omega), Pn_other (by omega), Pn_other (by omega), Pn_other (by omega), Pn_other (by omega)]; exact h4
  · rw [Pn_other (by omega), Pn_other (by omega), Pn_other (by omega), Pn_other (by omega), Pn_other (by omega), Pn_other (by omega), Pn_other (by omega), Pn_other (by omega), Pn_other (by omega)]; exact h5
  · rw [Pn_other (by omega), Pn_other (by omega), Pn_other (by omega), Pn_other (by omega), Pn_other (by omega), Pn_other (by omega), Pn_other (by omega), Pn_other (by omega), Pn_other (by omega)]; exact h6
  · rw [Pn_other (by omega), Pn_other (by omega), Pn_other (by omega), Pn_other (by omega), Pn_other (by omega), Pn_other (by omega), Pn_other (by omega), Pn_other (by omega), Pn_other (by omega)]; exact h7
  · rw [Pn_other (by omega), Pn_other (by omega), Pn_other (by omega), Pn_other (by omega), Pn_other (by omega), Pn_other (by omega), Pn_other (by omega), Pn_other (by omega), Pn_other (by omega)]; exact h8

/-- The cells of rows; a slice of the call's own that holds rows. -/
def PnR.cells (x : PnR) : List Value := [.int .i64 x.ky, .int .i64 x.st, .int .i64 x.en, .int .i64 x.no, .int .i64 x.kd, .int .i64 x.n, .int .i64 x.su, .int .i64 x.le, .int .i64 x.mo]

def flatPn (xs : List PnR) : List Value := xs.flatMap PnR.cells

theorem flatPn_snoc (xs : List PnR) (x : PnR) : flatPn (xs ++ [x]) = flatPn xs ++ x.cells := by simp [flatPn]

theorem flatPn_get {xs : List PnR} {i : Nat} {x : PnR} (h : xs[i]? = some x) : (flatPn xs)[i * 9]? = some (.int .i64 x.ky) ∧ (flatPn xs)[i * 9 + 1]? = some (.int .i64 x.st) ∧ (flatPn xs)[i * 9 + 2]? = some (.int .i64 x.en) ∧ (flatPn xs)[i * 9 + 3]? = some (.int .i64 x.no) ∧ (flatPn xs)[i * 9 + 4]? = some (.int .i64 x.kd) ∧ (flatPn xs)[i * 9 + 5]? = some (.int .i64 x.n) ∧ (flatPn xs)[i * 9 + 6]? = some (.int .i64 x.su) ∧ (flatPn xs)[i * 9 + 7]? = some (.int .i64 x.le) ∧ (flatPn xs)[i * 9 + 8]? = some (.int .i64 x.mo) := by
  induction xs generalizing i with
  | nil => simp at h
  | cons y r ih =>
    have hf : flatPn (y :: r) = y.cells ++ flatPn r := rfl
    cases i with
    | zero =>
      simp at h
      subst h
      rw [hf]
      exact ⟨rfl, rfl, rfl, rfl, rfl, rfl, rfl, rfl, rfl⟩
    | succ i =>
      simp at h
      obtain ⟨h0, h1, h2, h3, h4, h5, h6, h7, h8⟩ := ih h
      have hl : y.cells.length = 9 := rfl
      rw [hf]
      refine ⟨?_, ?_, ?_, ?_, ?_, ?_, ?_, ?_, ?_⟩
      · rw [List.getElem?_append_right (by omega), hl, show (i + 1) * 9 - 9 = i * 9 by omega]; exact h0
      · rw [List.getElem?_append_right (by omega), hl, show (i + 1) * 9 + 1 - 9 = i * 9 + 1 by omega]; exact h1
      · rw [List.getElem?_append_right (by omega), hl, show (i + 1) * 9 + 2 - 9 = i * 9 + 2 by omega]; exact h2
      · rw [List.getElem?_append_right (by omega), hl, show (i + 1) * 9 + 3 - 9 = i * 9 + 3 by omega]; exact h3
      · rw [List.getElem?_append_right (by omega), hl, show (i + 1) * 9 + 4 - 9 = i * 9 + 4 by omega]; exact h4
      · rw [List.getElem?_append_right (by omega), hl, show (i + 1) * 9 + 5 - 9 = i * 9 + 5 by omega]; exact h5
      · rw [List.getElem?_append_right (by omega), hl, show (i + 1) * 9 + 6 - 9 = i * 9 + 6 by omega]; exact h6
      · rw [List.getElem?_append_right (by omega), hl, show (i + 1) * 9 + 7 - 9 = i * 9 + 7 by omega]; exact h7
      · rw [List.getElem?_append_right (by omega), hl, show (i + 1) * 9 + 8 - 9 = i * 9 + 8 by omega]; exact h8

def OwnPn (W : World) (B : Nat) (v : Value) (ys : List PnR) : Prop := W.ownsRow B 35 9 v ys.length (flatPn ys)

theorem ownPn_snoc {w1 : World} {B : Nat} {v' : Value} {ys : List PnR} {x : PnR} (ho : w1.ownsRow B 35 9 v' (ys.length + 1) (flatPn ys ++ x.cells)) : OwnPn w1 B v' (ys ++ [x]) := by
  unfold OwnPn
  rw [flatPn_snoc]
  simpa using ho

theorem cells_newPn (w : World) (ky st en no kd n su le mo : Int) (ty : Nat) : ∀ j u, ([.int .i64 ky, .int .i64 st, .int .i64 en, .int .i64 no, .int .i64 kd, .int .i64 n, .int .i64 su, .int .i64 le, .int .i64 mo] : List Value)[j]? = some u → (w.alloc (.cells #[.int .i64 ky, .int .i64 st, .int .i64 en, .int .i64 no, .int .i64 kd, .int .i64 n, .int .i64 su, .int .i64 le, .int .i64 mo] ty)).cell? ((⟨w.heap.size, 0, none⟩ : Addr).add j) = some u := by
  intro j u hj
  have e : ((⟨w.heap.size, 0, none⟩ : Addr).add j) = ⟨w.heap.size, j, none⟩ := by
    unfold Addr.add
    split
    · rename_i h0; rw [h0]
    · simp
  rw [e]
  simpa [go_sem] using hj

def markPn (i : Nat) : PnR := ⟨1 + 9 * (i : Int), 1 + 9 * (i : Int) + 1, 1 + 9 * (i : Int) + 1 + 1, 1 + 9 * (i : Int) + 1 + 1 + 1, 1 + 9 * (i : Int) + 1 + 1 + 1 + 1, 1 + 9 * (i : Int) + 1 + 1 + 1 + 1 + 1, 1 + 9 * (i : Int) + 1 + 1 + 1 + 1 + 1 + 1, 1 + 9 * (i : Int) + 1 + 1 + 1 + 1 + 1 + 1 + 1, 1 + 9 * (i : Int) + 1 + 1 + 1 + 1 + 1 + 1 + 1 + 1⟩

def WrPn (W : World) (a : Option Addr) (n cap : Nat) : Prop := n = 0 ∨ ∃ g, a = some ⟨g, 0, none⟩ ∧ BlkPn W g 35 cap ∧ n ≤ cap

def MarkedPn (W : World) (a : Option Addr) (n : Nat) : Prop := n = 0 ∨ ∃ g, a = some ⟨g, 0, none⟩ ∧ ∀ i, i < n → PnRAt W g (i * 9) (markPn i)

theorem MarkedPn.below {W W' : World} {a : Option Addr} {n : Nat} (h : MarkedPn W a n) (hb : Below W.heap.size W W') : MarkedPn W' a n := by
  rcases h with h | ⟨g, ha, hM⟩
  · exact Or.inl h
  · exact Or.inr ⟨g, ha, fun i hi => (hM i hi).below hb (hM i hi).lt⟩

theorem holdPn {W : World} {B : Nat} {v : Value} {ys : List PnR} (h : OwnPn W B v ys) (hl : ys.length ≤ 1048576) :
    ∃ a cap, v = .slice a ys.length cap ∧ PnRs W a ys.length ys ∧ WrPn W a ys.length cap ∧ ∀ g o, 0 < ys.length → a = some ⟨g, o, none⟩ → B ≤ g := by
  have hm : ys.length ≤ maxLen := by unfold maxLen; omega
  obtain ⟨hlen, h | ⟨g, cap, cur, rfl, hB, hblk, hnc, hcm, hsz, htk⟩⟩ := h
  · obtain ⟨rfl, h0⟩ := h
    rw [h0]
    exact ⟨none, 0, rfl, ⟨h0, Nat.zero_le _, Or.inl rfl⟩, Or.inl rfl, fun _ _ hp => by omega⟩
  · refine ⟨_, cap, rfl, ⟨rfl, hm, Or.inr ⟨g, 0, rfl, ?_⟩⟩, Or.inr ⟨g, rfl, ⟨cur, hblk, hsz⟩, hnc⟩, fun g' o' _ e => by simp at e; omega⟩
    intro i x hx
    have hi : i < ys.length := (List.getElem?_eq_some_iff.1 hx).1
    have hcell : ∀ j u, j < ys.length * 9 → (flatPn ys)[j]? = some u → W.cell? ⟨g, j, none⟩ = some u := by
      intro j u hj hu
      rw [Joins.cell_of_block hblk j, ← Array.getElem?_toList]
      rw [← htk, List.getElem?_take_of_lt hj] at hu
      exact hu
    obtain ⟨f0, f1, f2, f3, f4, f5, f6, f7, f8⟩ := flatPn_get hx
    rw [Nat.zero_add]
    exact ⟨hcell _ _ (by omega) f0, hcell _ _ (by omega) f1, hcell _ _ (by omega) f2, hcell _ _ (by omega) f3, hcell _ _ (by omega) f4, hcell _ _ (by omega) f5, hcell _ _ (by omega) f6, hcell _ _ (by omega) f7, hcell _ _ (by omega) f8⟩

theorem WrPn.below {W W' : World} {a : Option Addr} {n cap : Nat} (h : WrPn W a n cap) (hb : Below W.heap.size W W') : WrPn W' a n cap := by
  rcases h with h | ⟨g, ha, hB, hc⟩
  · exact Or.inl h
  · exact Or.inr ⟨g, ha, hB.below hb hB.lt, hc⟩

theorem WrPn.grown {W W' : World} {row : Option Nat} {a : Option Addr} {n cap : Nat} (h : WrPn W a n cap) (hg : W.grownBy W' row) (hne : ∀ g o, 0 < n → a = some ⟨g, o, none⟩ → some g ≠ row) : WrPn W' a n cap := by
  rcases h with h | ⟨g, ha, hB, hc⟩
  · exact Or.inl h
  · by_cases h0 : n = 0
    · exact Or.inl h0
    · obtain ⟨cur, c1, c2⟩ := hB
      exact Or.inr ⟨g, ha, ⟨cur, (hg.block g (Array.getElem?_eq_some_iff.1 c1).1 (hne g 0 (by omega) ha)).trans c1, c2⟩, hc⟩
end Go.Proofs.Ytblmhpngaccllaa
