/- Proved here, for any program: a slice of structs of 13 ints as a list of rows in memory: kept, filled, owned, told to be the same, marked and found again. -/
import Derived.Test.YtflignpbboiahaaHdOr
import Derived.Test.YtflignpbboiahaaEqWA
import Derived.Deep.Slices
import Derived.Lib.SmallJoins
import Derived.OwnWalk
import Derived.WalkSpells
import Derived.Deep.RegionHeld3
namespace Go.Proofs.Ytflignpbboiahaa
open Go.ChangeShapes Go.WideShapes Go.ChangeAt Go.RowKit
set_option linter.unusedVariables false

/-- A row of 13 numbers. -/
structure OrR where
  ky : Int
  st : Int
  en : Int
  an : Int
  asu : Int
  ale : Int
  amo : Int
  fn : Int
  fsu : Int
  fle : Int
  fmo : Int
  td : Int
  tm : Bool

/-- A row lies in its cells; rows lie one behind the other; a slice's value holds rows. -/
def OrRAt (W : World) (g o : Nat) (x : OrR) : Prop := W.cell? ⟨g, o, none⟩ = some (.int .i64 x.ky) ∧ W.cell? ⟨g, o + 1, none⟩ = some (.int .i64 x.st) ∧ W.cell? ⟨g, o + 2, none⟩ = some (.int .i64 x.en) ∧ W.cell? ⟨g, o + 3, none⟩ = some (.int .i64 x.an) ∧ W.cell? ⟨g, o + 4, none⟩ = some (.int .i64 x.asu) ∧ W.cell? ⟨g, o + 5, none⟩ = some (.int .i64 x.ale) ∧ W.cell? ⟨g, o + 6, none⟩ = some (.int .i64 x.amo) ∧ W.cell? ⟨g, o + 7, none⟩ = some (.int .i64 x.fn) ∧ W.cell? ⟨g, o + 8, none⟩ = some (.int .i64 x.fsu) ∧ W.cell? ⟨g, o + 9, none⟩ = some (.int .i64 x.fle) ∧ W.cell? ⟨g, o + 10, none⟩ = some (.int .i64 x.fmo) ∧ W.cell? ⟨g, o + 11, none⟩ = some (.int .i64 x.td) ∧ W.cell? ⟨g, o + 12, none⟩ = some (.bool x.tm)

def OrRsAt (W : World) (g o : Nat) (xs : List OrR) : Prop := ∀ i x, xs[i]? = some x → OrRAt W g (o + i * 13) x

def OrRs (W : World) (a : Option Addr) (len : Nat) (xs : List OrR) : Prop := xs.length = len ∧ len ≤ maxLen ∧ (len = 0 ∨ ∃ g o, a = some ⟨g, o, none⟩ ∧ OrRsAt W g o xs)

theorem OrRAt.lt {W : World} {g o : Nat} {x : OrR} (h : OrRAt W g o x) : g < W.heap.size := by
  obtain ⟨h0, _⟩ := h
  rcases Nat.lt_or_ge g W.heap.size with hl | hg
  · exact hl
  · simp [World.cell?, Array.getElem?_eq_none hg] at h0

theorem OrRsAt.lt {W : World} {g o : Nat} {xs : List OrR} (h : OrRsAt W g o xs) (hp : 0 < xs.length) : g < W.heap.size := (h 0 xs[0] (List.getElem?_eq_getElem hp)).lt

theorem OrRAt.below {W W' : World} {B g o : Nat} {x : OrR} (h : OrRAt W g o x) (hb : Below B W W') (hg : g < B) : OrRAt W' g o x := by
  obtain ⟨h0, h1, h2, h3, h4, h5, h6, h7, h8, h9, h10, h11, h12⟩ := h
  exact ⟨(hb.cell (p := ⟨g, _, none⟩) hg).trans h0, (hb.cell (p := ⟨g, _, none⟩) hg).trans h1, (hb.cell (p := ⟨g, _, none⟩) hg).trans h2, (hb.cell (p := ⟨g, _, none⟩) hg).trans h3, (hb.cell (p := ⟨g, _, none⟩) hg).trans h4, (hb.cell (p := ⟨g, _, none⟩) hg).trans h5, (hb.cell (p := ⟨g, _, none⟩) hg).trans h6, (hb.cell (p := ⟨g, _, none⟩) hg).trans h7, (hb.cell (p := ⟨g, _, none⟩) hg).trans h8, (hb.cell (p := ⟨g, _, none⟩) hg).trans h9, (hb.cell (p := ⟨g, _, none⟩) hg).trans h10, (hb.cell (p := ⟨g, _, none⟩) hg).trans h11, (hb.cell (p := ⟨g, _, none⟩) hg).trans h12⟩

theorem OrRsAt.below {W W' : World} {B g o : Nat} {xs : List OrR} (h : OrRsAt W g o xs) (hb : Below B W W') (hg : 0 < xs.length → g < B) : OrRsAt W' g o xs := by
  intro i x hx
  have hlt : i < xs.length := (List.getElem?_eq_some_iff.1 hx).1
  exact (h i x hx).below hb (hg (by omega))

theorem OrRs.below {W W' : World} {a : Option Addr} {len : Nat} {xs : List OrR} (h : OrRs W a len xs) (hb : Below W.heap.size W W') : OrRs W' a len xs := by
  obtain ⟨h1, h2, h3⟩ := h
  refine ⟨h1, h2, ?_⟩
  rcases h3 with h3 | ⟨g, o, ha, hr⟩
  · exact Or.inl h3
  · exact Or.inr ⟨g, o, ha, hr.below hb (fun hp => hr.lt hp)⟩

theorem OrRAt.grown {W W' : World} {row : Option Nat} {g o : Nat} {x : OrR} (h : OrRAt W g o x) (hg : W.grownBy W' row) (hne : some g ≠ row) : OrRAt W' g o x := by
  have hbk := hg.block g h.lt hne
  obtain ⟨h0, h1, h2, h3, h4, h5, h6, h7, h8, h9, h10, h11, h12⟩ := h
  exact ⟨(World.cell?_of_block (w := W) hbk).trans h0, (World.cell?_of_block (w := W) hbk).trans h1, (World.cell?_of_block (w := W) hbk).trans h2, (World.cell?_of_block (w := W) hbk).trans h3, (World.cell?_of_block (w := W) hbk).trans h4, (World.cell?_of_block (w := W) hbk).trans h5, (World.cell?_of_block (w := W) hbk).trans h6, (World.cell?_of_block (w := W) hbk).trans h7, (World.cell?_of_block (w := W) hbk).trans h8, (World.cell?_of_block (w := W) hbk).trans h9, (World.cell?_of_block (w := W) hbk).trans h10, (World.cell?_of_block (w := W) hbk).trans h11, (World.cell?_of_block (w := W) hbk).trans h12⟩

theorem OrRs.grown {W W' : World} {row : Option Nat} {a : Option Addr} {n : Nat} {xs : List OrR} (h : OrRs W a n xs) (hg : W.grownBy W' row) (hne : ∀ g o, 0 < n → a = some ⟨g, o, none⟩ → some g ≠ row) : OrRs W' a n xs := by
  obtain ⟨h1, h2, h3⟩ := h
  refine ⟨h1, h2, ?_⟩
  rcases h3 with h3 | ⟨g, o, ha, hr⟩
  · exact Or.inl h3
  · refine Or.inr ⟨g, o, ha, fun i x hx => (hr i x hx).grown hg (hne g o ?_ ha)⟩
    have hlt : i < xs.length := (List.getElem?_eq_some_iff.1 hx).1
    omega

theorem OrRs.lt {W : World} {g o n : Nat} {xs : List OrR} (h : OrRs W (some ⟨g, o, none⟩) n xs) (hp : 0 < n) : g < W.heap.size := by
  obtain ⟨h1, h2, h3⟩ := h
  obtain ⟨g', o', ha, hr⟩ := h3.resolve_left (by omega)
  simp at ha
  have := hr.lt (by omega)
  omega

/-- A row is stored; a block of rows, known whole. -/
def setOr (W : World) (g o : Nat) (x : OrR) : World := (((((((((((((W.setCell ⟨g, o, none⟩ (.int .i64 x.ky)).setCell ⟨g, o + 1, none⟩ (.int .i64 x.st)).setCell ⟨g, o + 2, none⟩ (.int .i64 x.en)).setCell ⟨g, o + 3, none⟩ (.int .i64 x.an)).setCell ⟨g, o + 4, none⟩ (.int .i64 x.asu)).setCell ⟨g, o + 5, none⟩ (.int .i64 x.ale)).setCell ⟨g, o + 6, none⟩ (.int .i64 x.amo)).setCell ⟨g, o + 7, none⟩ (.int .i64 x.fn)).setCell ⟨g, o + 8, none⟩ (.int .i64 x.fsu)).setCell ⟨g, o + 9, none⟩ (.int .i64 x.fle)).setCell ⟨g, o + 10, none⟩ (.int .i64 x.fmo)).setCell ⟨g, o + 11, none⟩ (.int .i64 x.td)).setCell ⟨g, o + 12, none⟩ (.bool x.tm))

def BlkOr (W : World) (g ty len : Nat) : Prop := ∃ cur, W.heap[g]? = some (.cells cur ty (0, 0)) ∧ cur.size = len * 13

theorem BlkOr.set {W : World} {g ty len i : Nat} (h : BlkOr W g ty len) (v : Value) : BlkOr (W.setCell ⟨g, i, none⟩ v) g ty len := by
  obtain ⟨cur, h1, h2⟩ := h
  exact ⟨_, Joins.block_setCell h1 v, by simp [h2]⟩

theorem BlkOr.below {W W' : World} {g ty len B : Nat} (h : BlkOr W g ty len) (hb : Below B W W') (hg : g < B) : BlkOr W' g ty len := by
  obtain ⟨cur, h1, h2⟩ := h
  exact ⟨cur, (hb.block g hg).trans h1, h2⟩

theorem BlkOr.lt {W : World} {g ty len : Nat} (h : BlkOr W g ty len) : g < W.heap.size := by
  obtain ⟨cur, h1, h2⟩ := h
  exact (Array.getElem?_eq_some_iff.1 h1).1

theorem BlkOr.cell {W : World} {g ty len i : Nat} (h : BlkOr W g ty len) (hi : i < len * 13) : ∃ u, W.cell? ⟨g, i, none⟩ = some u := by
  obtain ⟨cur, h1, h2⟩ := h
  exact ⟨_, (Joins.cell_of_block h1 i).trans (Array.getElem?_eq_getElem (by omega))⟩

theorem BlkOr.frozen {W : World} {g ty len i : Nat} (h : BlkOr W g ty len) : W.frozen? ⟨g, i, none⟩ = false := by
  obtain ⟨cur, h1, h2⟩ := h
  exact Joins.unfrozen_of_block h1 i

theorem BlkOr.cells {W : World} {g ty len k : Nat} (h : BlkOr W g ty len) (hk : k < len) : (∃ u, W.cell? ⟨g, k * 13, none⟩ = some u) ∧ (∃ u, W.cell? ⟨g, k * 13 + 1, none⟩ = some u) ∧ (∃ u, W.cell? ⟨g, k * 13 + 2, none⟩ = some u) ∧ (∃ u, W.cell? ⟨g, k * 13 + 3, none⟩ = some u) ∧ (∃ u, W.cell? ⟨g, k * 13 + 4, none⟩ = some u) ∧ (∃ u, W.cell? ⟨g, k * 13 + 5, none⟩ = some u) ∧ (∃ u, W.cell? ⟨g, k * 13 + 6, none⟩ = some u) ∧ (∃ u, W.cell? ⟨g, k * 13 + 7, none⟩ = some u) ∧ (∃ u, W.cell? ⟨g, k * 13 + 8, none⟩ = some u) ∧ (∃ u, W.cell? ⟨g, k * 13 + 9, none⟩ = some u) ∧ (∃ u, W.cell? ⟨g, k * 13 + 10, none⟩ = some u) ∧ (∃ u, W.cell? ⟨g, k * 13 + 11, none⟩ = some u) ∧ (∃ u, W.cell? ⟨g, k * 13 + 12, none⟩ = some u) := ⟨h.cell (by omega), h.cell (by omega), h.cell (by omega), h.cell (by omega), h.cell (by omega), h.cell (by omega), h.cell (by omega), h.cell (by omega), h.cell (by omega), h.cell (by omega), h.cell (by omega), h.cell (by omega), h.cell (by omega)⟩

theorem BlkOr.sets {W : World} {g ty len o : Nat} (h : BlkOr W g ty len) (x : OrR) : BlkOr (setOr W g o x) g ty len := (((((((((((((h.set _).set _).set _).set _).set _).set _).set _).set _).set _).set _).set _).set _).set _)

theorem Or_other {W : World} {g i j : Nat} {v : Value} (h : i ≠ j) : (W.setCell ⟨g, i, none⟩ v).cell? ⟨g, j, none⟩ = W.cell? ⟨g, j, none⟩ := World.cell?_setCell_other _ _ _ _ (by intro e; injection e with e1 e2; exact h e2)

theorem Or_this {W : World} {g ty len i : Nat} {v : Value} (h : BlkOr W g ty len) (hi : i < len * 13) : (W.setCell ⟨g, i, none⟩ v).cell? ⟨g, i, none⟩ = some v := by
  obtain ⟨u, hu⟩ := h.cell hi
  exact World.cell?_setCell_same _ _ _ hu

theorem setOr_this {W : World} {g ty len k : Nat} (h : BlkOr W g ty len) (hk : k < len) (x : OrR) : OrRAt (setOr W g (k * 13) x) g (k * 13) x := by
  unfold setOr
  refine ⟨?_, ?_, ?_, ?_, ?_, ?_, ?_, ?_, ?_, ?_, ?_, ?_, ?_⟩
  · rw [Or_other (by omega), Or_other (by omega), Or_other (by omega), Or_other (by omega), Or_other (by omega), Or_other (by omega), Or_other (by omega), Or_other (by omega), Or_other (by omega), Or_other (by omega), Or_other (by omega), Or_other (by omega), Or_this h (by omega)]
  · rw [Or_other (by omega), Or_other (by omega), Or_other (by omega), Or_other (by omega), Or_other (by omega), Or_other (by omega), Or_other (by omega), Or_other (by omega), Or_other (by omega), Or_other (by omega), Or_other (by omega), Or_this (h.set _) (by omega)]
  · rw [Or_other (by omega), Or_other (by omega), Or_other (by omega), Or_other (by omega), Or_other (by omega), Or_other (by omega), Or_other (by omega), Or_other (by omega), Or_other (by omega), Or_other (by omega), Or_this ((h.set _).set _) (by omega)]
  · rw [Or_other (by omega), Or_other (by omega), Or_other (by omega), Or_other (by omega), Or_other (by omega), Or_other (by omega), Or_other (by omega), Or_other (by omega), Or_other (by omega), Or_this (((h.set _).set _).set _) (by omega)]
  · rw [Or_other (by omega), Or_other (by omega), Or_other (by omega), Or_other (by omega), Or_other (by omega), Or_other (by omega), Or_other (by omega), Or_other (by omega), Or_this ((((h.set _).set _).set _).set _) (by omega)]
  · rw [Or_other (by omega), Or_other (by omega), Or_other (by omega), Or_other (by omega), Or_other (by omega), Or_other (by omega), Or_other (by omega), Or_this (((((h.set _).set _).set _).set _).set _) (by omega)]
  · rw [Or_other (by omega), Or_other (by omega), Or_other (by omega), Or_other (by omega), Or_other (by omega), Or_other (by omega), Or_this ((((((h.set _).set _).set _).set _).set _).set _) (by omega)]
  · rw [Or_other (by omega), Or_other (by omega), Or_other (by omega), Or_other (by omega), Or_other (by omega), Or_this (((((((h.set _).set _).set _).set _).set _).set _).set _) (by omega)]
  · rw [Or_other (by omega), Or_other (by omega), Or_other (by omega), Or_other (by omega), Or_this ((((((((h.set _).set _).set _).set _).set _).set _).set _).set _) (by omega)]
  · rw [Or_other (by omega), Or_other (by omega), Or_other (by omega), Or_this (((((((((h.set _).set _).set _).set _).set _).set _).set _).set _).set _) (by omega)]
  · rw [Or_other (by omega), Or_other (by omega), Or_this ((((((((((h.set _).set _).set _).set _).set _).set _).set _).set _).set _).set _) (by omega)]
  · rw [Or_other (by omega), Or_this (((((((((((h.set _).set _).set _).set _).set _).set _).set _).set _).set _).set _).set _) (by omega)]
  · rw [Or_this ((((((((((((h.set _).set _).set _).set _).set _).set _).set _).set _).set _).set _).set _).set _) (by omega)]

theorem setOr_ne {W : World} {g i k : Nat} {x y : OrR} (h : OrRAt W g (i * 13) y) (hk : i ≠ k) : OrRAt (setOr W g (k * 13) x) g (i * 13) y := by
  unfold setOr
  obtain ⟨h0, h1, h2, h3, h4, h5, h6, h7, h8, h9, h10, h11, h12⟩ := h
  refine ⟨?_, ?_, ?_, ?_, ?_, ?_, ?_, ?_, ?_, ?_, ?_, ?_, ?_⟩
  · rw [Or_other (by omega), Or_other (by omega), Or_other (by omega), Or_other (by omega), Or_other (by omega), Or_other (by omega), Or_other (by omega), Or_other (by omega), Or_other (by omega), Or_other (by omega), Or_other (by omega), Or_other (by omega), Or_other (by omega)]; exact h0
  · rw [Or_other (by omega), Or_other (by omega), Or_other (by omega), Or_other (by omega), Or_other (by omega), Or_other (by omega), Or_other (by omega), Or_other (by omega), Or_other (by omega), Or_other (by omega), Or_other (by omega), Or_other (by omega), Or_other (by omega)]; exact h1
  · rw [Or_other (by omega), Or_other (by omega), Or_other (by omega), Or_other (by omega), Or_other (by omega), Or_other (by omega), Or_other (by omega), Or_other (by omega), Or_other (by omega), Or_other (by omega), Or_other (by omega), Or_other (by omega), Or_other (by omega)]; exact h2
  · rw [Or_other (by omega), Or_other (by omega), Or_other (by omega), Or_other (by omega), Or_other (by omega), Or_other (by omega), Or_other (by omega), Or_other (by omega), Or_other (by omega), Or_other (by omega), Or_other (by omega), Or_other (by omega), Or_other (by omega)]; exact h3
  · rw [Or_other (by omega), Or_other (by omega), Or_other (by omega), Or_other (by omega), Or_other (by omega), Or_other (by omega), Or_other (by omega), Or_other (by omega), Or_other (by omega), Or_other (by omega), Or_other (by omega), Or_other (by omega), Or_other (by omega)]; exact h4
  · rw [Or_other (by omega), Or_other (by omega), Or_other (by omega), Or_other (by omega), Or_other (by omega), Or_other (by omega), Or_other (by omega), Or_other (by omega), Or_other (by omega), Or_other (by omega), Or_other (by omega), Or_other (by omega), Or_other (by omega)]; exact h5
  · rw [Or_other (by omega), Or_other (by omega), Or_other (by omega), Or_other (by omega), Or_other (by omega), Or_other (by omega), Or_other (by omega), Or_other (by omega), Or_other (by omega), Or_other (by omega), Or_other (by omega), Or_other (by omega), Or_other (by omega)]; exact h6
  · rw [Or_other (by omega), Or_other (by omega), Or_other (by omega), Or_other (by omega), Or_other (by omega), Or_other (by omega), Or_other (by omega), Or_other (by omega), Or_other (by omega), Or_other (by omega), Or_other (by omega), Or_other (by omega), Or_other (by omega)]; exact h7
  · rw [Or_other (by omega), Or_other (by omega), Or_other (by omega), Or_other (by omega), Or_other (by omega), Or_other (by omega), Or_other (by omega), Or_other (by omega), Or_other (by omega), Or_other (by omega), Or_other (by omega), Or_other (by omega), Or_other (by omega)]; exact h8
  · rw [Or_other (by omega), Or_other (by omega), Or_other (by omega), Or_other (by omega), Or_other (by omega), Or_other (by omega), Or_other (by omega), Or_other (by omega), Or_other (by omega), Or_other (by omega), Or_other (by omega), Or_other (by omega), Or_other (by omega)]; exact h9
  · rw [Or_other (by omega), Or_other (by omega), Or_other (by omega), Or_other (by omega), Or_other (by omega), Or_other (by omega), Or_other (by omega), Or_other (by omega), Or_other (by omega), Or_other (by omega), Or_other (by omega), Or_other (by omega), Or_other (by omega)]; exact h10
  · rw [Or_other (by omega), Or_other (by omega), Or_other (by omega), Or_other (by omega), Or_other (by omega), Or_other (by omega), Or_other (by omega), Or_other (by omega), Or_other (by omega), Or_other (by omega), Or_other (by omega), Or_other (by omega), Or_other (by omega)]; exact h11
  · rw [Or_other (by omega), Or_other (by omega), Or_other (by omega), Or_other (by omega), Or_other (by omega), Or_other (by omega), Or_other (by omega), Or_other (by omega), Or_other (by omega), Or_other (by omega), Or_other (by omega), Or_other (by omega), Or_other (by omega)]; exact h12

theorem grown_setOr {W W' : World} {g o : Nat} {x : OrR} (h : W.grownBy W' (some g)) : W.grownBy (setOr W' g o x) (some g) := by
  have hs : ∀ (X : World) (i : Nat) (v : Value), W.grownBy X (some g) → W.grownBy (X.setCell ⟨g, i, none⟩ v) (some g) := by
    intro X i v hX
    exact ⟨hX.os, hX.tape, hX.output, by simp [World.setCell]; exact hX.size, fun k hk hne => (Below.heap_setCell X _ v k (fun e => hne (by rw [e]))).trans (hX.block k hk hne)⟩
  exact hs _ _ _ (hs _ _ _ (hs _ _ _ (hs _ _ _ (hs _ _ _ (hs _ _ _ (hs _ _ _ (hs _ _ _ (hs _ _ _ (hs _ _ _ (hs _ _ _ (hs _ _ _ (hs _ _ _ (h)))))))))))))

/-- The cells of rows; a slice of the call's own that holds rows. -/
def OrR.cells (x : OrR) : List Value := [.int .i64 x.ky, .int .i64 x.st, .int .i64 x.en, .int .i64 x.an, .int .i64 x.asu, .int .i64 x.ale, .int .i64 x.amo, .int .i64 x.fn, .int .i64 x.fsu, .int .i64 x.fle, .int .i64 x.fmo, .int .i64 x.td, .bool x.tm]

def flatOr (xs : List OrR) : List Value := xs.flatMap OrR.cells

theorem flatOr_snoc (xs : List OrR) (x : OrR) : flatOr (xs ++ [x]) = flatOr xs ++ x.cells := by simp [flatOr]

theorem flatOr_len (xs : List OrR) : (flatOr xs).length = xs.length * 13 := by
  induction xs with
  | nil => rfl
  | cons x r ih => show (x.cells ++ flatOr r).length = _; rw [List.length_append, ih]; simp [OrR.cells]; omega

theorem flatOr_get {xs : List OrR} {i : Nat} {x : OrR} (h : xs[i]? = some x) : (flatOr xs)[i * 13]? = some (.int .i64 x.ky) ∧ (flatOr xs)[i * 13 + 1]? = some (.int .i64 x.st) ∧ (flatOr xs)[i * 13 + 2]? = some (.int .i64 x.en) ∧ (flatOr xs)[i * 13 + 3]? = some (.int .i64 x.an) ∧ (flatOr xs)[i * 13 + 4]? = some (.int .i64 x.asu) ∧ (flatOr xs)[i * 13 + 5]? = some (.int .i64 x.ale) ∧ (flatOr xs)[i * 13 + 6]? = some (.int .i64 x.amo) ∧ (flatOr xs)[i * 13 + 7]? = some (.int .i64 x.fn) ∧ (flatOr xs)[i * 13 + 8]? = some (.int .i64 x.fsu) ∧ (flatOr xs)[i * 13 + 9]? = some (.int .i64 x.fle) ∧ (flatOr xs)[i * 13 + 10]? = some (.int .i64 x.fmo) ∧ (flatOr xs)[i * 13 + 11]? = some (.int .i64 x.td) ∧ (flatOr xs)[i * 13 + 12]? = some (.bool x.tm) := by
  induction xs generalizing i with
  | nil => simp at h
  | cons y r ih =>
    have hf : flatOr (y :: r) = y.cells ++ flatOr r := rfl
    cases i with
    | zero =>
      simp at h
      subst h
      rw [hf]
      exact ⟨rfl, rfl, rfl, rfl, rfl, rfl, rfl, rfl, rfl, rfl, rfl, rfl, rfl⟩
    | succ i =>
      simp at h
      obtain ⟨h0, h1, h2, h3, h4, h5, h6, h7, h8, h9, h10, h11, h12⟩ := ih h
      have hl : y.cells.length = 13 := rfl
      rw [hf]
      refine ⟨?_, ?_, ?_, ?_, ?_, ?_, ?_, ?_, ?_, ?_, ?_, ?_, ?_⟩
      · rw [List.getElem?_append_right (by omega), hl, show (i + 1) * 13 - 13 = i * 13 by omega]; exact h0
      · rw [List.getElem?_append_right (by omega), hl, show (i + 1) * 13 + 1 - 13 = i * 13 + 1 by omega]; exact h1
      · rw [List.getElem?_append_right (by omega), hl, show (i + 1) * 13 + 2 - 13 = i * 13 + 2 by omega]; exact h2
      · rw [List.getElem?_append_right (by omega), hl, show (i + 1) * 13 + 3 - 13 = i * 13 + 3 by omega]; exact h3
      · rw [List.getElem?_append_right (by omega), hl, show (i + 1) * 13 + 4 - 13 = i * 13 + 4 by omega]; exact h4
      · rw [List.getElem?_append_right (by omega), hl, show (i + 1) * 13 + 5 - 13 = i * 13 + 5 by omega]; exact h5
      · rw [List.getElem?_append_right (by omega), hl, show (i + 1) * 13 + 6 - 13 = i * 13 + 6 by omega]; exact h6
      · rw [List.getElem?_append_right (by omega), hl, show (i + 1) * 13 + 7 - 13 = i * 13 + 7 by omega]; exact h7
      · rw [List.getElem?_append_right (by omega), hl, show (i + 1) * 13 + 8 - 13 = i * 13 + 8 by omega]; exact h8
      · rw [List.getElem?_append_right (by omega), hl, show (i + 1) * 13 + 9 - 13 = i * 13 + 9 by omega]; exact h9
      · rw [List.getElem?_append_right (by omega), hl, show (i + 1) * 13 + 10 - 13 = i * 13 + 10 by omega]; exact h10
      · rw [List.getElem?_append_right (by omega), hl, show (i + 1) * 13 + 11 - 13 = i * 13 + 11 by omega]; exact h11
      · rw [List.getElem?_append_right (by omega), hl, show (i + 1) * 13 + 12 - 13 = i * 13 + 12 by omega]; exact h12

def OwnOr (W : World) (B : Nat) (v : Value) (ys : List OrR) : Prop := W.ownsRow B 66 13 v ys.length (flatOr ys)

theorem ownOr_ge {W : World} {B : Nat} {v : Value} {ys : List OrR} (h : OwnOr W B v ys) : ∀ k, v.ownBlock = some k → B ≤ k := by
  intro k hk
  rcases h.2 with ⟨rfl, _⟩ | ⟨g, cap, cur, rfl, hg, _⟩
  · cases hk
  · simp [Value.ownBlock] at hk; omega

theorem ownOr_snoc {w1 : World} {B : Nat} {v' : Value} {ys : List OrR} {x : OrR} (ho : w1.ownsRow B 66 13 v' (ys.length + 1) (flatOr ys ++ x.cells)) : OwnOr w1 B v' (ys ++ [x]) := by
  unfold OwnOr
  rw [flatOr_snoc]
  simpa using ho

theorem cells_newOr (w : World) (ky : Int) (st : Int) (en : Int) (an : Int) (asu : Int) (ale : Int) (amo : Int) (fn : Int) (fsu : Int) (fle : Int) (fmo : Int) (td : Int) (tm : Bool) (ty : Nat) : ∀ j u, ([.int .i64 ky, .int .i64 st, .int .i64 en, .int .i64 an, .int .i64 asu, .int .i64 ale, .int .i64 amo, .int .i64 fn, .int .i64 fsu, .int .i64 fle, .int .i64 fmo, .int .i64 td, .bool tm] : List Value)[j]? = some u → (w.alloc (.cells #[.int .i64 ky, .int .i64 st, .int .i64 en, .int .i64 an, .int .i64 asu, .int .i64 ale, .int .i64 amo, .int .i64 fn, .int .i64 fsu, .int .i64 fle, .int .i64 fmo, .int .i64 td, .bool tm] ty)).cell? ((⟨w.heap.size, 0, none⟩ : Addr).add j) = some u := by
  intro j u hj
  have e : ((⟨w.heap.size, 0, none⟩ : Addr).add j) = ⟨w.heap.size, j, none⟩ := by
    unfold Addr.add
    split
    · rename_i h0; rw [h0]
    · simp
  rw [e]
  simpa [go_sem] using hj

theorem cells_atOr (w : World) (ky : Int) (st : Int) (en : Int) (an : Int) (asu : Int) (ale : Int) (amo : Int) (fn : Int) (fsu : Int) (fle : Int) (fmo : Int) (td : Int) (tm : Bool) (ty : Nat) {g : Nat} (hg : g = w.heap.size) : ∀ j u, ([.int .i64 ky, .int .i64 st, .int .i64 en, .int .i64 an, .int .i64 asu, .int .i64 ale, .int .i64 amo, .int .i64 fn, .int .i64 fsu, .int .i64 fle, .int .i64 fmo, .int .i64 td, .bool tm] : List Value)[j]? = some u → (w.alloc (.cells #[.int .i64 ky, .int .i64 st, .int .i64 en, .int .i64 an, .int .i64 asu, .int .i64 ale, .int .i64 amo, .int .i64 fn, .int .i64 fsu, .int .i64 fle, .int .i64 fmo, .int .i64 td, .bool tm] ty)).cell? ((⟨g, 0, none⟩ : Addr).add j) = some u := by
  subst hg
  exact cells_newOr w ky st en an asu ale amo fn fsu fle fmo td tm ty

/-- The block of a slice's rows, if there are any; what may be written; what has been marked. -/
def rowOr (a : Option Addr) (n : Nat) : Option Nat := if n = 0 then none else a.map (·.block)

theorem rowOr_zero (a : Option Addr) : rowOr a 0 = none := rfl

theorem rowOr_pos {n : Nat} (h : n ≠ 0) (g o : Nat) : rowOr (some ⟨g, o, none⟩) n = some g := by unfold rowOr; rw [if_neg h]; rfl

def markOr (i : Nat) : OrR := ⟨1 + 13 * (i : Int), 1 + 13 * (i : Int) + 1, 1 + 13 * (i : Int) + 1 + 1, 1 + 13 * (i : Int) + 1 + 1 + 1, 1 + 13 * (i : Int) + 1 + 1 + 1 + 1, 1 + 13 * (i : Int) + 1 + 1 + 1 + 1 + 1, 1 + 13 * (i : Int) + 1 + 1 + 1 + 1 + 1 + 1, 1 + 13 * (i : Int) + 1 + 1 + 1 + 1 + 1 + 1 + 1, 1 + 13 * (i : Int) + 1 + 1 + 1 + 1 + 1 + 1 + 1 + 1, 1 + 13 * (i : Int) + 1 + 1 + 1 + 1 + 1 + 1 + 1 + 1 + 1, 1 + 13 * (i : Int) + 1 + 1 + 1 + 1 + 1 + 1 + 1 + 1 + 1 + 1, 1 + 13 * (i : Int) + 1 + 1 + 1 + 1 + 1 + 1 + 1 + 1 + 1 + 1 + 1, decide ((1 + 13 * (i : Int) + 1 + 1 + 1 + 1 + 1 + 1 + 1 + 1 + 1 + 1 + 1 + 1) % 3 = 0)⟩

def WrOr (W : World) (a : Option Addr) (n cap : Nat) : Prop := n = 0 ∨ ∃ g, a = some ⟨g, 0, none⟩ ∧ BlkOr W g 66 cap ∧ n ≤ cap

def MarkedOr (W : World) (a : Option Addr) (n : Nat) : Prop := n = 0 ∨ ∃ g, a = some ⟨g, 0, none⟩ ∧ ∀ i, i < n → OrRAt W g (i * 13) (markOr i)

theorem grown0Or {W W' : World} (h : Below W.heap.size W W') : W.grownBy W' none := ⟨h.os, h.tape, h.output, h.size, fun k hk _ => h.block k hk⟩

theorem growOr {w W W' : World} {row : Option Nat} (h : Below w.heap.size w W) (hg : W.grownBy W' row) (hr : ∀ k, row = some k → w.heap.size ≤ k) : Below w.heap.size w W' := h.grown hg h.size hr

theorem MarkedOr.below {W W' : World} {a : Option Addr} {n : Nat} (h : MarkedOr W a n) (hb : Below W.heap.size W W') : MarkedOr W' a n := by
  rcases h with h | ⟨g, ha, hM⟩
  · exact Or.inl h
  · exact Or.inr ⟨g, ha, fun i hi => (hM i hi).below hb (hM i hi).lt⟩

theorem holdOr {W : World} {B : Nat} {v : Value} {ys : List OrR} (h : OwnOr W B v ys) (hl : ys.length ≤ 1048576) :
    ∃ a cap, v = .slice a ys.length cap ∧ OrRs W a ys.length ys ∧ WrOr W a ys.length cap ∧ ∀ g o, 0 < ys.length → a = some ⟨g, o, none⟩ → B ≤ g := by
  have hm : ys.length ≤ maxLen := by unfold maxLen; omega
  obtain ⟨hlen, h | ⟨g, cap, cur, rfl, hB, hblk, hnc, hcm, hsz, htk⟩⟩ := h
  · obtain ⟨rfl, h0⟩ := h
    rw [h0]
    exact ⟨none, 0, rfl, ⟨h0, Nat.zero_le _, Or.inl rfl⟩, Or.inl rfl, fun _ _ hp => by omega⟩
  · refine ⟨_, cap, rfl, ⟨rfl, hm, Or.inr ⟨g, 0, rfl, ?_⟩⟩, Or.inr ⟨g, rfl, ⟨cur, hblk, hsz⟩, hnc⟩, fun g' o' _ e => by simp at e; omega⟩
    intro i x hx
    have hi : i < ys.length := (List.getElem?_eq_some_iff.1 hx).1
    have hcell : ∀ j u, j < ys.length * 13 → (flatOr ys)[j]? = some u → W.cell? ⟨g, j, none⟩ = some u := by
      intro j u hj hu
      rw [Joins.cell_of_block hblk j, ← Array.getElem?_toList]
      rw [← htk, List.getElem?_take_of_lt hj] at hu
      exact hu
    obtain ⟨f0, f1, f2, f3, f4, f5, f6, f7, f8, f9, f10, f11, f12⟩ := flatOr_get hx
    rw [Nat.zero_add]
    exact ⟨hcell _ _ (by omega) f0, hcell _ _ (by omega) f1, hcell _ _ (by omega) f2, hcell _ _ (by omega) f3, hcell _ _ (by omega) f4, hcell _ _ (by omega) f5, hcell _ _ (by omega) f6, hcell _ _ (by omega) f7, hcell _ _ (by omega) f8, hcell _ _ (by omega) f9, hcell _ _ (by omega) f10, hcell _ _ (by omega) f11, hcell _ _ (by omega) f12⟩

theorem WrOr.below {W W' : World} {a : Option Addr} {n cap : Nat} (h : WrOr W a n cap) (hb : Below W.heap.size W W') : WrOr W' a n cap := by
  rcases h with h | ⟨g, ha, hB, hc⟩
  · exact Or.inl h
  · exact Or.inr ⟨g, ha, hB.below hb hB.lt, hc⟩

theorem WrOr.grown {W W' : World} {row : Option Nat} {a : Option Addr} {n cap : Nat} (h : WrOr W a n cap) (hg : W.grownBy W' row) (hne : ∀ g o, 0 < n → a = some ⟨g, o, none⟩ → some g ≠ row) : WrOr W' a n cap := by
  rcases h with h | ⟨g, ha, hB, hc⟩
  · exact Or.inl h
  · by_cases h0 : n = 0
    · exact Or.inl h0
    · obtain ⟨cur, c1, c2⟩ := hB
      exact Or.inr ⟨g, ha, ⟨cur, (hg.block g (Array.getElem?_eq_some_iff.1 c1).1 (hne g 0 (by omega) ha)).trans c1, c2⟩, hc⟩

theorem WrOr.shape {W : World} {a : Option Addr} {n cap : Nat} (h : WrOr W a n cap) : n = 0 ∨ ∃ g', a = some ⟨g', 0, none⟩ := by
  rcases h with h | ⟨g, ha, _⟩
  · exact Or.inl h
  · exact Or.inr ⟨g, ha⟩

theorem rowOr_ne {a : Option Addr} {n g : Nat} (h : ∀ g' o', 0 < n → a = some ⟨g', o', none⟩ → g ≠ g') (hs : n = 0 ∨ ∃ g', a = some ⟨g', 0, none⟩) : some g ≠ rowOr a n := by
  rcases hs with rfl | ⟨g', rfl⟩
  · simp [rowOr_zero]
  · by_cases h0 : n = 0
    · subst h0; simp [rowOr_zero]
    · rw [rowOr_pos h0]
      have := h g' 0 (by omega) rfl
      simpa using this

theorem rowOr_ge {a : Option Addr} {n B : Nat} (h : ∀ g' o', 0 < n → a = some ⟨g', o', none⟩ → B ≤ g') (hs : n = 0 ∨ ∃ g', a = some ⟨g', 0, none⟩) : ∀ k, rowOr a n = some k → B ≤ k := by
  intro k hk
  rcases hs with rfl | ⟨g', rfl⟩
  · simp [rowOr_zero] at hk
  · by_cases h0 : n = 0
    · subst h0; simp [rowOr_zero] at hk
    · rw [rowOr_pos h0] at hk
      have := h g' 0 (by omega) rfl
      simp at hk
      omega

theorem markOr_step {w wr : World} {g ty cap j : Nat} (hB : BlkOr wr g ty cap) (hj : j < cap) (hM : ∀ i, i < j → OrRAt wr g (i * 13) (markOr i)) (hG : w.grownBy wr (some g)) :
    BlkOr (setOr wr g (j * 13) (markOr j)) g ty cap ∧ (∀ i, i < j + 1 → OrRAt (setOr wr g (j * 13) (markOr j)) g (i * 13) (markOr i)) ∧ w.grownBy (setOr wr g (j * 13) (markOr j)) (some g) := by
  refine ⟨hB.sets _, fun i hi => ?_, grown_setOr hG⟩
  by_cases he : i = j
  · subst he
    exact setOr_this hB hj (markOr i)
  · exact setOr_ne (hM i (by omega)) he

set_option maxHeartbeats 1000000 in
theorem eqOr_one (x : OrR) (w : World) : Calls Try.prog 43 #[.agg #[.int .i64 x.ky, .int .i64 x.st, .int .i64 x.en, .int .i64 x.an, .int .i64 x.asu, .int .i64 x.ale, .int .i64 x.amo, .int .i64 x.fn, .int .i64 x.fsu, .int .i64 x.fle, .int .i64 x.fmo, .int .i64 x.td, .bool x.tm], .agg #[.int .i64 x.ky, .int .i64 x.st, .int .i64 x.en, .int .i64 x.an, .int .i64 x.asu, .int .i64 x.ale, .int .i64 x.amo, .int .i64 x.fn, .int .i64 x.fsu, .int .i64 x.fle, .int .i64 x.fmo, .int .i64 x.td, .bool x.tm]] w fun e w' => e = .returned (.bool true) ∧ Below w.heap.size w w' := by
  go_enter Try.func43, Try.ntmps43
  go_wp2_with (first
    | (go_at_call 44; refine (eqWinT _ _ _).mono ?_; rintro e w' ⟨rfl, hb⟩; obtain ⟨hc, hf, hs⟩ := bcell hb; (try have hz0 : w.heap.size < w'.heap.size := (by have h9 := hb.size; (try simp at h9); omega)); (try have hz1 : w.heap.size + 1 < w'.heap.size := (by have h9 := hb.size; (try simp at h9); omega)))
    | (go_at_call 45; refine (eqAggT _ _ _ _ _).mono ?_; rintro e w' ⟨rfl, hb⟩; obtain ⟨hc, hf, hs⟩ := bcell hb; (try have hz0 : w.heap.size < w'.heap.size := (by have h9 := hb.size; (try simp at h9); omega)); (try have hz1 : w.heap.size + 1 < w'.heap.size := (by have h9 := hb.size; (try simp at h9); omega))))
  go_ret
  exact ⟨rfl, (by repeat (first | (with_reducible refine bel_set ?_ (by first | (simp; done) | (simp; omega)) _) | (with_reducible refine bel_alloc ?_ _) | (with_reducible exact Below.refl _ _) | (with_reducible assumption) | (with_reducible refine bel_drew ?_) | (with_reducible refine bel_drewN ?_ _) | (with_reducible refine bel_trans ?_ (by with_reducible assumption))))⟩

set_option maxRecDepth 20000 in
set_option maxHeartbeats 1000000 in
theorem eqOr_any (a1 a2 : Option Addr) (len cap1 cap2 : Nat) (xs : List OrR) (w : World) (h1 : OrRs w a1 len xs) (h2 : OrRs w a2 len xs) : Calls Try.prog 26 #[.slice a1 len cap1, .slice a2 len cap2] w fun e w' => e = .returned (.bool true) ∧ Below w.heap.size w w' := by
  have hm := h1.2.1
  unfold maxLen at hm
  go_enter Try.func26, Try.ntmps26
  go_wp2
  go_loopw [5] (fun i wr => ∃ k : Nat, k ≤ len ∧ i = .int .i64 k ∧ Below w.heap.size w wr) (fun i _ => len - (intOf i).toNat)
  case atStart => exact ⟨0, Nat.zero_le _, rfl, Below.refl _ _⟩
  case round =>
    obtain ⟨k, hk, rfl, hbw⟩ := hrel
    by_cases hlt : k < len
    · obtain ⟨hl1, _, hx1⟩ := h1
      obtain ⟨hl2, _, hx2⟩ := h2
      obtain ⟨g1, o1, rfl, hr1⟩ := hx1.resolve_left (by omega)
      obtain ⟨g2, o2, rfl, hr2⟩ := hx2.resolve_left (by omega)
      obtain ⟨x, hxk⟩ : ∃ x, xs[k]? = some x := ⟨_, List.getElem?_eq_getElem (by omega)⟩
      have hg1 : g1 < w.heap.size := hr1.lt (by omega)
      have hg2 : g2 < w.heap.size := hr2.lt (by omega)
      have hs1 : g1 < wr.heap.size := Nat.lt_of_lt_of_le hg1 hbw.size
      have hs2 : g2 < wr.heap.size := Nat.lt_of_lt_of_le hg2 hbw.size
      have hS : ((wr.cell? ⟨g1, o1 + k * 13, none⟩ = some (.int .i64 x.ky) ∧ wr.cell? ⟨g1, o1 + k * 13 + 1, none⟩ = some (.int .i64 x.st) ∧ wr.cell? ⟨g1, o1 + k * 13 + 2, none⟩ = some (.int .i64 x.en) ∧ wr.cell? ⟨g1, o1 + k * 13 + 3, none⟩ = some (.int .i64 x.an) ∧ wr.cell? ⟨g1, o1 + k * 13 + 4, none⟩ = some (.int .i64 x.asu) ∧ wr.cell? ⟨g1, o1 + k * 13 + 5, none⟩ = some (.int .i64 x.ale) ∧ wr.cell? ⟨g1, o1 + k * 13 + 6, none⟩ = some (.int .i64 x.amo) ∧ wr.cell? ⟨g1, o1 + k * 13 + 7, none⟩ = some (.int .i64 x.fn) ∧ wr.cell? ⟨g1, o1 + k * 13 + 8, none⟩ = some (.int .i64 x.fsu) ∧ wr.cell? ⟨g1, o1 + k * 13 + 9, none⟩ = some (.int .i64 x.fle) ∧ wr.cell? ⟨g1, o1 + k * 13 + 10, none⟩ = some (.int .i64 x.fmo) ∧ wr.cell? ⟨g1, o1 + k * 13 + 11, none⟩ = some (.int .i64 x.td) ∧ wr.cell? ⟨g1, o1 + k * 13 + 12, none⟩ = some (.bool x.tm) ∧ wr.cell? ⟨g2, o2 + k * 13, none⟩ = some (.int .i64 x.ky) ∧ wr.cell? ⟨g2, o2 + k * 13 + 1, none⟩ = some (.int .i64 x.st) ∧ wr.cell? ⟨g2, o2 + k * 13 + 2, none⟩ = some (.int .i64 x.en) ∧ wr.cell? ⟨g2, o2 + k * 13 + 3, none⟩ = some (.int .i64 x.an) ∧ wr.cell? ⟨g2, o2 + k * 13 + 4, none⟩ = some (.int .i64 x.asu) ∧ wr.cell? ⟨g2, o2 + k * 13 + 5, none⟩ = some (.int .i64 x.ale) ∧ wr.cell? ⟨g2, o2 + k * 13 + 6, none⟩ = some (.int .i64 x.amo) ∧ wr.cell? ⟨g2, o2 + k * 13 + 7, none⟩ = some (.int .i64 x.fn) ∧ wr.cell? ⟨g2, o2 + k * 13 + 8, none⟩ = some (.int .i64 x.fsu) ∧ wr.cell? ⟨g2, o2 + k * 13 + 9, none⟩ = some (.int .i64 x.fle) ∧ wr.cell? ⟨g2, o2 + k * 13 + 10, none⟩ = some (.int .i64 x.fmo) ∧ wr.cell? ⟨g2, o2 + k * 13 + 11, none⟩ = some (.int .i64 x.td) ∧ wr.cell? ⟨g2, o2 + k * 13 + 12, none⟩ = some (.bool x.tm)) ∧ g1 < wr.heap.size ∧ g2 < wr.heap.size) := by
        obtain ⟨c0, c1, c2, c3, c4, c5, c6, c7, c8, c9, c10, c11, c12⟩ := (hr1 k _ hxk).below hbw hg1
        obtain ⟨d0, d1, d2, d3, d4, d5, d6, d7, d8, d9, d10, d11, d12⟩ := (hr2 k _ hxk).below hbw hg2
        exact ⟨⟨c0, c1, c2, c3, c4, c5, c6, c7, c8, c9, c10, c11, c12, d0, d1, d2, d3, d4, d5, d6, d7, d8, d9, d10, d11, d12⟩, hs1, hs2⟩
      clear hx1 hx2 hxk hr1 hr2
      go_wp2
      go_region_held3 (fun W => ((W.cell? ⟨g1, o1 + k * 13, none⟩ = some (.int .i64 x.ky) ∧ W.cell? ⟨g1, o1 + k * 13 + 1, none⟩ = some (.int .i64 x.st) ∧ W.cell? ⟨g1, o1 + k * 13 + 2, none⟩ = some (.int .i64 x.en) ∧ W.cell? ⟨g1, o1 + k * 13 + 3, none⟩ = some (.int .i64 x.an) ∧ W.cell? ⟨g1, o1 + k * 13 + 4, none⟩ = some (.int .i64 x.asu) ∧ W.cell? ⟨g1, o1 + k * 13 + 5, none⟩ = some (.int .i64 x.ale) ∧ W.cell? ⟨g1, o1 + k * 13 + 6, none⟩ = some (.int .i64 x.amo) ∧ W.cell? ⟨g1, o1 + k * 13 + 7, none⟩ = some (.int .i64 x.fn) ∧ W.cell? ⟨g1, o1 + k * 13 + 8, none⟩ = some (.int .i64 x.fsu) ∧ W.cell? ⟨g1, o1 + k * 13 + 9, none⟩ = some (.int .i64 x.fle) ∧ W.cell? ⟨g1, o1 + k * 13 + 10, none⟩ = some (.int .i64 x.fmo) ∧ W.cell? ⟨g1, o1 + k * 13 + 11, none⟩ = some (.int .i64 x.td) ∧ W.cell? ⟨g1, o1 + k * 13 + 12, none⟩ = some (.bool x.tm) ∧ W.cell? ⟨g2, o2 + k * 13, none⟩ = some (.int .i64 x.ky) ∧ W.cell? ⟨g2, o2 + k * 13 + 1, none⟩ = some (.int .i64 x.st) ∧ W.cell? ⟨g2, o2 + k * 13 + 2, none⟩ = some (.int .i64 x.en) ∧ W.cell? ⟨g2, o2 + k * 13 + 3, none⟩ = some (.int .i64 x.an) ∧ W.cell? ⟨g2, o2 + k * 13 + 4, none⟩ = some (.int .i64 x.asu) ∧ W.cell? ⟨g2, o2 + k * 13 + 5, none⟩ = some (.int .i64 x.ale) ∧ W.cell? ⟨g2, o2 + k * 13 + 6, none⟩ = some (.int .i64 x.amo) ∧ W.cell? ⟨g2, o2 + k * 13 + 7, none⟩ = some (.int .i64 x.fn) ∧ W.cell? ⟨g2, o2 + k * 13 + 8, none⟩ = some (.int .i64 x.fsu) ∧ W.cell? ⟨g2, o2 + k * 13 + 9, none⟩ = some (.int .i64 x.fle) ∧ W.cell? ⟨g2, o2 + k * 13 + 10, none⟩ = some (.int .i64 x.fmo) ∧ W.cell? ⟨g2, o2 + k * 13 + 11, none⟩ = some (.int .i64 x.td) ∧ W.cell? ⟨g2, o2 + k * 13 + 12, none⟩ = some (.bool x.tm)) ∧ g1 < W.heap.size ∧ g2 < W.heap.size)) ((first | ((repeat (first | (with_reducible assumption) | (with_reducible refine hd_13_13 ?_ (by with_reducible assumption)) | (with_reducible refine hd_13_13 ?_ (bel_drew (Below.refl _ _))) | (with_reducible exact hd_13_13_re (by with_reducible assumption) (by first | omega | (simp; done) | (simp; omega)) (by first | omega | (simp; done) | (simp; omega))) | (with_reducible refine hd_13_13 ?_ (bel_one _ _)) | (with_reducible refine hd_13_13_set ?_ (by first | omega | (simp; done) | (simp; omega)) (by first | omega | (simp; done) | (simp; omega)) _))); done) | (refine ⟨⟨?_, ?_, ?_, ?_, ?_, ?_, ?_, ?_, ?_, ?_, ?_, ?_, ?_, ?_, ?_, ?_, ?_, ?_, ?_, ?_, ?_, ?_, ?_, ?_, ?_, ?_⟩, ?_, ?_⟩ <;> first | (go_keep; done) | (simp; done) | (simp; omega) | omega)))
        (first
        | (go_at_call 43; refine (eqOr_one _ _).mono ?_; rintro e w' ⟨rfl, hb⟩; obtain ⟨hc, hf, hs⟩ := bcell hb))
      go_wp2
      go_roundw
      case rel => exact ⟨k + 1, by omega, by go_num, (by repeat (first | (with_reducible refine bel_set ?_ (by first | (simp; done) | (simp; omega)) _) | (with_reducible refine bel_alloc ?_ _) | (with_reducible exact Below.refl _ _) | (with_reducible assumption) | (with_reducible refine bel_drew ?_) | (with_reducible refine bel_drewN ?_ _) | (with_reducible refine bel_trans ?_ (by with_reducible assumption))))⟩
      case measure => simp [intOf]; omega
    · go_wp2
      go_ret
      exact ⟨rfl, hbw⟩

set_option maxRecDepth 20000 in
set_option maxHeartbeats 1000000 in
theorem markOr_any (a : Option Addr) (n cap : Nat) (w : World) (h : WrOr w a n cap) (hn : n ≤ 1048576) : Calls Try.prog 28 #[.slice a n cap, .int .i64 1] w fun e w' => e = .returned (.int .i64 (1 + 13 * (n : Int))) ∧ MarkedOr w' a n ∧ w.grownBy w' (rowOr a n) := by
  by_cases h0 : n = 0
  · subst h0
    go_enter Try.func28, Try.ntmps28
    go_wp2
    go_loopw [1, 5] (fun kv i wr => kv = .int .i64 1 ∧ i = .int .i64 0 ∧ wr = w) (fun _ _ _ => 0)
    case atStart => exact ⟨rfl, rfl, rfl⟩
    case round =>
      obtain ⟨rfl, rfl, rfl⟩ := hrel
      go_wp2
      go_ret
      exact ⟨rfl, Or.inl rfl, grown0Or (Below.refl _ _)⟩
  · obtain ⟨g, rfl, hB, hc⟩ := h.resolve_left h0
    rw [rowOr_pos h0]
    go_enter Try.func28, Try.ntmps28
    go_wp2
    go_loopw [1, 5] (fun kv i wr => ∃ j : Nat, j ≤ n ∧ kv = .int .i64 (1 + 13 * (j : Int)) ∧ i = .int .i64 j ∧ BlkOr wr g 66 cap ∧ (∀ i, i < j → OrRAt wr g (i * 13) (markOr i)) ∧ w.grownBy wr (some g)) (fun _ i _ => n - (intOf i).toNat)
    case atStart => exact ⟨0, Nat.zero_le _, rfl, rfl, hB, fun i hi => absurd hi (by omega), ⟨rfl, rfl, rfl, Nat.le_refl _, fun _ _ _ => rfl⟩⟩
    case round =>
      obtain ⟨j, hj, rfl, rfl, hBw, hM, hG⟩ := hrel
      have HM := hide hM
      clear hM
      by_cases hlt : j < n
      · obtain ⟨⟨u0, d0⟩, ⟨u1, d1⟩, ⟨u2, d2⟩, ⟨u3, d3⟩, ⟨u4, d4⟩, ⟨u5, d5⟩, ⟨u6, d6⟩, ⟨u7, d7⟩, ⟨u8, d8⟩, ⟨u9, d9⟩, ⟨u10, d10⟩, ⟨u11, d11⟩, ⟨u12, d12⟩⟩ := hBw.cells (k := j) (by omega)
        have f0 := hBw.frozen (i := j * 13)
        have f1 := hBw.frozen (i := j * 13 + 1)
        have f2 := hBw.frozen (i := j * 13 + 2)
        have f3 := hBw.frozen (i := j * 13 + 3)
        have f4 := hBw.frozen (i := j * 13 + 4)
        have f5 := hBw.frozen (i := j * 13 + 5)
        have f6 := hBw.frozen (i := j * 13 + 6)
        have f7 := hBw.frozen (i := j * 13 + 7)
        have f8 := hBw.frozen (i := j * 13 + 8)
        have f9 := hBw.frozen (i := j * 13 + 9)
        have f10 := hBw.frozen (i := j * 13 + 10)
        have f11 := hBw.frozen (i := j * 13 + 11)
        have f12 := hBw.frozen (i := j * 13 + 12)
        go_wp2
        go_roundw
        case rel =>
          obtain ⟨s1, s2, s3⟩ := markOr_step hBw (by omega) (unhide HM) hG
          exact ⟨j + 1, by omega, by go_num, by go_num, s1, s2, s3⟩
        case measure => simp [intOf]; omega
      · obtain rfl : j = n := by omega
        go_wp2
        go_ret
        exact ⟨rfl, Or.inr ⟨g, rfl, unhide HM⟩, hG⟩

set_option maxRecDepth 20000 in
set_option maxHeartbeats 1000000 in
theorem heldOr_any (a : Option Addr) (n cap : Nat) (w : World) (h : MarkedOr w a n) (hn : n ≤ 1048576) : Calls Try.prog 29 #[.slice a n cap, .int .i64 1] w fun e w' => e = .returned (.int .i64 (1 + 13 * (n : Int))) ∧ w' = w := by
  go_enter Try.func29, Try.ntmps29
  go_wp2
  go_loop [1, 5] (fun kv i => ∃ j : Nat, j ≤ n ∧ kv = .int .i64 (1 + 13 * (j : Int)) ∧ i = .int .i64 j) (fun _ i => n - (intOf i).toNat)
  case atStart => exact ⟨0, Nat.zero_le _, rfl, rfl⟩
  case round =>
    obtain ⟨j, hj, rfl, rfl⟩ := hrel
    by_cases hlt : j < n
    · obtain ⟨g, rfl, hM⟩ := h.resolve_left (by omega)
      obtain ⟨c0, c1, c2, c3, c4, c5, c6, c7, c8, c9, c10, c11, c12⟩ := (show w.cell? ⟨g, j * 13, none⟩ = some (.int .i64 (1 + 13 * (j : Int))) ∧ w.cell? ⟨g, j * 13 + 1, none⟩ = some (.int .i64 (1 + 13 * (j : Int) + 1)) ∧ w.cell? ⟨g, j * 13 + 2, none⟩ = some (.int .i64 (1 + 13 * (j : Int) + 1 + 1)) ∧ w.cell? ⟨g, j * 13 + 3, none⟩ = some (.int .i64 (1 + 13 * (j : Int) + 1 + 1 + 1)) ∧ w.cell? ⟨g, j * 13 + 4, none⟩ = some (.int .i64 (1 + 13 * (j : Int) + 1 + 1 + 1 + 1)) ∧ w.cell? ⟨g, j * 13 + 5, none⟩ = some (.int .i64 (1 + 13 * (j : Int) + 1 + 1 + 1 + 1 + 1)) ∧ w.cell? ⟨g, j * 13 + 6, none⟩ = some (.int .i64 (1 + 13 * (j : Int) + 1 + 1 + 1 + 1 + 1 + 1)) ∧ w.cell? ⟨g, j * 13 + 7, none⟩ = some (.int .i64 (1 + 13 * (j : Int) + 1 + 1 + 1 + 1 + 1 + 1 + 1)) ∧ w.cell? ⟨g, j * 13 + 8, none⟩ = some (.int .i64 (1 + 13 * (j : Int) + 1 + 1 + 1 + 1 + 1 + 1 + 1 + 1)) ∧ w.cell? ⟨g, j * 13 + 9, none⟩ = some (.int .i64 (1 + 13 * (j : Int) + 1 + 1 + 1 + 1 + 1 + 1 + 1 + 1 + 1)) ∧ w.cell? ⟨g, j * 13 + 10, none⟩ = some (.int .i64 (1 + 13 * (j : Int) + 1 + 1 + 1 + 1 + 1 + 1 + 1 + 1 + 1 + 1)) ∧ w.cell? ⟨g, j * 13 + 11, none⟩ = some (.int .i64 (1 + 13 * (j : Int) + 1 + 1 + 1 + 1 + 1 + 1 + 1 + 1 + 1 + 1 + 1)) ∧ w.cell? ⟨g, j * 13 + 12, none⟩ = some (.bool (decide ((1 + 13 * (j : Int) + 1 + 1 + 1 + 1 + 1 + 1 + 1 + 1 + 1 + 1 + 1 + 1) % 3 = 0))) from hM j hlt)
      clear hM
      by_cases h3 : (1 + 13 * (j : Int) + 1 + 1 + 1 + 1 + 1 + 1 + 1 + 1 + 1 + 1 + 1 + 1) % 3 = 0
      · rw [decide_eq_true h3] at c12
        go_wp2
        go_round
        case rel => exact ⟨j + 1, by omega, by go_num, by go_num⟩
        case measure => simp [intOf]; omega
      · rw [decide_eq_false h3] at c12
        go_wp2
        go_round
        case rel => exact ⟨j + 1, by omega, by go_num, by go_num⟩
        case measure => simp [intOf]; omega
    · obtain rfl : j = n := by omega
      go_wp2
      go_ret
      exact ⟨rfl, rfl⟩
end Go.Proofs.Ytflignpbboiahaa
