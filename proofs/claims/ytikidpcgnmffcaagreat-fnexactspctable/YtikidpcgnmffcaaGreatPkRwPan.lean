/- Laid together: what the claim needs of the texts that were built one by one. -/
import Derived.Test.YtikidpcgnmffcaaGreatPkBase
import Derived.Deep.Slices
import Derived.Lib.SmallJoins
import Derived.OwnWalk
import Derived.WalkSpells
import Derived.Deep.RegionHeld3
namespace Go.Proofs.YtikidpcgnmffcaaGreat
open Go.ChangeShapes Go.WideShapes Go.ChangeAt Go.RowKit
set_option linter.unusedVariables false

/-- A row of 9 numbers. -/
structure PnR where
  ky : Int
  st : Int
  en : Int
  no : Int
  kd : Int
  n : Int
  su : Int
  le : Int
  mo : Int

/-- A row lies in its cells; rows lie one behind the other; a slice's value holds rows. -/
def PnRAt (W : World) (g o : Nat) (x : PnR) : Prop := W.cell? ⟨g, o, none⟩ = some (.int .i64 x.ky) ∧ W.cell? ⟨g, o + 1, none⟩ = some (.int .i64 x.st) ∧ W.cell? ⟨g, o + 2, none⟩ = some (.int .i64 x.en) ∧ W.cell? ⟨g, o + 3, none⟩ = some (.int .i64 x.no) ∧ W.cell? ⟨g, o + 4, none⟩ = some (.int .i64 x.kd) ∧ W.cell? ⟨g, o + 5, none⟩ = some (.int .i64 x.n) ∧ W.cell? ⟨g, o + 6, none⟩ = some (.int .i64 x.su) ∧ W.cell? ⟨g, o + 7, none⟩ = some (.int .i64 x.le) ∧ W.cell? ⟨g, o + 8, none⟩ = some (.int .i64 x.mo)

def PnRsAt (W : World) (g o : Nat) (xs : List PnR) : Prop := ∀ i x, xs[i]? = some x → PnRAt W g (o + i * 9) x

def PnRs (W : World) (a : Option Addr) (len : Nat) (xs : List PnR) : Prop := xs.length = len ∧ len ≤ maxLen ∧ (len = 0 ∨ ∃ g o, a = some ⟨g, o, none⟩ ∧ PnRsAt W g o xs)

theorem PnRAt.lt {W : World} {g o : Nat} {x : PnR} (h : PnRAt W g o x) : g < W.heap.size := by
  obtain ⟨h0, _⟩ := h
  rcases Nat.lt_or_ge g W.heap.size with hl | hg
  · exact hl
  · simp [World.cell?, Array.getElem?_eq_none hg] at h0

theorem PnRsAt.lt {W : World} {g o : Nat} {xs : List PnR} (h : PnRsAt W g o xs) (hp : 0 < xs.length) : g < W.heap.size := (h 0 xs[0] (List.getElem?_eq_getElem hp)).lt

theorem PnRAt.below {W W' : World} {B g o : Nat} {x : PnR} (h : PnRAt W g o x) (hb : Below B W W') (hg : g < B) : PnRAt W' g o x := by
  obtain ⟨h0, h1, h2, h3, h4, h5, h6, h7, h8⟩ := h
  exact ⟨(hb.cell (p := ⟨g, _, none⟩) hg).trans h0, (hb.cell (p := ⟨g, _, none⟩) hg).trans h1, (hb.cell (p := ⟨g, _, none⟩) hg).trans h2, (hb.cell (p := ⟨g, _, none⟩) hg).trans h3, (hb.cell (p := ⟨g, _, none⟩) hg).trans h4, (hb.cell (p := ⟨g, _, none⟩) hg).trans h5, (hb.cell (p := ⟨g, _, none⟩) hg).trans h6, (hb.cell (p := ⟨g, _, none⟩) hg).trans h7, (hb.cell (p := ⟨g, _, none⟩) hg).trans h8⟩

theorem PnRsAt.below {W W' : World} {B g o : Nat} {xs : List PnR} (h : PnRsAt W g o xs) (hb : Below B W W') (hg : 0 < xs.length → g < B) : PnRsAt W' g o xs := by
  intro i x hx
  have hlt : i < xs.length := (List.getElem?_eq_some_iff.1 hx).1
  exact (h i x hx).below hb (hg (by omega))

theorem PnRs.below {W W' : World} {a : Option Addr} {len : Nat} {xs : List PnR} (h : PnRs W a len xs) (hb : Below W.heap.size W W') : PnRs W' a len xs := by
  obtain ⟨h1, h2, h3⟩ := h
  refine ⟨h1, h2, ?_⟩
  rcases h3 with h3 | ⟨g, o, ha, hr⟩
  · exact Or.inl h3
  · exact Or.inr ⟨g, o, ha, hr.below hb (fun hp => hr.lt hp)⟩

theorem PnRAt.grown {W W' : World} {row : Option Nat} {g o : Nat} {x : PnR} (h : PnRAt W g o x) (hg : W.grownBy W' row) (hne : some g ≠ row) : PnRAt W' g o x := by
  have hbk := hg.block g h.lt hne
  obtain ⟨h0, h1, h2, h3, h4, h5, h6, h7, h8⟩ := h
  exact ⟨(World.cell?_of_block (w := W) hbk).trans h0, (World.cell?_of_block (w := W) hbk).trans h1, (World.cell?_of_block (w := W) hbk).trans h2, (World.cell?_of_block (w := W) hbk).trans h3, (World.cell?_of_block (w := W) hbk).trans h4, (World.cell?_of_block (w := W) hbk).trans h5, (World.cell?_of_block (w := W) hbk).trans h6, (World.cell?_of_block (w := W) hbk).trans h7, (World.cell?_of_block (w := W) hbk).trans h8⟩

theorem PnRs.grown {W W' : World} {row : Option Nat} {a : Option Addr} {n : Nat} {xs : List PnR} (h : PnRs W a n xs) (hg : W.grownBy W' row) (hne : ∀ g o, 0 < n → a = some ⟨g, o, none⟩ → some g ≠ row) : PnRs W' a n xs := by
  obtain ⟨h1, h2, h3⟩ := h
  refine ⟨h1, h2, ?_⟩
  rcases h3 with h3 | ⟨g, o, ha, hr⟩
  · exact Or.inl h3
  · refine Or.inr ⟨g, o, ha, fun i x hx => (hr i x hx).grown hg (hne g o ?_ ha)⟩
    have hlt : i < xs.length := (List.getElem?_eq_some_iff.1 hx).1
    omega

theorem PnRs.lt {W : World} {g o n : Nat} {xs : List PnR} (h : PnRs W (some ⟨g, o, none⟩) n xs) (hp : 0 < n) : g < W.heap.size := by
  obtain ⟨h1, h2, h3⟩ := h
  obtain ⟨g', o', ha, hr⟩ := h3.resolve_left (by omega)
  simp at ha
  have := hr.lt (by omega)
  omega

/-- A row is stored; a block of rows, known whole. -/
def setPn (W : World) (g o : Nat) (x : PnR) : World := (((((((((W.setCell ⟨g, o, none⟩ (.int .i64 x.ky)).setCell ⟨g, o + 1, none⟩ (.int .i64 x.st)).setCell ⟨g, o + 2, none⟩ (.int .i64 x.en)).setCell ⟨g, o + 3, none⟩ (.int .i64 x.no)).setCell ⟨g, o + 4, none⟩ (.int .i64 x.kd)).setCell ⟨g, o + 5, none⟩ (.int .i64 x.n)).setCell ⟨g, o + 6, none⟩ (.int .i64 x.su)).setCell ⟨g, o + 7, none⟩ (.int .i64 x.le)).setCell ⟨g, o + 8, none⟩ (.int .i64 x.mo))

def BlkPn (W : World) (g ty len : Nat) : Prop := ∃ cur, W.heap[g]? = some (.cells cur ty (0, 0)) ∧ cur.size = len * 9

theorem BlkPn.set {W : World} {g ty len i : Nat} (h : BlkPn W g ty len) (v : Value) : BlkPn (W.setCell ⟨g, i, none⟩ v) g ty len := by
  obtain ⟨cur, h1, h2⟩ := h
  exact ⟨_, Joins.block_setCell h1 v, by simp [h2]⟩

theorem BlkPn.below {W W' : World} {g ty len B : Nat} (h : BlkPn W g ty len) (hb : Below B W W') (hg : g < B) : BlkPn W' g ty len := by
  obtain ⟨cur, h1, h2⟩ := h
  exact ⟨cur, (hb.block g hg).trans h1, h2⟩

theorem BlkPn.lt {W : World} {g ty len : Nat} (h : BlkPn W g ty len) : g < W.heap.size := by
  obtain ⟨cur, h1, h2⟩ := h
  exact (Array.getElem?_eq_some_iff.1 h1).1

theorem BlkPn.cell {W : World} {g ty len i : Nat} (h : BlkPn W g ty len) (hi : i < len * 9) : ∃ u, W.cell? ⟨g, i, none⟩ = some u := by
  obtain ⟨cur, h1, h2⟩ := h
  exact ⟨_, (Joins.cell_of_block h1 i).trans (Array.getElem?_eq_getElem (by omega))⟩

theorem BlkPn.frozen {W : World} {g ty len i : Nat} (h : BlkPn W g ty len) : W.frozen? ⟨g, i, none⟩ = false := by
  obtain ⟨cur, h1, h2⟩ := h
  exact Joins.unfrozen_of_block h1 i

theorem BlkPn.cells {W : World} {g ty len k : Nat} (h : BlkPn W g ty len) (hk : k < len) : (∃ u, W.cell? ⟨g, k * 9, none⟩ = some u) ∧ (∃ u, W.cell? ⟨g, k * 9 + 1, none⟩ = some u) ∧ (∃ u, W.cell? ⟨g, k * 9 + 2, none⟩ = some u) ∧ (∃ u, W.cell? ⟨g, k * 9 + 3, none⟩ = some u) ∧ (∃ u, W.cell? ⟨g, k * 9 + 4, none⟩ = some u) ∧ (∃ u, W.cell? ⟨g, k * 9 + 5, none⟩ = some u) ∧ (∃ u, W.cell? ⟨g, k * 9 + 6, none⟩ = some u) ∧ (∃ u, W.cell? ⟨g, k * 9 + 7, none⟩ = some u) ∧ (∃ u, W.cell? ⟨g, k * 9 + 8, none⟩ = some u) := ⟨h.cell (by omega), h.cell (by omega), h.cell (by omega), h.cell (by omega), h.cell (by omega), h.cell (by omega), h.cell (by omega), h.cell (by omega), h.cell (by omega)⟩

theorem BlkPn.sets {W : World} {g ty len o : Nat} (h : BlkPn W g ty len) (x : PnR) : BlkPn (setPn W g o x) g ty len := (((((((((h.set _).set _).set _).set _).set _).set _).set _).set _).set _)
end Go.Proofs.YtikidpcgnmffcaaGreat
