/- Proved here, for any program: a slice of structs of 7 ints as a list of rows in memory: kept, filled, owned, told to be the same, marked and found again. -/
import Derived.Test.YtlaildbjcmihkaaHd77
import Derived.Test.YtlaildbjcmihkaaEqWA
import Derived.Deep.Slices
import Derived.Lib.SmallJoins
import Derived.OwnWalk
import Derived.WalkSpells
import Derived.Deep.RegionHeld3
namespace Go.Proofs.Ytlaildbjcmihkaa
open Go.ChangeShapes Go.WideShapes Go.ChangeAt Go.RowKit
set_option linter.unusedVariables false

/-- A row of 7 numbers. -/
structure TbR where
  ky : Int
  st : Int
  en : Int
  n : Int
  su : Int
  le : Int
  mo : Int
/-- A row lies in its cells; rows lie one behind the other; a slice's value holds rows. -/
def TbRAt (W : World) (g o : Nat) (x : TbR) : Prop := W.cell? ⟨g, o, none⟩ = some (.int .i64 x.ky) ∧ W.cell? ⟨g, o + 1, none⟩ = some (.int .i64 x.st) ∧ W.cell? ⟨g, o + 2, none⟩ = some (.int .i64 x.en) ∧ W.cell? ⟨g, o + 3, none⟩ = some (.int .i64 x.n) ∧ W.cell? ⟨g, o + 4, none⟩ = some (.int .i64 x.su) ∧ W.cell? ⟨g, o + 5, none⟩ = some (.int .i64 x.le) ∧ W.cell? ⟨g, o + 6, none⟩ = some (.int .i64 x.mo)
def TbRsAt (W : World) (g o : Nat) (xs : List TbR) : Prop := ∀ i x, xs[i]? = some x → TbRAt W g (o + i * 7) x
def TbRs (W : World) (a : Option Addr) (len : Nat) (xs : List TbR) : Prop := xs.length = len ∧ len ≤ maxLen ∧ (len = 0 ∨ ∃ g o, a = some ⟨g, o, none⟩ ∧ TbRsAt W g o xs)
theorem TbRAt.lt {W : World} {g o : Nat} {x : TbR} (h : TbRAt W g o x) : g < W.heap.size := by
  obtain ⟨h0, _⟩ := h
  rcases Nat.lt_or_ge g W.heap.size with hl | hg
  · exact hl
  · simp [World.cell?, Array.getElem?_eq_none hg] at h0
theorem TbRsAt.lt {W : World} {g o : Nat} {xs : List TbR} (h : TbRsAt W g o xs) (hp : 0 < xs.length) : g < W.heap.size := (h 0 xs[0] (List.getElem?_eq_getElem hp)).lt
theorem TbRAt.below {W W' : World} {B g o : Nat} {x : TbR} (h : TbRAt W g o x) (hb : Below B W W') (hg : g < B) : TbRAt W' g o x := by
  obtain ⟨h0, h1, h2, h3, h4, h5, h6⟩ := h
  exact ⟨(hb.cell (p := ⟨g, _, none⟩) hg).trans h0, (hb.cell (p := ⟨g, _, none⟩) hg).trans h1, (hb.cell (p := ⟨g, _, none⟩) hg).trans h2, (hb.cell (p := ⟨g, _, none⟩) hg).trans h3, (hb.cell (p := ⟨g, _, none⟩) hg).trans h4, (hb.cell (p := ⟨g, _, none⟩) hg).trans h5, (hb.cell (p := ⟨g, _, none⟩) hg).trans h6⟩
theorem TbRsAt.below {W W' : World} {B g o : Nat} {xs : List TbR} (h : TbRsAt W g o xs) (hb : Below B W W') (hg : 0 < xs.length → g < B) : TbRsAt W' g o xs := by
  intro i x hx
  have hlt : i < xs.length := (List.getElem?_eq_some_iff.1 hx).1
  exact (h i x hx).below hb (hg (by omega))
theorem TbRs.below {W W' : World} {a : Option Addr} {len : Nat} {xs : List TbR} (h : TbRs W a len xs) (hb : Below W.heap.size W W') : TbRs W' a len xs := by
  obtain ⟨h1, h2, h3⟩ := h
  refine ⟨h1, h2, ?_⟩
  rcases h3 with h3 | ⟨g, o, ha, hr⟩
  · exact Or.inl h3
  · exact Or.inr ⟨g, o, ha, hr.below hb (fun hp => hr.lt hp)⟩
theorem TbRAt.grown {W W' : World} {row : Option Nat} {g o : Nat} {x : TbR} (h : TbRAt W g o x) (hg : W.grownBy W' row) (hne : some g ≠ row) : TbRAt W' g o x := by
  have hbk := hg.block g h.lt hne
  obtain ⟨h0, h1, h2, h3, h4, h5, h6⟩ := h
  exact ⟨(World.cell?_of_block (w := W) hbk).trans h0, (World.cell?_of_block (w := W) hbk).trans h1, (World.cell?_of_block (w := W) hbk).trans h2, (World.cell?_of_block (w := W) hbk).trans h3, (World.cell?_of_block (w := W) hbk).trans h4, (World.cell?_of_block (w := W) hbk).trans h5, (World.cell?_of_block (w := W) hbk).trans h6⟩
theorem TbRs.grown {W W' : World} {row : Option Nat} {a : Option Addr} {n : Nat} {xs : List TbR} (h : TbRs W a n xs) (hg : W.grownBy W' row) (hne : ∀ g o, 0 < n → a = some ⟨g, o, none⟩ → some g ≠ row) : TbRs W' a n xs := by
  obtain ⟨h1, h2, h3⟩ := h
  refine ⟨h1, h2, ?_⟩
  rcases h3 with h3 | ⟨g, o, ha, hr⟩
  · exact Or.inl h3
  · refine Or.inr ⟨g, o, ha, fun i x hx => (hr i x hx).grown hg (hne g o ?_ ha)⟩
    have hlt : i < xs.length := (List.getElem?_eq_some_iff.1 hx).1
    omega
theorem TbRs.lt {W : World} {g o n : Nat} {xs : List TbR} (h : TbRs W (some ⟨g, o, none⟩) n xs) (hp : 0 < n) : g < W.heap.size := by
  obtain ⟨h1, h2, h3⟩ := h
  obtain ⟨g', o', ha, hr⟩ := h3.resolve_left (by omega)
  simp at ha
  have := hr.lt (by omega)
  omega

/-- A row is stored; a block of rows, known whole. -/
def setTb (W : World) (g o : Nat) (x : TbR) : World := (((((((W.setCell ⟨g, o, none⟩ (.int .i64 x.ky)).setCell ⟨g, o + 1, none⟩ (.int .i64 x.st)).setCell ⟨g, o + 2, none⟩ (.int .i64 x.en)).setCell ⟨g, o + 3, none⟩ (.int .i64 x.n)).setCell ⟨g, o + 4, none⟩ (.int .i64 x.su)).setCell ⟨g, o + 5, none⟩ (.int .i64 x.le)).setCell ⟨g, o + 6, none⟩ (.int .i64 x.mo))
def BlkTb (W : World) (g ty len : Nat) : Prop := ∃ cur, W.heap[g]? = some (.cells cur ty (0, 0)) ∧ cur.size = len * 7
theorem BlkTb.set {W : World} {g ty len i : Nat} (h : BlkTb W g ty len) (v : Value) : BlkTb (W.setCell ⟨g, i, none⟩ v) g ty len := by
  obtain ⟨cur, h1, h2⟩ := h
  exact ⟨_, Joins.block_setCell h1 v, by simp [h2]⟩
theorem BlkTb.below {W W' : World} {g ty len B : Nat} (h : BlkTb W g ty len) (hb : Below B W W') (hg : g < B) : BlkTb W' g ty len := by
  obtain ⟨cur, h1, h2⟩ := h
  exact ⟨cur, (hb.block g hg).trans h1, h2⟩
theorem BlkTb.lt {W : World} {g ty len : Nat} (h : BlkTb W g ty len) : g < W.heap.size := by
  obtain ⟨cur, h1, h2⟩ := h
  exact (Array.getElem?_eq_some_iff.1 h1).1
theorem BlkTb.cell {W : World} {g ty len i : Nat} (h : BlkTb W g ty len) (hi : i < len * 7) : ∃ u, W.cell? ⟨g, i, none⟩ = some u := by
  obtain ⟨cur, h1, h2⟩ := h
  exact ⟨_, (Joins.cell_of_block h1 i).trans (Array.getElem?_eq_getElem (by omega))⟩
theorem BlkTb.frozen {W : World} {g ty len i : Nat} (h : BlkTb W g ty len) : W.frozen? ⟨g, i, none⟩ = false := by
  obtain ⟨cur, h1, h2⟩ := h
  exact Joins.unfrozen_of_block h1 i
theorem BlkTb.cells {W : World} {g ty len k : Nat} (h : BlkTb W g ty len) (hk : k < len) : (∃ u, W.cell? ⟨g, k * 7, none⟩ = some u) ∧ (∃ u, W.cell? ⟨g, k * 7 + 1, none⟩ = some u) ∧ (∃ u, W.cell? ⟨g, k * 7 + 2, none⟩ = some u) ∧ (∃ u, W.cell? ⟨g, k * 7 + 3, none⟩ = some u) ∧ (∃ u, W.cell? ⟨g, k * 7 + 4, none⟩ = some u) ∧ (∃ u, W.cell? ⟨g, k * 7 + 5, none⟩ = some u) ∧ (∃ u, W.cell? ⟨g, k * 7 + 6, none⟩ = some u) := ⟨h.cell (by omega), h.cell (by omega), h.cell (by omega), h.cell (by omega), h.cell (by omega), h.cell (by omega), h.cell (by omega)⟩
theorem BlkTb.sets {W : World} {g ty len o : Nat} (h : BlkTb W g ty len) (x : TbR) : BlkTb (setTb W g o x) g ty len := (((((((h.set _).set _).set _).set _).set _).set _).set _)
theorem Tb_other {W : World} {g i j : Nat} {v : Value} (h : i ≠ j) : (W.setCell ⟨g, i, none⟩ v).cell? ⟨g, j, none⟩ = W.cell? ⟨g, j, none⟩ := World.cell?_setCell_other _ _ _ _ (by intro e; injection e with e1 e2; exact h e2)
theorem Tb_this {W : World} {g ty len i : Nat} {v : Value} (h : BlkTb W g ty len) (hi : i < len * 7) : (W.setCell ⟨g, i, none⟩ v).cell? ⟨g, i, none⟩ = some v := by
  obtain ⟨u, hu⟩ := h.cell hi
  exact World.cell?_setCell_same _ _ _ hu
theorem setTb_this {W : World} {g ty len k : Nat} (h : BlkTb W g ty len) (hk : k < len) (x : TbR) : TbRAt (setTb W g (k * 7) x) g (k * 7) x := by
  unfold setTb
  refine ⟨?_, ?_, ?_, ?_, ?_, ?_, ?_⟩
  · rw [Tb_other (by omega), Tb_other (by omega), Tb_other (by omega), Tb_other (by omega), Tb_other (by omega), Tb_other (by omega), Tb_this h (by omega)]
  · rw [Tb_other (by omega), Tb_other (by omega), Tb_other (by omega), Tb_other (by omega), Tb_other (by omega), Tb_this (h.set _) (by omega)]
  · rw [Tb_other (by omega), Tb_other (by omega), Tb_other (by omega), Tb_other (by omega), Tb_this ((h.set _).set _) (by omega)]
  · rw [Tb_other (by omega), Tb_other (by omega), Tb_other (by omega), Tb_this (((h.set _).set _).set _) (by omega)]
  · rw [Tb_other (by omega), Tb_other (by omega), Tb_this ((((h.set _).set _).set _).set _) (by omega)]
  · rw [Tb_other (by omega), Tb_this (((((h.set _).set _).set _).set _).set _) (by omega)]
  · rw [Tb_this ((((((h.set _).set _).set _).set _).set _).set _) (by omega)]
theorem setTb_ne {W : World} {g i k : Nat} {x y : TbR} (h : TbRAt W g (i * 7) y) (hk : i ≠ k) : TbRAt (setTb W g (k * 7) x) g (i * 7) y := by
  unfold setTb
  obtain ⟨h0, h1, h2, h3, h4, h5, h6⟩ := h
  refine ⟨?_, ?_, ?_, ?_, ?_, ?_, ?_⟩
  · rw [Tb_other (by omega), Tb_other (by omega), Tb_other (by omega), Tb_other (by omega), Tb_other (by omega), Tb_other (by omega), Tb_other (by omega)]; exact h0
  · rw [Tb_other (by omega), Tb_other (by omega), Tb_other (by omega), Tb_other (by omega), Tb_other (by omega), Tb_other (by omega), Tb_other (by omega)]; exact h1
  · rw [Tb_other (by omega), Tb_other (by omega), Tb_other (by omega), Tb_other (by omega), Tb_other (by omega), Tb_other (by omega), Tb_other (by omega)]; exact h2
  · rw [Tb_other (by omega), Tb_other (by omega), Tb_other (by omega), Tb_other (by omega), Tb_other (by omega), Tb_other (by omega), Tb_other (by omega)]; exact h3
  · rw [Tb_other (by omega), Tb_other (by omega), Tb_other (by omega), Tb_other (by omega), Tb_other (by omega), Tb_other (by omega), Tb_other (by omega)]; exact h4
  · rw [Tb_other (by omega), Tb_other (by omega), Tb_other (by omega), Tb_other (by omega), Tb_other (by omega), Tb_other (by omega), Tb_other (by omega)]; exact h5
  · rw [Tb_other (by omega), Tb_other (by omega), Tb_other (by omega), Tb_other (by omega), Tb_other (by omega), Tb_other (by omega), Tb_other (by omega)]; exact h6
theorem grown_setTb {W W' : World} {g o : Nat} {x : TbR} (h : W.grownBy W' (some g)) : W.grownBy (setTb W' g o x) (some g) := by
  have hs : ∀ (X : World) (i : Nat) (v : Value), W.grownBy X (some g) → W.grownBy (X.setCell ⟨g, i, none⟩ v) (some g) := by
    intro X i v hX
    exact ⟨hX.os, hX.tape, hX.output, by simp [World.setCell]; exact hX.size, fun k hk hne => (Below.heap_setCell X _ v k (fun e => hne (by rw [e]))).trans (hX.block k hk hne)⟩
  exact hs _ _ _ (hs _ _ _ (hs _ _ _ (hs _ _ _ (hs _ _ _ (hs _ _ _ (hs _ _ _ (h)))))))
end Go.Proofs.Ytlaildbjcmihkaa
