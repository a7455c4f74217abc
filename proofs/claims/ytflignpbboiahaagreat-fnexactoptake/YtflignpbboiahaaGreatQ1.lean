/- Laid together: what the claim needs of the texts that were built one by one. -/
import Derived.Test.YtflignpbboiahaaGreatRows
import Derived.Test.YtflignpbboiahaaGreatQ0
import Derived.Deep.Slices
import Derived.Lib.SmallJoins
import Derived.OwnWalk
import Derived.WalkSpells
import Derived.Deep.RegionHeld3
set_option linter.unusedVariables false
namespace Go.Proofs.YtflignpbboiahaaGreat
open Go.ChangeShapes Go.WideShapes Go.ChangeAt Go.RowKit
theorem eqWinT (a b : Int) (w : World) : Calls Tryz.prog 57 #[.agg #[.int .i64 a, .int .i64 b], .agg #[.int .i64 a, .int .i64 b]] w fun e w' => e = .returned (.bool true) ∧ Below w.heap.size w w' := by
 go_enter Tryz.func57, Tryz.ntmps57
 go_wp2
 go_ret
 exact ⟨rfl, (belB)⟩
theorem eqAggT (n s l m : Int) (w : World) : Calls Tryz.prog 58 #[.agg #[.int .i64 n, .int .i64 s, .int .i64 l, .int .i64 m], .agg #[.int .i64 n, .int .i64 s, .int .i64 l, .int .i64 m]] w fun e w' => e = .returned (.bool true) ∧ Below w.heap.size w w' := by
 go_enter Tryz.func58, Tryz.ntmps58
 go_wp2
 go_ret
 exact ⟨rfl, (belB)⟩
theorem eqItmT (q t k v n : Int) (w : World) : Calls Tryz.prog 59 #[.agg #[.int .i64 q, .int .i64 t, .int .i64 k, .int .i64 v, .int .i64 n], .agg #[.int .i64 q, .int .i64 t, .int .i64 k, .int .i64 v, .int .i64 n]] w fun e w' => e = .returned (.bool true) ∧ Below w.heap.size w w' := by
 go_enter Tryz.func59, Tryz.ntmps59
 go_wp2
 go_ret
 exact ⟨rfl, (belB)⟩
theorem toItmT (q t k v n : Int) (w : World) : Calls Tryz.prog 8 #[.agg #[.int .i64 q, .int .i64 t, .int .i64 k, .int .i64 v, .int .i64 n]] w fun e w' => e = .returned (.agg #[.int .i64 q, .int .i64 t, .int .i64 k, .int .i64 v, .int .i64 n]) ∧ Below w.heap.size w w' := by
 go_enter Tryz.func8, Tryz.ntmps8
 go_wp2
 refine bodyPost_ret (v := .agg #[.int .i64 q, .int .i64 t, .int .i64 k, .int .i64 v, .int .i64 n]) (by simp [results, Tryz.results8, go_sem]) rfl ⟨rfl, ?_⟩
 exact (belB)
/-- A row of 13 numbers. -/
structure OrR where
 ky : Int
 st : Int
 en : Int
 an : Int
 asu : Int
 ale : Int
 amo : Int
 fn : Int
 fsu : Int
 fle : Int
 fmo : Int
 td : Int
 tm : Bool
/-- A row lies in its cells; rows lie one behind the other; a slice's value holds rows. -/
def OrRAt (W : World) (g o : Nat) (x : OrR) : Prop := W.cell? ⟨g, o, none⟩ = some (.int .i64 x.ky) ∧ W.cell? ⟨g, o + 1, none⟩ = some (.int .i64 x.st) ∧ W.cell? ⟨g, o + 2, none⟩ = some (.int .i64 x.en) ∧ W.cell? ⟨g, o + 3, none⟩ = some (.int .i64 x.an) ∧ W.cell? ⟨g, o + 4, none⟩ = some (.int .i64 x.asu) ∧ W.cell? ⟨g, o + 5, none⟩ = some (.int .i64 x.ale) ∧ W.cell? ⟨g, o + 6, none⟩ = some (.int .i64 x.amo) ∧ W.cell? ⟨g, o + 7, none⟩ = some (.int .i64 x.fn) ∧ W.cell? ⟨g, o + 8, none⟩ = some (.int .i64 x.fsu) ∧ W.cell? ⟨g, o + 9, none⟩ = some (.int .i64 x.fle) ∧ W.cell? ⟨g, o + 10, none⟩ = some (.int .i64 x.fmo) ∧ W.cell? ⟨g, o + 11, none⟩ = some (.int .i64 x.td) ∧ W.cell? ⟨g, o + 12, none⟩ = some (.bool x.tm)
def OrRsAt (W : World) (g o : Nat) (xs : List OrR) : Prop := ∀ i x, xs[i]? = some x → OrRAt W g (o + i * 13) x
def OrRs (W : World) (a : Option Addr) (len : Nat) (xs : List OrR) : Prop := xs.length = len ∧ len ≤ maxLen ∧ (len = 0 ∨ ∃ g o, a = some ⟨g, o, none⟩ ∧ OrRsAt W g o xs)
theorem OrRAt.lt {W : World} {g o : Nat} {x : OrR} (h : OrRAt W g o x) : g < W.heap.size := by
 obtain ⟨h0, _⟩ := h
 rcases Nat.lt_or_ge g W.heap.size with hl | hg
 ·exact hl
 ·simp [World.cell?, Array.getElem?_eq_none hg] at h0
theorem OrRsAt.lt {W : World} {g o : Nat} {xs : List OrR} (h : OrRsAt W g o xs) (hp : 0 < xs.length) : g < W.heap.size := (h 0 xs[0] (List.getElem?_eq_getElem hp)).lt
theorem OrRAt.below {W W' : World} {B g o : Nat} {x : OrR} (h : OrRAt W g o x) (hb : Below B W W') (hg : g < B) : OrRAt W' g o x := by
 obtain ⟨h0, h1, h2, h3, h4, h5, h6, h7, h8, h9, h10, h11, h12⟩ := h
 exact ⟨(hb.cell (p := ⟨g, _, none⟩) hg).trans h0, (hb.cell (p := ⟨g, _, none⟩) hg).trans h1, (hb.cell (p := ⟨g, _, none⟩) hg).trans h2, (hb.cell (p := ⟨g, _, none⟩) hg).trans h3, (hb.cell (p := ⟨g, _, none⟩) hg).trans h4, (hb.cell (p := ⟨g, _, none⟩) hg).trans h5, (hb.cell (p := ⟨g, _, none⟩) hg).trans h6, (hb.cell (p := ⟨g, _, none⟩) hg).trans h7, (hb.cell (p := ⟨g, _, none⟩) hg).trans h8, (hb.cell (p := ⟨g, _, none⟩) hg).trans h9, (hb.cell (p := ⟨g, _, none⟩) hg).trans h10, (hb.cell (p := ⟨g, _, none⟩) hg).trans h11, (hb.cell (p := ⟨g, _, none⟩) hg).trans h12⟩
theorem OrRsAt.below {W W' : World} {B g o : Nat} {xs : List OrR} (h : OrRsAt W g o xs) (hb : Below B W W') (hg : 0 < xs.length → g < B) : OrRsAt W' g o xs := by
 intro i x hx
 have hlt : i < xs.length := (List.getElem?_eq_some_iff.1 hx).1
 exact (h i x hx).below hb (hg (by omega))
theorem OrRs.below {W W' : World} {a : Option Addr} {len : Nat} {xs : List OrR} (h : OrRs W a len xs) (hb : Below W.heap.size W W') : OrRs W' a len xs := by
 obtain ⟨h1, h2, h3⟩ := h
 refine ⟨h1, h2, ?_⟩
 rcases h3 with h3 | ⟨g, o, ha, hr⟩
 ·exact Or.inl h3
 ·exact Or.inr ⟨g, o, ha, hr.below hb (fun hp => hr.lt hp)⟩
theorem OrRAt.grown {W W' : World} {row : Option Nat} {g o : Nat} {x : OrR} (h : OrRAt W g o x) (hg : W.grownBy W' row) (hne : some g ≠ row) : OrRAt W' g o x := by
 have hbk := hg.block g h.lt hne
 obtain ⟨h0, h1, h2, h3, h4, h5, h6, h7, h8, h9, h10, h11, h12⟩ := h
 exact ⟨(World.cell?_of_block (w := W) hbk).trans h0, (World.cell?_of_block (w := W) hbk).trans h1, (World.cell?_of_block (w := W) hbk).trans h2, (World.cell?_of_block (w := W) hbk).trans h3, (World.cell?_of_block (w := W) hbk).trans h4, (World.cell?_of_block (w := W) hbk).trans h5, (World.cell?_of_block (w := W) hbk).trans h6, (World.cell?_of_block (w := W) hbk).trans h7, (World.cell?_of_block (w := W) hbk).trans h8, (World.cell?_of_block (w := W) hbk).trans h9, (World.cell?_of_block (w := W) hbk).trans h10, (World.cell?_of_block (w := W) hbk).trans h11, (World.cell?_of_block (w := W) hbk).trans h12⟩
theorem OrRs.grown {W W' : World} {row : Option Nat} {a : Option Addr} {n : Nat} {xs : List OrR} (h : OrRs W a n xs) (hg : W.grownBy W' row) (hne : ∀ g o, 0 < n → a = some ⟨g, o, none⟩ → some g ≠ row) : OrRs W' a n xs := by
 obtain ⟨h1, h2, h3⟩ := h
 refine ⟨h1, h2, ?_⟩
 rcases h3 with h3 | ⟨g, o, ha, hr⟩
 ·exact Or.inl h3
 ·refine Or.inr ⟨g, o, ha, fun i x hx => (hr i x hx).grown hg (hne g o ?_ ha)⟩
  have hlt : i < xs.length := (List.getElem?_eq_some_iff.1 hx).1
  omega
theorem OrRs.lt {W : World} {g o n : Nat} {xs : List OrR} (h : OrRs W (some ⟨g, o, none⟩) n xs) (hp : 0 < n) : g < W.heap.size := by
 obtain ⟨h1, h2, h3⟩ := h
 obtain ⟨g', o', ha, hr⟩ := h3.resolve_left (by omega)
 simp at ha
 have := hr.lt (by omega)
 omega
/-- A row is stored; a block of rows, known whole. -/
def setOr (W : World) (g o : Nat) (x : OrR) : World := (((((((((((((W.setCell ⟨g, o, none⟩ (.int .i64 x.ky)).setCell ⟨g, o + 1, none⟩ (.int .i64 x.st)).setCell ⟨g, o + 2, none⟩ (.int .i64 x.en)).setCell ⟨g, o + 3, none⟩ (.int .i64 x.an)).setCell ⟨g, o + 4, none⟩ (.int .i64 x.asu)).setCell ⟨g, o + 5, none⟩ (.int .i64 x.ale)).setCell ⟨g, o + 6, none⟩ (.int .i64 x.amo)).setCell ⟨g, o + 7, none⟩ (.int .i64 x.fn)).setCell ⟨g, o + 8, none⟩ (.int .i64 x.fsu)).setCell ⟨g, o + 9, none⟩ (.int .i64 x.fle)).setCell ⟨g, o + 10, none⟩ (.int .i64 x.fmo)).setCell ⟨g, o + 11, none⟩ (.int .i64 x.td)).setCell ⟨g, o + 12, none⟩ (.bool x.tm))
def BlkOr (W : World) (g ty len : Nat) : Prop := ∃ cur, W.heap[g]? = some (.cells cur ty (0, 0)) ∧ cur.size = len * 13
theorem BlkOr.set {W : World} {g ty len i : Nat} (h : BlkOr W g ty len) (v : Value) : BlkOr (W.setCell ⟨g, i, none⟩ v) g ty len := by
 obtain ⟨cur, h1, h2⟩ := h
 exact ⟨_, Joins.block_setCell h1 v, by simp [h2]⟩
theorem BlkOr.below {W W' : World} {g ty len B : Nat} (h : BlkOr W g ty len) (hb : Below B W W') (hg : g < B) : BlkOr W' g ty len := by
 obtain ⟨cur, h1, h2⟩ := h
 exact ⟨cur, (hb.block g hg).trans h1, h2⟩
theorem BlkOr.lt {W : World} {g ty len : Nat} (h : BlkOr W g ty len) : g < W.heap.size := by
 obtain ⟨cur, h1, h2⟩ := h
 exact (Array.getElem?_eq_some_iff.1 h1).1
theorem BlkOr.cell {W : World} {g ty len i : Nat} (h : BlkOr W g ty len) (hi : i < len * 13) : ∃ u, W.cell? ⟨g, i, none⟩ = some u := by
 obtain ⟨cur, h1, h2⟩ := h
 exact ⟨_, (Joins.cell_of_block h1 i).trans (Array.getElem?_eq_getElem (by omega))⟩
theorem BlkOr.frozen {W : World} {g ty len i : Nat} (h : BlkOr W g ty len) : W.frozen? ⟨g, i, none⟩ = false := by
 obtain ⟨cur, h1, h2⟩ := h
 exact Joins.unfrozen_of_block h1 i
theorem BlkOr.cells {W : World} {g ty len k : Nat} (h : BlkOr W g ty len) (hk : k < len) : (∃ u, W.cell? ⟨g, k * 13, none⟩ = some u) ∧ (∃ u, W.cell? ⟨g, k * 13 + 1, none⟩ = some u) ∧ (∃ u, W.cell? ⟨g, k * 13 + 2, none⟩ = some u) ∧ (∃ u, W.cell? ⟨g, k * 13 + 3, none⟩ = some u) ∧ (∃ u, W.cell? ⟨g, k * 13 + 4, none⟩ = some u) ∧ (∃ u, W.cell? ⟨g, k * 13 + 5, none⟩ = some u) ∧ (∃ u, W.cell? ⟨g, k * 13 + 6, none⟩ = some u) ∧ (∃ u, W.cell? ⟨g, k * 13 + 7, none⟩ = some u) ∧ (∃ u, W.cell? ⟨g, k * 13 + 8, none⟩ = some u) ∧ (∃ u, W.cell? ⟨g, k * 13 + 9, none⟩ = some u) ∧ (∃ u, W.cell? ⟨g, k * 13 + 10, none⟩ = some u) ∧ (∃ u, W.cell? ⟨g, k * 13 + 11, none⟩ = some u) ∧ (∃ u, W.cell? ⟨g, k * 13 + 12, none⟩ = some u) := ⟨h.cell (by omega), h.cell (by omega), h.cell (by omega), h.cell (by omega), h.cell (by omega), h.cell (by omega), h.cell (by omega), h.cell (by omega), h.cell (by omega), h.cell (by omega), h.cell (by omega), h.cell (by omega), h.cell (by omega)⟩
theorem BlkOr.sets {W : World} {g ty len o : Nat} (h : BlkOr W g ty len) (x : OrR) : BlkOr (setOr W g o x) g ty len := (((((((((((((h.set _).set _).set _).set _).set _).set _).set _).set _).set _).set _).set _).set _).set _)
theorem Or_other {W : World} {g i j : Nat} {v : Value} (h : i ≠ j) : (W.setCell ⟨g, i, none⟩ v).cell? ⟨g, j, none⟩ = W.cell? ⟨g, j, none⟩ := World.cell?_setCell_other _ _ _ _ (by intro e; injection e with e1 e2; exact h e2)
theorem Or_this {W : World} {g ty len i : Nat} {v : Value} (h : BlkOr W g ty len) (hi : i < len * 13) : (W.setCell ⟨g, i, none⟩ v).cell? ⟨g, i, none⟩ = some v := by
 obtain ⟨u, hu⟩ := h.cell hi
 exact World.cell?_setCell_same _ _ _ hu
theorem setOr_this {W : World} {g ty len k : Nat} (h : BlkOr W g ty len) (hk : k < len) (x : OrR) : OrRAt (setOr W g (k * 13) x) g (k * 13) x := by
 unfold setOr
 refine ⟨?_, ?_, ?_, ?_, ?_, ?_, ?_, ?_, ?_, ?_, ?_, ?_, ?_⟩
 ·(repeat rw [Or_other (by omega)]); rw [Or_this h (by omega)]
 ·(repeat rw [Or_other (by omega)]); rw [Or_this (h.set _) (by omega)]
 ·(repeat rw [Or_other (by omega)]); rw [Or_this ((h.set _).set _) (by omega)]
 ·(repeat rw [Or_other (by omega)]); rw [Or_this (((h.set _).set _).set _) (by omega)]
 ·(repeat rw [Or_other (by omega)]); rw [Or_this ((((h.set _).set _).set _).set _) (by omega)]
 ·(repeat rw [Or_other (by omega)]); rw [Or_this (((((h.set _).set _).set _).set _).set _) (by omega)]
 ·(repeat rw [Or_other (by omega)]); rw [Or_this ((((((h.set _).set _).set _).set _).set _).set _) (by omega)]
 ·(repeat rw [Or_other (by omega)]); rw [Or_this (((((((h.set _).set _).set _).set _).set _).set _).set _) (by omega)]
 ·(repeat rw [Or_other (by omega)]); rw [Or_this ((((((((h.set _).set _).set _).set _).set _).set _).set _).set _) (by omega)]
 ·(repeat rw [Or_other (by omega)]); rw [Or_this (((((((((h.set _).set _).set _).set _).set _).set _).set _).set _).set _) (by omega)]
 ·rw [Or_other (by omega), Or_other (by omega), Or_this ((((((((((h.set _).set _).set _).set _).set _).set _).set _).set _).set _).set _) (by omega)]
 ·rw [Or_other (by omega), Or_this (((((((((((h.set _).set _).set _).set _).set _).set _).set _).set _).set _).set _).set _) (by omega)]
 ·rw [Or_this ((((((((((((h.set _).set _).set _).set _).set _).set _).set _).set _).set _).set _).set _).set _) (by omega)]
theorem setOr_ne {W : World} {g i k : Nat} {x y : OrR} (h : OrRAt W g (i * 13) y) (hk : i ≠ k) : OrRAt (setOr W g (k * 13) x) g (i * 13) y := by
 unfold setOr
 obtain ⟨h0, h1, h2, h3, h4, h5, h6, h7, h8, h9, h10, h11, h12⟩ := h
 refine ⟨?_, ?_, ?_, ?_, ?_, ?_, ?_, ?_, ?_, ?_, ?_, ?_, ?_⟩
 ·rw [Or_other (by omega), Or_other (by omega), Or_other (by omega), Or_other (by omega), Or_other (by omega), Or_other (by omega), Or_other (by omega), Or_other (by omega), Or_other (by omega), Or_other (by omega), Or_other (by omega), Or_other (by omega), Or_other (by omega)]; exact h0
 ·rw [Or_other (by omega), Or_other (by omega), Or_other (by omega), Or_other (by omega), Or_other (by omega), Or_other (by omega), Or_other (by omega), Or_other (by omega), Or_other (by omega), Or_other (by omega), Or_other (by omega), Or_other (by omega), Or_other (by omega)]; exact h1
 ·rw [Or_other (by omega), Or_other (by omega), Or_other (by omega), Or_other (by omega), Or_other (by omega), Or_other (by omega), Or_other (by omega), Or_other (by omega), Or_other (by omega), Or_other (by omega), Or_other (by omega), Or_other (by omega), Or_other (by omega)]; exact h2
 ·rw [Or_other (by omega), Or_other (by omega), Or_other (by omega), Or_other (by omega), Or_other (by omega), Or_other (by omega), Or_other (by omega), Or_other (by omega), Or_other (by omega), Or_other (by omega), Or_other (by omega), Or_other (by omega), Or_other (by omega)]; exact h3
 ·rw [Or_other (by omega), Or_other (by omega), Or_other (by omega), Or_other (by omega), Or_other (by omega), Or_other (by omega), Or_other (by omega), Or_other (by omega), Or_other (by omega), Or_other (by omega), Or_other (by omega), Or_other (by omega), Or_other (by omega)]; exact h4
 ·rw [Or_other (by omega), Or_other (by omega), Or_other (by omega), Or_other (by omega), Or_other (by omega), Or_other (by omega), Or_other (by omega), Or_other (by omega), Or_other (by omega), Or_other (by omega), Or_other (by omega), Or_other (by omega), Or_other (by omega)]; exact h5
 ·rw [Or_other (by omega), Or_other (by omega), Or_other (by omega), Or_other (by omega), Or_other (by omega), Or_other (by omega), Or_other (by omega), Or_other (by omega), Or_other (by omega), Or_other (by omega), Or_other (by omega), Or_other (by omega), Or_other (by omega)]; exact h6
 ·rw [Or_other (by omega), Or_other (by omega), Or_other (by omega), Or_other (by omega), Or_other (by omega), Or_other (by omega), Or_other (by omega), Or_other (by omega), Or_other (by omega), Or_other (by omega), Or_other (by omega), Or_other (by omega), Or_other (by omega)]; exact h7
 ·rw [Or_other (by omega), Or_other (by omega), Or_other (by omega), Or_other (by omega), Or_other (by omega), Or_other (by omega), Or_other (by omega), Or_other (by omega), Or_other (by omega), Or_other (by omega), Or_other (by omega), Or_other (by omega), Or_other (by omega)]; exact h8
 ·rw [Or_other (by omega), Or_other (by omega), Or_other (by omega), Or_other (by omega), Or_other (by omega), Or_other (by omega), Or_other (by omega), Or_other (by omega), Or_other (by omega), Or_other (by omega), Or_other (by omega), Or_other (by omega), Or_other (by omega)]; exact h9
 ·rw [Or_other (by omega), Or_other (by omega), Or_other (by omega), Or_other (by omega), Or_other (by omega), Or_other (by omega), Or_other (by omega), Or_other (by omega), Or_other (by omega), Or_other (by omega), Or_other (by omega), Or_other (by omega), Or_other (by omega)]; exact h10
 ·rw [Or_other (by omega), Or_other (by omega), Or_other (by omega), Or_other (by omega), Or_other (by omega), Or_other (by omega), Or_other (by omega), Or_other (by omega), Or_other (by omega), Or_other (by omega), Or_other (by omega), Or_other (by omega), Or_other (by omega)]; exact h11
 ·rw [Or_other (by omega), Or_other (by omega), Or_other (by omega), Or_other (by omega), Or_other (by omega), Or_other (by omega), Or_other (by omega), Or_other (by omega), Or_other (by omega), Or_other (by omega), Or_other (by omega), Or_other (by omega), Or_other (by omega)]; exact h12
theorem grown_setOr {W W' : World} {g o : Nat} {x : OrR} (h : W.grownBy W' (some g)) : W.grownBy (setOr W' g o x) (some g) := by
 have hs : ∀ (X : World) (i : Nat) (v : Value), W.grownBy X (some g) → W.grownBy (X.setCell ⟨g, i, none⟩ v) (some g) := by
  intro X i v hX
  exact ⟨hX.os, hX.tape, hX.output, by simp [World.setCell]; exact hX.size, fun k hk hne => (Below.heap_setCell X _ v k (fun e => hne (by rw [e]))).trans (hX.block k hk hne)⟩
 exact hs _ _ _ (hs _ _ _ (hs _ _ _ (hs _ _ _ (hs _ _ _ (hs _ _ _ (hs _ _ _ (hs _ _ _ (hs _ _ _ (hs _ _ _ (hs _ _ _ (hs _ _ _ (hs _ _ _ (h)))))))))))))
/-- The cells of rows; a slice of the call's own that holds rows. -/
def OrR.cells (x : OrR) : List Value := [.int .i64 x.ky, .int .i64 x.st, .int .i64 x.en, .int .i64 x.an, .int .i64 x.asu, .int .i64 x.ale, .int .i64 x.amo, .int .i64 x.fn, .int .i64 x.fsu, .int .i64 x.fle, .int .i64 x.fmo, .int .i64 x.td, .bool x.tm]
def flatOr (xs : List OrR) : List Value := xs.flatMap OrR.cells
theorem flatOr_snoc (xs : List OrR) (x : OrR) : flatOr (xs ++ [x]) = flatOr xs ++ x.cells := by simp [flatOr]
theorem flatOr_len (xs : List OrR) : (flatOr xs).length = xs.length * 13 := by
 induction xs with
 | nil => rfl
 | cons x r ih => show (x.cells ++ flatOr r).length = _; rw [List.length_append, ih]; simp [OrR.cells]; omega
theorem flatOr_get {xs : List OrR} {i : Nat} {x : OrR} (h : xs[i]? = some x) : (flatOr xs)[i * 13]? = some (.int .i64 x.ky) ∧ (flatOr xs)[i * 13 + 1]? = some (.int .i64 x.st) ∧ (flatOr xs)[i * 13 + 2]? = some (.int .i64 x.en) ∧ (flatOr xs)[i * 13 + 3]? = some (.int .i64 x.an) ∧ (flatOr xs)[i * 13 + 4]? = some (.int .i64 x.asu) ∧ (flatOr xs)[i * 13 + 5]? = some (.int .i64 x.ale) ∧ (flatOr xs)[i * 13 + 6]? = some (.int .i64 x.amo) ∧ (flatOr xs)[i * 13 + 7]? = some (.int .i64 x.fn) ∧ (flatOr xs)[i * 13 + 8]? = some (.int .i64 x.fsu) ∧ (flatOr xs)[i * 13 + 9]? = some (.int .i64 x.fle) ∧ (flatOr xs)[i * 13 + 10]? = some (.int .i64 x.fmo) ∧ (flatOr xs)[i * 13 + 11]? = some (.int .i64 x.td) ∧ (flatOr xs)[i * 13 + 12]? = some (.bool x.tm) := by
 induction xs generalizing i with
 | nil => simp at h
 | cons y r ih =>
  have hf : flatOr (y :: r) = y.cells ++ flatOr r := rfl
  cases i with
  | zero =>
   simp at h
   subst h
   rw [hf]
   exact ⟨rfl, rfl, rfl, rfl, rfl, rfl, rfl, rfl, rfl, rfl, rfl, rfl, rfl⟩
  | succ i =>
   simp at h
   obtain ⟨h0, h1, h2, h3, h4, h5, h6, h7, h8, h9, h10, h11, h12⟩ := ih h
   have hl : y.cells.length = 13 := rfl
   rw [hf]
   refine ⟨?_, ?_, ?_, ?_, ?_, ?_, ?_, ?_, ?_, ?_, ?_, ?_, ?_⟩
   ·rw [List.getElem?_append_right (by omega), hl, show (i + 1) * 13 - 13 = i * 13 by omega]; exact h0
   ·rw [List.getElem?_append_right (by omega), hl, show (i + 1) * 13 + 1 - 13 = i * 13 + 1 by omega]; exact h1
   ·rw [List.getElem?_append_right (by omega), hl, show (i + 1) * 13 + 2 - 13 = i * 13 + 2 by omega]; exact h2
   ·rw [List.getElem?_append_right (by omega), hl, show (i + 1) * 13 + 3 - 13 = i * 13 + 3 by omega]; exact h3
   ·rw [List.getElem?_append_right (by omega), hl, show (i + 1) * 13 + 4 - 13 = i * 13 + 4 by omega]; exact h4
   ·rw [List.getElem?_append_right (by omega), hl, show (i + 1) * 13 + 5 - 13 = i * 13 + 5 by omega]; exact h5
   ·rw [List.getElem?_append_right (by omega), hl, show (i + 1) * 13 + 6 - 13 = i * 13 + 6 by omega]; exact h6
   ·rw [List.getElem?_append_right (by omega), hl, show (i + 1) * 13 + 7 - 13 = i * 13 + 7 by omega]; exact h7
   ·rw [List.getElem?_append_right (by omega), hl, show (i + 1) * 13 + 8 - 13 = i * 13 + 8 by omega]; exact h8
   ·rw [List.getElem?_append_right (by omega), hl, show (i + 1) * 13 + 9 - 13 = i * 13 + 9 by omega]; exact h9
   ·rw [List.getElem?_append_right (by omega), hl, show (i + 1) * 13 + 10 - 13 = i * 13 + 10 by omega]; exact h10
   ·rw [List.getElem?_append_right (by omega), hl, show (i + 1) * 13 + 11 - 13 = i * 13 + 11 by omega]; exact h11
   ·rw [List.getElem?_append_right (by omega), hl, show (i + 1) * 13 + 12 - 13 = i * 13 + 12 by omega]; exact h12
def OwnOr (W : World) (B : Nat) (v : Value) (ys : List OrR) : Prop := W.ownsRow B 76 13 v ys.length (flatOr ys)
theorem ownOr_snoc {w1 : World} {B : Nat} {v' : Value} {ys : List OrR} {x : OrR} (ho : w1.ownsRow B 76 13 v' (ys.length + 1) (flatOr ys ++ x.cells)) : OwnOr w1 B v' (ys ++ [x]) := by
 unfold OwnOr
 rw [flatOr_snoc]
 simpa using ho
theorem cells_newOr (w : World) (ky : Int) (st : Int) (en : Int) (an : Int) (asu : Int) (ale : Int) (amo : Int) (fn : Int) (fsu : Int) (fle : Int) (fmo : Int) (td : Int) (tm : Bool) (ty : Nat) : ∀ j u, ([.int .i64 ky, .int .i64 st, .int .i64 en, .int .i64 an, .int .i64 asu, .int .i64 ale, .int .i64 amo, .int .i64 fn, .int .i64 fsu, .int .i64 fle, .int .i64 fmo, .int .i64 td, .bool tm] : List Value)[j]? = some u → (w.alloc (.cells #[.int .i64 ky, .int .i64 st, .int .i64 en, .int .i64 an, .int .i64 asu, .int .i64 ale, .int .i64 amo, .int .i64 fn, .int .i64 fsu, .int .i64 fle, .int .i64 fmo, .int .i64 td, .bool tm] ty)).cell? ((⟨w.heap.size, 0, none⟩ : Addr).add j) = some u := by
 intro j u hj
 have e : ((⟨w.heap.size, 0, none⟩ : Addr).add j) = ⟨w.heap.size, j, none⟩ := by
  unfold Addr.add
  split
  ·rename_i h0; rw [h0]
  ·simp
 rw [e]
 simpa [go_sem] using hj
/-- The block of a slice's rows, if there are any; what may be written; what has been marked. -/
def rowOr (a : Option Addr) (n : Nat) : Option Nat := if n = 0 then none else a.map (·.block)
theorem rowOr_pos {n : Nat} (h : n ≠ 0) (g o : Nat) : rowOr (some ⟨g, o, none⟩) n = some g := by unfold rowOr; rw [if_neg h]; rfl
def markOr (i : Nat) : OrR := ⟨1 + 13 * (i : Int), 1 + 13 * (i : Int) + 1, 1 + 13 * (i : Int) + 1 + 1, 1 + 13 * (i : Int) + 1 + 1 + 1, 1 + 13 * (i : Int) + 1 + 1 + 1 + 1, 1 + 13 * (i : Int) + 1 + 1 + 1 + 1 + 1, 1 + 13 * (i : Int) + 1 + 1 + 1 + 1 + 1 + 1, 1 + 13 * (i : Int) + 1 + 1 + 1 + 1 + 1 + 1 + 1, 1 + 13 * (i : Int) + 1 + 1 + 1 + 1 + 1 + 1 + 1 + 1, 1 + 13 * (i : Int) + 1 + 1 + 1 + 1 + 1 + 1 + 1 + 1 + 1, 1 + 13 * (i : Int) + 1 + 1 + 1 + 1 + 1 + 1 + 1 + 1 + 1 + 1, 1 + 13 * (i : Int) + 1 + 1 + 1 + 1 + 1 + 1 + 1 + 1 + 1 + 1 + 1, decide ((1 + 13 * (i : Int) + 1 + 1 + 1 + 1 + 1 + 1 + 1 + 1 + 1 + 1 + 1 + 1) % 3 = 0)⟩
def WrOr (W : World) (a : Option Addr) (n cap : Nat) : Prop := n = 0 ∨ ∃ g, a = some ⟨g, 0, none⟩ ∧ BlkOr W g 76 cap ∧ n ≤ cap
def MarkedOr (W : World) (a : Option Addr) (n : Nat) : Prop := n = 0 ∨ ∃ g, a = some ⟨g, 0, none⟩ ∧ ∀ i, i < n → OrRAt W g (i * 13) (markOr i)
theorem grown0Or {W W' : World} (h : Below W.heap.size W W') : W.grownBy W' none := ⟨h.os, h.tape, h.output, h.size, fun k hk _ => h.block k hk⟩
theorem MarkedOr.below {W W' : World} {a : Option Addr} {n : Nat} (h : MarkedOr W a n) (hb : Below W.heap.size W W') : MarkedOr W' a n := by
 rcases h with h | ⟨g, ha, hM⟩
 ·exact Or.inl h
 ·exact Or.inr ⟨g, ha, fun i hi => (hM i hi).below hb (hM i hi).lt⟩
theorem holdOr {W : World} {B : Nat} {v : Value} {ys : List OrR} (h : OwnOr W B v ys) (hl : ys.length ≤ 1048576) :
  ∃ a cap, v = .slice a ys.length cap ∧ OrRs W a ys.length ys ∧ WrOr W a ys.length cap ∧ ∀ g o, 0 < ys.length → a = some ⟨g, o, none⟩ → B ≤ g := by
 have hm : ys.length ≤ maxLen := by unfold maxLen; omega
 obtain ⟨hlen, h | ⟨g, cap, cur, rfl, hB, hblk, hnc, hcm, hsz, htk⟩⟩ := h
 ·obtain ⟨rfl, h0⟩ := h
  rw [h0]
  exact ⟨none, 0, rfl, ⟨h0, Nat.zero_le _, Or.inl rfl⟩, Or.inl rfl, fun _ _ hp => by omega⟩
 ·refine ⟨_, cap, rfl, ⟨rfl, hm, Or.inr ⟨g, 0, rfl, ?_⟩⟩, Or.inr ⟨g, rfl, ⟨cur, hblk, hsz⟩, hnc⟩, fun g' o' _ e => by simp at e; omega⟩
  intro i x hx
  have hi : i < ys.length := (List.getElem?_eq_some_iff.1 hx).1
  have hcell : ∀ j u, j < ys.length * 13 → (flatOr ys)[j]? = some u → W.cell? ⟨g, j, none⟩ = some u := by
   intro j u hj hu
   rw [Joins.cell_of_block hblk j, ← Array.getElem?_toList]
   rw [← htk, List.getElem?_take_of_lt hj] at hu
   exact hu
  obtain ⟨f0, f1, f2, f3, f4, f5, f6, f7, f8, f9, f10, f11, f12⟩ := flatOr_get hx
  rw [Nat.zero_add]
  exact ⟨hcell _ _ (by omega) f0, hcell _ _ (by omega) f1, hcell _ _ (by omega) f2, hcell _ _ (by omega) f3, hcell _ _ (by omega) f4, hcell _ _ (by omega) f5, hcell _ _ (by omega) f6, hcell _ _ (by omega) f7, hcell _ _ (by omega) f8, hcell _ _ (by omega) f9, hcell _ _ (by omega) f10, hcell _ _ (by omega) f11, hcell _ _ (by omega) f12⟩
theorem WrOr.below {W W' : World} {a : Option Addr} {n cap : Nat} (h : WrOr W a n cap) (hb : Below W.heap.size W W') : WrOr W' a n cap := by
 rcases h with h | ⟨g, ha, hB, hc⟩
 ·exact Or.inl h
 ·exact Or.inr ⟨g, ha, hB.below hb hB.lt, hc⟩
theorem WrOr.grown {W W' : World} {row : Option Nat} {a : Option Addr} {n cap : Nat} (h : WrOr W a n cap) (hg : W.grownBy W' row) (hne : ∀ g o, 0 < n → a = some ⟨g, o, none⟩ → some g ≠ row) : WrOr W' a n cap := by
 rcases h with h | ⟨g, ha, hB, hc⟩
 ·exact Or.inl h
 ·by_cases h0 : n = 0
  ·exact Or.inl h0
  ·obtain ⟨cur, c1, c2⟩ := hB
   exact Or.inr ⟨g, ha, ⟨cur, (hg.block g (Array.getElem?_eq_some_iff.1 c1).1 (hne g 0 (by omega) ha)).trans c1, c2⟩, hc⟩
set_option maxHeartbeats 1000000 in
theorem eqOr_one (x : OrR) (w : World) : Calls Tryz.prog 56 #[.agg #[.int .i64 x.ky, .int .i64 x.st, .int .i64 x.en, .int .i64 x.an, .int .i64 x.asu, .int .i64 x.ale, .int .i64 x.amo, .int .i64 x.fn, .int .i64 x.fsu, .int .i64 x.fle, .int .i64 x.fmo, .int .i64 x.td, .bool x.tm], .agg #[.int .i64 x.ky, .int .i64 x.st, .int .i64 x.en, .int .i64 x.an, .int .i64 x.asu, .int .i64 x.ale, .int .i64 x.amo, .int .i64 x.fn, .int .i64 x.fsu, .int .i64 x.fle, .int .i64 x.fmo, .int .i64 x.td, .bool x.tm]] w fun e w' => e = .returned (.bool true) ∧ Below w.heap.size w w' := by
 go_enter Tryz.func56, Tryz.ntmps56
 go_wp2_with (first
  | (go_at_call 57; refine (eqWinT _ _ _).mono ?_; rintro e w' ⟨rfl, hb⟩; obtain ⟨hc, hf, hs⟩ := bcell hb; (try have hz0 := zA hb w.heap.size); (try have hz1 := zA hb (w.heap.size + 1)))
  | (go_at_call 58; refine (eqAggT _ _ _ _ _).mono ?_; rintro e w' ⟨rfl, hb⟩; obtain ⟨hc, hf, hs⟩ := bcell hb; (try have hz0 := zA hb w.heap.size); (try have hz1 := zA hb (w.heap.size + 1))))
 go_ret
 exact ⟨rfl, (belB)⟩
set_option maxRecDepth 20000 in
set_option maxHeartbeats 1000000 in
theorem eqOr_any (a1 a2 : Option Addr) (len cap1 cap2 : Nat) (xs : List OrR) (w : World) (h1 : OrRs w a1 len xs) (h2 : OrRs w a2 len xs) : Calls Tryz.prog 30 #[.slice a1 len cap1, .slice a2 len cap2] w fun e w' => e = .returned (.bool true) ∧ Below w.heap.size w w' := by
 have hm := h1.2.1
 unfold maxLen at hm
 go_enter Tryz.func30, Tryz.ntmps30
 go_wp2
 go_loopw [5] (fun i wr => ∃ k : Nat, k ≤ len ∧ i = .int .i64 k ∧ Below w.heap.size w wr) (fun i _ => len - (intOf i).toNat)
 case atStart => exact ⟨0, Nat.zero_le _, rfl, Below.refl _ _⟩
 case round =>
  obtain ⟨k, hk, rfl, hbw⟩ := hrel
  by_cases hlt : k < len
  ·obtain ⟨hl1, _, hx1⟩ := h1
   obtain ⟨hl2, _, hx2⟩ := h2
   obtain ⟨g1, o1, rfl, hr1⟩ := hx1.resolve_left (by omega)
   obtain ⟨g2, o2, rfl, hr2⟩ := hx2.resolve_left (by omega)
   obtain ⟨x, hxk⟩ : ∃ x, xs[k]? = some x := ⟨_, List.getElem?_eq_getElem (by omega)⟩
   have hg1 : g1 < w.heap.size := hr1.lt (by omega)
   have hg2 : g2 < w.heap.size := hr2.lt (by omega)
   have hs1 : g1 < wr.heap.size := Nat.lt_of_lt_of_le hg1 hbw.size
   have hs2 : g2 < wr.heap.size := Nat.lt_of_lt_of_le hg2 hbw.size
   have hS : ((wr.cell? ⟨g1, o1 + k * 13, none⟩ = some (.int .i64 x.ky) ∧ wr.cell? ⟨g1, o1 + k * 13 + 1, none⟩ = some (.int .i64 x.st) ∧ wr.cell? ⟨g1, o1 + k * 13 + 2, none⟩ = some (.int .i64 x.en) ∧ wr.cell? ⟨g1, o1 + k * 13 + 3, none⟩ = some (.int .i64 x.an) ∧ wr.cell? ⟨g1, o1 + k * 13 + 4, none⟩ = some (.int .i64 x.asu) ∧ wr.cell? ⟨g1, o1 + k * 13 + 5, none⟩ = some (.int .i64 x.ale) ∧ wr.cell? ⟨g1, o1 + k * 13 + 6, none⟩ = some (.int .i64 x.amo) ∧ wr.cell? ⟨g1, o1 + k * 13 + 7, none⟩ = some (.int .i64 x.fn) ∧ wr.cell? ⟨g1, o1 + k * 13 + 8, none⟩ = some (.int .i64 x.fsu) ∧ wr.cell? ⟨g1, o1 + k * 13 + 9, none⟩ = some (.int .i64 x.fle) ∧ wr.cell? ⟨g1, o1 + k * 13 + 10, none⟩ = some (.int .i64 x.fmo) ∧ wr.cell? ⟨g1, o1 + k * 13 + 11, none⟩ = some (.int .i64 x.td) ∧ wr.cell? ⟨g1, o1 + k * 13 + 12, none⟩ = some (.bool x.tm) ∧ wr.cell? ⟨g2, o2 + k * 13, none⟩ = some (.int .i64 x.ky) ∧ wr.cell? ⟨g2, o2 + k * 13 + 1, none⟩ = some (.int .i64 x.st) ∧ wr.cell? ⟨g2, o2 + k * 13 + 2, none⟩ = some (.int .i64 x.en) ∧ wr.cell? ⟨g2, o2 + k * 13 + 3, none⟩ = some (.int .i64 x.an) ∧ wr.cell? ⟨g2, o2 + k * 13 + 4, none⟩ = some (.int .i64 x.asu) ∧ wr.cell? ⟨g2, o2 + k * 13 + 5, none⟩ = some (.int .i64 x.ale) ∧ wr.cell? ⟨g2, o2 + k * 13 + 6, none⟩ = some (.int .i64 x.amo) ∧ wr.cell? ⟨g2, o2 + k * 13 + 7, none⟩ = some (.int .i64 x.fn) ∧ wr.cell? ⟨g2, o2 + k * 13 + 8, none⟩ = some (.int .i64 x.fsu) ∧ wr.cell? ⟨g2, o2 + k * 13 + 9, none⟩ = some (.int .i64 x.fle) ∧ wr.cell? ⟨g2, o2 + k * 13 + 10, none⟩ = some (.int .i64 x.fmo) ∧ wr.cell? ⟨g2, o2 + k * 13 + 11, none⟩ = some (.int .i64 x.td) ∧ wr.cell? ⟨g2, o2 + k * 13 + 12, none⟩ = some (.bool x.tm)) ∧ g1 < wr.heap.size ∧ g2 < wr.heap.size) := by
    obtain ⟨c0, c1, c2, c3, c4, c5, c6, c7, c8, c9, c10, c11, c12⟩ := (hr1 k _ hxk).below hbw hg1
    obtain ⟨d0, d1, d2, d3, d4, d5, d6, d7, d8, d9, d10, d11, d12⟩ := (hr2 k _ hxk).below hbw hg2
    exact ⟨⟨c0, c1, c2, c3, c4, c5, c6, c7, c8, c9, c10, c11, c12, d0, d1, d2, d3, d4, d5, d6, d7, d8, d9, d10, d11, d12⟩, hs1, hs2⟩
   clear hx1 hx2 hxk hr1 hr2
   go_wp2
   go_region_held3 (fun W => ((W.cell? ⟨g1, o1 + k * 13, none⟩ = some (.int .i64 x.ky) ∧ W.cell? ⟨g1, o1 + k * 13 + 1, none⟩ = some (.int .i64 x.st) ∧ W.cell? ⟨g1, o1 + k * 13 + 2, none⟩ = some (.int .i64 x.en) ∧ W.cell? ⟨g1, o1 + k * 13 + 3, none⟩ = some (.int .i64 x.an) ∧ W.cell? ⟨g1, o1 + k * 13 + 4, none⟩ = some (.int .i64 x.asu) ∧ W.cell? ⟨g1, o1 + k * 13 + 5, none⟩ = some (.int .i64 x.ale) ∧ W.cell? ⟨g1, o1 + k * 13 + 6, none⟩ = some (.int .i64 x.amo) ∧ W.cell? ⟨g1, o1 + k * 13 + 7, none⟩ = some (.int .i64 x.fn) ∧ W.cell? ⟨g1, o1 + k * 13 + 8, none⟩ = some (.int .i64 x.fsu) ∧ W.cell? ⟨g1, o1 + k * 13 + 9, none⟩ = some (.int .i64 x.fle) ∧ W.cell? ⟨g1, o1 + k * 13 + 10, none⟩ = some (.int .i64 x.fmo) ∧ W.cell? ⟨g1, o1 + k * 13 + 11, none⟩ = some (.int .i64 x.td) ∧ W.cell? ⟨g1, o1 + k * 13 + 12, none⟩ = some (.bool x.tm) ∧ W.cell? ⟨g2, o2 + k * 13, none⟩ = some (.int .i64 x.ky) ∧ W.cell? ⟨g2, o2 + k * 13 + 1, none⟩ = some (.int .i64 x.st) ∧ W.cell? ⟨g2, o2 + k * 13 + 2, none⟩ = some (.int .i64 x.en) ∧ W.cell? ⟨g2, o2 + k * 13 + 3, none⟩ = some (.int .i64 x.an) ∧ W.cell? ⟨g2, o2 + k * 13 + 4, none⟩ = some (.int .i64 x.asu) ∧ W.cell? ⟨g2, o2 + k * 13 + 5, none⟩ = some (.int .i64 x.ale) ∧ W.cell? ⟨g2, o2 + k * 13 + 6, none⟩ = some (.int .i64 x.amo) ∧ W.cell? ⟨g2, o2 + k * 13 + 7, none⟩ = some (.int .i64 x.fn) ∧ W.cell? ⟨g2, o2 + k * 13 + 8, none⟩ = some (.int .i64 x.fsu) ∧ W.cell? ⟨g2, o2 + k * 13 + 9, none⟩ = some (.int .i64 x.fle) ∧ W.cell? ⟨g2, o2 + k * 13 + 10, none⟩ = some (.int .i64 x.fmo) ∧ W.cell? ⟨g2, o2 + k * 13 + 11, none⟩ = some (.int .i64 x.td) ∧ W.cell? ⟨g2, o2 + k * 13 + 12, none⟩ = some (.bool x.tm)) ∧ g1 < W.heap.size ∧ g2 < W.heap.size)) ((first | ((repeat (first | (with_reducible assumption) | (with_reducible refine hd_13_13 ?_ (by with_reducible assumption)) | (with_reducible refine hd_13_13 ?_ (bel_drew (Below.refl _ _))) | (with_reducible exact hd_13_13_re (by with_reducible assumption) (sB) (sB)) | (with_reducible refine hd_13_13 ?_ (bel_one _ _)) | (with_reducible refine hd_13_13_set ?_ (sB) (sB) _))); done) | (refine ⟨⟨?_, ?_, ?_, ?_, ?_, ?_, ?_, ?_, ?_, ?_, ?_, ?_, ?_, ?_, ?_, ?_, ?_, ?_, ?_, ?_, ?_, ?_, ?_, ?_, ?_, ?_⟩, ?_, ?_⟩ <;> first | (go_keep; done) | (simp; done) | (simp; omega) | omega)))
    (first
    | (go_at_call 56; refine (eqOr_one _ _).mono ?_; rintro e w' ⟨rfl, hb⟩; obtain ⟨hc, hf, hs⟩ := bcell hb))
   go_wp2
   go_roundw
   case rel => exact ⟨k + 1, by omega, by go_num, (belB)⟩
   case measure => simp [intOf]; omega
  ·go_wp2
   go_ret
   exact ⟨rfl, hbw⟩
end Go.Proofs.YtflignpbboiahaaGreat
namespace Go.Proofs.YtflignpbboiahaaGreat
open Go.RowKit Go.Sort Go.Lib
theorem ltPl_irr (x : P3) : ¬ ltPl x x := by unfold ltPl; omega
theorem ltPl_tr {a b c : P3} (h : ltPl a b) (k : ltPl b c) : ltPl a c := by unfold ltPl at *; omega
theorem ltPl_tri (a b : P3) : ltPl a b ∨ a = b ∨ ltPl b a := by
 obtain ⟨a1, a2, a3⟩ := a
 obtain ⟨b1, b2, b3⟩ := b
 unfold ltPl
 by_cases e1 : a1 = b1
 ·by_cases e2 : a2 = b2
  ·by_cases e3 : a3 = b3
   ·subst e1 e2 e3; exact .inr (.inl rfl)
   ·simp only; omega
  ·simp only; omega
 ·simp only; omega
theorem rise_eq : ∀ (xs zs : List P3), xs.Pairwise ltPl → zs.Pairwise ltPl → (∀ q, q ∈ xs ↔ q ∈ zs) → xs = zs
 | [], [], _, _, _ => rfl
 | [], b :: zs, _, _, h => by have := (h b).2 (by simp); cases this
 | a :: xs, [], _, _, h => by have := (h a).1 (by simp); cases this
 | a :: xs, b :: zs, h1, h2, h => by
  obtain ⟨ha, ha2⟩ := List.pairwise_cons.1 h1
  obtain ⟨hb, hb2⟩ := List.pairwise_cons.1 h2
  have e : a = b := by
   rcases List.mem_cons.1 ((h a).1 (by simp)) with e | e
   ·exact e
   ·rcases List.mem_cons.1 ((h b).2 (by simp)) with e' | e'
    ·exact e'.symm
    ·exact absurd (ltPl_tr (hb a e) (ha b e')) (ltPl_irr _)
  subst e
  rw [rise_eq xs zs ha2 hb2 (fun q => ⟨fun hq => ?_, fun hq => ?_⟩)]
  ·rcases List.mem_cons.1 ((h q).1 (List.mem_cons_of_mem _ hq)) with e | e
   ·subst e; exact absurd (ha _ hq) (ltPl_irr _)
   ·exact e
  ·rcases List.mem_cons.1 ((h q).2 (List.mem_cons_of_mem _ hq)) with e | e
   ·subst e; exact absurd (hb _ hq) (ltPl_irr _)
   ·exact e
theorem srt_rise {ss : List P3} (h : ss.Nodup) : (srt3 ss).Pairwise ltPl := by
 have h1 : (srt3 ss).Pairwise (fun x y => (!(ltOf cfPl) y x) = true) := List.pairwise_mergeSort (fun a b c h1 h2 => by
   simp only [Bool.not_eq_true', ltOfPl_f] at *
   unfold ltPl at *; omega) (fun a b => by
   rcases ltPl_tri a b with h | h | h
   ·have : ltOf cfPl b a = false := (ltOfPl_f b a).2 (fun h' => ltPl_irr _ (ltPl_tr h h'))
    simp [this]
   ·subst h
    have : ltOf cfPl a a = false := (ltOfPl_f a a).2 (ltPl_irr _)
    simp [this]
   ·have : ltOf cfPl a b = false := (ltOfPl_f a b).2 (fun h' => ltPl_irr _ (ltPl_tr h h'))
    simp [this]) ss
 have h2 : (srt3 ss).Nodup := (srt3_perm ss).nodup_iff.2 h
 refine List.Pairwise.imp₂ (fun a b h3 h4 => ?_) h1 h2
 simp only [Bool.not_eq_true', ltOfPl_f] at h3
 rcases ltPl_tri a b with h | h | h
 ·exact h
 ·exact absurd h h4
 ·exact absurd h h3
/-- The place of a row; a row in its box. -/
def plO (x : OrR) : P3 := (x.ky, x.st, x.en)
abbrev Ent := Nat × OrR
def ptrE (e : Ent) : Option Addr := some ⟨e.1, 0, none⟩
/-- What a map of boxes tells of a place. -/
def mapE (es : List Ent) (q : P3) : Option (Option Addr) := (es.find? (fun e => decide (plO e.2 = q))).map ptrE
def RiseE (es : List Ent) : Prop := es.Pairwise (fun a b => ltPl (plO a.2) (plO b.2))
theorem RiseE.inj {es : List Ent} (h : RiseE es) {a b : Ent} (ha : a ∈ es) (hb : b ∈ es) (e : plO a.2 = plO b.2) : a = b := by
 induction es with
 | nil => cases ha
 | cons x t ih =>
  have hc := List.pairwise_cons.1 h
  rcases List.mem_cons.1 ha with rfl | h1 <;> rcases List.mem_cons.1 hb with rfl | h2
  ·rfl
  ·have := hc.1 b h2
   rw [e] at this
   exact absurd this (ltPl_irr _)
  ·have := hc.1 a h1
   rw [e] at this
   exact absurd this (ltPl_irr _)
  ·exact ih hc.2 h1 h2
theorem mapE_snoc {es : List Ent} {e : Ent} (hn : ∀ x ∈ es, ¬ plO x.2 = plO e.2) : (fun q => if q = plO e.2 then some (Value.pointer (ptrE e)) else (mapE es q).map Value.pointer) = fun q => (mapE (es ++ [e]) q).map Value.pointer := by
 funext q
 unfold mapE
 rw [List.find?_append]
 by_cases h : q = plO e.2
 ·subst h
  rw [List.find?_eq_none.2 (fun x hx => by simpa using hn x hx)]
  simp
 ·rw [if_neg h]
  cases hf : es.find? (fun x => decide (plO x.2 = q)) with
  | none =>
   simp
   exact fun h9 => h h9.symm
  | some x => simp
/-- The places are the same where the boxes are, and the rows' places. -/
theorem mapE_same (f : OrR → OrR) (hf : ∀ x, plO (f x) = plO x) (g : Ent → Bool) (es : List Ent) : mapE (es.map (fun e => (e.1, if g e = true then f e.2 else e.2))) = mapE es := by
 funext q
 unfold mapE
 rw [List.find?_map, Option.map_map]
 have e1 : ((fun e : Ent => decide (plO e.2 = q)) ∘ fun e : Ent => (e.1, if g e = true then f e.2 else e.2)) = fun e => decide (plO e.2 = q) := by
  funext e
  simp only [Function.comp]
  split
  ·rw [hf]
  ·rfl
 rw [e1]
 rfl
theorem zeroPtr (u : World) : (zeroValue 96).run Tryz.prog u = .ok (Value.pointer none) u := by kernel_rfl
end Go.Proofs.YtflignpbboiahaaGreat
namespace Go.Proofs.YtflignpbboiahaaGreat
open Go.ChangeShapes Go.WideShapes Go.ChangeAt Go.RowKit
theorem hd_9_9 {b0 b1 a0 a1 a2 a3 a4 a5 a6 a7 a8 c0 c1 c2 c3 c4 c5 c6 c7 c8 : Nat} {k0 k1 k2 k3 k4 k5 k6 k7 k8 l0 l1 l2 l3 l4 l5 l6 l7 l8 : Value} {W W' : World} (h : ((W.cell? ⟨b0, a0, none⟩ = some k0 ∧ W.cell? ⟨b0, a1, none⟩ = some k1 ∧ W.cell? ⟨b0, a2, none⟩ = some k2 ∧ W.cell? ⟨b0, a3, none⟩ = some k3 ∧ W.cell? ⟨b0, a4, none⟩ = some k4 ∧ W.cell? ⟨b0, a5, none⟩ = some k5 ∧ W.cell? ⟨b0, a6, none⟩ = some k6 ∧ W.cell? ⟨b0, a7, none⟩ = some k7 ∧ W.cell? ⟨b0, a8, none⟩ = some k8 ∧ W.cell? ⟨b1, c0, none⟩ = some l0 ∧ W.cell? ⟨b1, c1, none⟩ = some l1 ∧ W.cell? ⟨b1, c2, none⟩ = some l2 ∧ W.cell? ⟨b1, c3, none⟩ = some l3 ∧ W.cell? ⟨b1, c4, none⟩ = some l4 ∧ W.cell? ⟨b1, c5, none⟩ = some l5 ∧ W.cell? ⟨b1, c6, none⟩ = some l6 ∧ W.cell? ⟨b1, c7, none⟩ = some l7 ∧ W.cell? ⟨b1, c8, none⟩ = some l8) ∧ b0 < W.heap.size ∧ b1 < W.heap.size)) (hb : Below W.heap.size W W') : ((W'.cell? ⟨b0, a0, none⟩ = some k0 ∧ W'.cell? ⟨b0, a1, none⟩ = some k1 ∧ W'.cell? ⟨b0, a2, none⟩ = some k2 ∧ W'.cell? ⟨b0, a3, none⟩ = some k3 ∧ W'.cell? ⟨b0, a4, none⟩ = some k4 ∧ W'.cell? ⟨b0, a5, none⟩ = some k5 ∧ W'.cell? ⟨b0, a6, none⟩ = some k6 ∧ W'.cell? ⟨b0, a7, none⟩ = some k7 ∧ W'.cell? ⟨b0, a8, none⟩ = some k8 ∧ W'.cell? ⟨b1, c0, none⟩ = some l0 ∧ W'.cell? ⟨b1, c1, none⟩ = some l1 ∧ W'.cell? ⟨b1, c2, none⟩ = some l2 ∧ W'.cell? ⟨b1, c3, none⟩ = some l3 ∧ W'.cell? ⟨b1, c4, none⟩ = some l4 ∧ W'.cell? ⟨b1, c5, none⟩ = some l5 ∧ W'.cell? ⟨b1, c6, none⟩ = some l6 ∧ W'.cell? ⟨b1, c7, none⟩ = some l7 ∧ W'.cell? ⟨b1, c8, none⟩ = some l8) ∧ b0 < W'.heap.size ∧ b1 < W'.heap.size) := by
 obtain ⟨h99, s0, s1⟩ := h
 have e0 : ∀ z, W'.cell? ⟨b0, z, none⟩ = W.cell? ⟨b0, z, none⟩ := fun z => hb.cell s0
 have e1 : ∀ z, W'.cell? ⟨b1, z, none⟩ = W.cell? ⟨b1, z, none⟩ := fun z => hb.cell s1
 refine ⟨?_, Nat.lt_of_lt_of_le s0 hb.size, Nat.lt_of_lt_of_le s1 hb.size⟩
 simp only [e0, e1]
 exact h99
theorem hd_9_9_set {b0 b1 a0 a1 a2 a3 a4 a5 a6 a7 a8 c0 c1 c2 c3 c4 c5 c6 c7 c8 : Nat} {k0 k1 k2 k3 k4 k5 k6 k7 k8 l0 l1 l2 l3 l4 l5 l6 l7 l8 : Value} {W : World} {p : Addr} (h : ((W.cell? ⟨b0, a0, none⟩ = some k0 ∧ W.cell? ⟨b0, a1, none⟩ = some k1 ∧ W.cell? ⟨b0, a2, none⟩ = some k2 ∧ W.cell? ⟨b0, a3, none⟩ = some k3 ∧ W.cell? ⟨b0, a4, none⟩ = some k4 ∧ W.cell? ⟨b0, a5, none⟩ = some k5 ∧ W.cell? ⟨b0, a6, none⟩ = some k6 ∧ W.cell? ⟨b0, a7, none⟩ = some k7 ∧ W.cell? ⟨b0, a8, none⟩ = some k8 ∧ W.cell? ⟨b1, c0, none⟩ = some l0 ∧ W.cell? ⟨b1, c1, none⟩ = some l1 ∧ W.cell? ⟨b1, c2, none⟩ = some l2 ∧ W.cell? ⟨b1, c3, none⟩ = some l3 ∧ W.cell? ⟨b1, c4, none⟩ = some l4 ∧ W.cell? ⟨b1, c5, none⟩ = some l5 ∧ W.cell? ⟨b1, c6, none⟩ = some l6 ∧ W.cell? ⟨b1, c7, none⟩ = some l7 ∧ W.cell? ⟨b1, c8, none⟩ = some l8) ∧ b0 < W.heap.size ∧ b1 < W.heap.size)) (p0 : p.block ≠ b0) (p1 : p.block ≠ b1) (u : Value) : (((W.setCell p u).cell? ⟨b0, a0, none⟩ = some k0 ∧ (W.setCell p u).cell? ⟨b0, a1, none⟩ = some k1 ∧ (W.setCell p u).cell? ⟨b0, a2, none⟩ = some k2 ∧ (W.setCell p u).cell? ⟨b0, a3, none⟩ = some k3 ∧ (W.setCell p u).cell? ⟨b0, a4, none⟩ = some k4 ∧ (W.setCell p u).cell? ⟨b0, a5, none⟩ = some k5 ∧ (W.setCell p u).cell? ⟨b0, a6, none⟩ = some k6 ∧ (W.setCell p u).cell? ⟨b0, a7, none⟩ = some k7 ∧ (W.setCell p u).cell? ⟨b0, a8, none⟩ = some k8 ∧ (W.setCell p u).cell? ⟨b1, c0, none⟩ = some l0 ∧ (W.setCell p u).cell? ⟨b1, c1, none⟩ = some l1 ∧ (W.setCell p u).cell? ⟨b1, c2, none⟩ = some l2 ∧ (W.setCell p u).cell? ⟨b1, c3, none⟩ = some l3 ∧ (W.setCell p u).cell? ⟨b1, c4, none⟩ = some l4 ∧ (W.setCell p u).cell? ⟨b1, c5, none⟩ = some l5 ∧ (W.setCell p u).cell? ⟨b1, c6, none⟩ = some l6 ∧ (W.setCell p u).cell? ⟨b1, c7, none⟩ = some l7 ∧ (W.setCell p u).cell? ⟨b1, c8, none⟩ = some l8) ∧ b0 < (W.setCell p u).heap.size ∧ b1 < (W.setCell p u).heap.size) := by
 obtain ⟨h99, s0, s1⟩ := h
 have hb : W.heap.size ≤ (W.setCell p u).heap.size := by simp [World.setCell]
 have e0 : ∀ z, (W.setCell p u).cell? ⟨b0, z, none⟩ = W.cell? ⟨b0, z, none⟩ := fun z => cell_set_ne p0
 have e1 : ∀ z, (W.setCell p u).cell? ⟨b1, z, none⟩ = W.cell? ⟨b1, z, none⟩ := fun z => cell_set_ne p1
 refine ⟨?_, Nat.lt_of_lt_of_le s0 hb, Nat.lt_of_lt_of_le s1 hb⟩
 simp only [e0, e1]
 exact h99
theorem hd_9_9_re {b0 b1 a0 a1 a2 a3 a4 a5 a6 a7 a8 c0 c1 c2 c3 c4 c5 c6 c7 c8 : Nat} {k0 k1 k2 k3 k4 k5 k6 k7 k8 l0 l1 l2 l3 l4 l5 l6 l7 l8 : Value} {W : World} {o o' : Obj} (h : (((W.alloc o).cell? ⟨b0, a0, none⟩ = some k0 ∧ (W.alloc o).cell? ⟨b0, a1, none⟩ = some k1 ∧ (W.alloc o).cell? ⟨b0, a2, none⟩ = some k2 ∧ (W.alloc o).cell? ⟨b0, a3, none⟩ = some k3 ∧ (W.alloc o).cell? ⟨b0, a4, none⟩ = some k4 ∧ (W.alloc o).cell? ⟨b0, a5, none⟩ = some k5 ∧ (W.alloc o).cell? ⟨b0, a6, none⟩ = some k6 ∧ (W.alloc o).cell? ⟨b0, a7, none⟩ = some k7 ∧ (W.alloc o).cell? ⟨b0, a8, none⟩ = some k8 ∧ (W.alloc o).cell? ⟨b1, c0, none⟩ = some l0 ∧ (W.alloc o).cell? ⟨b1, c1, none⟩ = some l1 ∧ (W.alloc o).cell? ⟨b1, c2, none⟩ = some l2 ∧ (W.alloc o).cell? ⟨b1, c3, none⟩ = some l3 ∧ (W.alloc o).cell? ⟨b1, c4, none⟩ = some l4 ∧ (W.alloc o).cell? ⟨b1, c5, none⟩ = some l5 ∧ (W.alloc o).cell? ⟨b1, c6, none⟩ = some l6 ∧ (W.alloc o).cell? ⟨b1, c7, none⟩ = some l7 ∧ (W.alloc o).cell? ⟨b1, c8, none⟩ = some l8) ∧ b0 < (W.alloc o).heap.size ∧ b1 < (W.alloc o).heap.size)) (p0 : b0 < W.heap.size) (p1 : b1 < W.heap.size) : (((W.alloc o').cell? ⟨b0, a0, none⟩ = some k0 ∧ (W.alloc o').cell? ⟨b0, a1, none⟩ = some k1 ∧ (W.alloc o').cell? ⟨b0, a2, none⟩ = some k2 ∧ (W.alloc o').cell? ⟨b0, a3, none⟩ = some k3 ∧ (W.alloc o').cell? ⟨b0, a4, none⟩ = some k4 ∧ (W.alloc o').cell? ⟨b0, a5, none⟩ = some k5 ∧ (W.alloc o').cell? ⟨b0, a6, none⟩ = some k6 ∧ (W.alloc o').cell? ⟨b0, a7, none⟩ = some k7 ∧ (W.alloc o').cell? ⟨b0, a8, none⟩ = some k8 ∧ (W.alloc o').cell? ⟨b1, c0, none⟩ = some l0 ∧ (W.alloc o').cell? ⟨b1, c1, none⟩ = some l1 ∧ (W.alloc o').cell? ⟨b1, c2, none⟩ = some l2 ∧ (W.alloc o').cell? ⟨b1, c3, none⟩ = some l3 ∧ (W.alloc o').cell? ⟨b1, c4, none⟩ = some l4 ∧ (W.alloc o').cell? ⟨b1, c5, none⟩ = some l5 ∧ (W.alloc o').cell? ⟨b1, c6, none⟩ = some l6 ∧ (W.alloc o').cell? ⟨b1, c7, none⟩ = some l7 ∧ (W.alloc o').cell? ⟨b1, c8, none⟩ = some l8) ∧ b0 < (W.alloc o').heap.size ∧ b1 < (W.alloc o').heap.size) := by
 obtain ⟨h99, s0, s1⟩ := h
 have hb : Below W.heap.size (W.alloc o) (W.alloc o') := bel_re W o o'
 have e0 : ∀ z, (W.alloc o').cell? ⟨b0, z, none⟩ = (W.alloc o).cell? ⟨b0, z, none⟩ := fun z => hb.cell p0
 have e1 : ∀ z, (W.alloc o').cell? ⟨b1, z, none⟩ = (W.alloc o).cell? ⟨b1, z, none⟩ := fun z => hb.cell p1
 refine ⟨?_, Nat.lt_of_lt_of_le s0 hb.size, Nat.lt_of_lt_of_le s1 hb.size⟩
 simp only [e0, e1]
 exact h99
/-- A row of 9 numbers. -/
structure PnR where
 ky : Int
 st : Int
 en : Int
 no : Int
 kd : Int
 n : Int
 su : Int
 le : Int
 mo : Int
/-- A row lies in its cells; rows lie one behind the other; a slice's value holds rows. -/
def PnRAt (W : World) (g o : Nat) (x : PnR) : Prop := W.cell? ⟨g, o, none⟩ = some (.int .i64 x.ky) ∧ W.cell? ⟨g, o + 1, none⟩ = some (.int .i64 x.st) ∧ W.cell? ⟨g, o + 2, none⟩ = some (.int .i64 x.en) ∧ W.cell? ⟨g, o + 3, none⟩ = some (.int .i64 x.no) ∧ W.cell? ⟨g, o + 4, none⟩ = some (.int .i64 x.kd) ∧ W.cell? ⟨g, o + 5, none⟩ = some (.int .i64 x.n) ∧ W.cell? ⟨g, o + 6, none⟩ = some (.int .i64 x.su) ∧ W.cell? ⟨g, o + 7, none⟩ = some (.int .i64 x.le) ∧ W.cell? ⟨g, o + 8, none⟩ = some (.int .i64 x.mo)
def PnRsAt (W : World) (g o : Nat) (xs : List PnR) : Prop := ∀ i x, xs[i]? = some x → PnRAt W g (o + i * 9) x
def PnRs (W : World) (a : Option Addr) (len : Nat) (xs : List PnR) : Prop := xs.length = len ∧ len ≤ maxLen ∧ (len = 0 ∨ ∃ g o, a = some ⟨g, o, none⟩ ∧ PnRsAt W g o xs)
theorem PnRAt.lt {W : World} {g o : Nat} {x : PnR} (h : PnRAt W g o x) : g < W.heap.size := by
 obtain ⟨h0, _⟩ := h
 rcases Nat.lt_or_ge g W.heap.size with hl | hg
 ·exact hl
 ·simp [World.cell?, Array.getElem?_eq_none hg] at h0
theorem PnRsAt.lt {W : World} {g o : Nat} {xs : List PnR} (h : PnRsAt W g o xs) (hp : 0 < xs.length) : g < W.heap.size := (h 0 xs[0] (List.getElem?_eq_getElem hp)).lt
theorem PnRAt.below {W W' : World} {B g o : Nat} {x : PnR} (h : PnRAt W g o x) (hb : Below B W W') (hg : g < B) : PnRAt W' g o x := by
 obtain ⟨h0, h1, h2, h3, h4, h5, h6, h7, h8⟩ := h
 exact ⟨(hb.cell (p := ⟨g, _, none⟩) hg).trans h0, (hb.cell (p := ⟨g, _, none⟩) hg).trans h1, (hb.cell (p := ⟨g, _, none⟩) hg).trans h2, (hb.cell (p := ⟨g, _, none⟩) hg).trans h3, (hb.cell (p := ⟨g, _, none⟩) hg).trans h4, (hb.cell (p := ⟨g, _, none⟩) hg).trans h5, (hb.cell (p := ⟨g, _, none⟩) hg).trans h6, (hb.cell (p := ⟨g, _, none⟩) hg).trans h7, (hb.cell (p := ⟨g, _, none⟩) hg).trans h8⟩
theorem PnRsAt.below {W W' : World} {B g o : Nat} {xs : List PnR} (h : PnRsAt W g o xs) (hb : Below B W W') (hg : 0 < xs.length → g < B) : PnRsAt W' g o xs := by
 intro i x hx
 have hlt : i < xs.length := (List.getElem?_eq_some_iff.1 hx).1
 exact (h i x hx).below hb (hg (by omega))
theorem PnRs.below {W W' : World} {a : Option Addr} {len : Nat} {xs : List PnR} (h : PnRs W a len xs) (hb : Below W.heap.size W W') : PnRs W' a len xs := by
 obtain ⟨h1, h2, h3⟩ := h
 refine ⟨h1, h2, ?_⟩
 rcases h3 with h3 | ⟨g, o, ha, hr⟩
 ·exact Or.inl h3
 ·exact Or.inr ⟨g, o, ha, hr.below hb (fun hp => hr.lt hp)⟩
theorem PnRAt.grown {W W' : World} {row : Option Nat} {g o : Nat} {x : PnR} (h : PnRAt W g o x) (hg : W.grownBy W' row) (hne : some g ≠ row) : PnRAt W' g o x := by
 have hbk := hg.block g h.lt hne
 obtain ⟨h0, h1, h2, h3, h4, h5, h6, h7, h8⟩ := h
 exact ⟨(World.cell?_of_block (w := W) hbk).trans h0, (World.cell?_of_block (w := W) hbk).trans h1, (World.cell?_of_block (w := W) hbk).trans h2, (World.cell?_of_block (w := W) hbk).trans h3, (World.cell?_of_block (w := W) hbk).trans h4, (World.cell?_of_block (w := W) hbk).trans h5, (World.cell?_of_block (w := W) hbk).trans h6, (World.cell?_of_block (w := W) hbk).trans h7, (World.cell?_of_block (w := W) hbk).trans h8⟩
theorem PnRs.grown {W W' : World} {row : Option Nat} {a : Option Addr} {n : Nat} {xs : List PnR} (h : PnRs W a n xs) (hg : W.grownBy W' row) (hne : ∀ g o, 0 < n → a = some ⟨g, o, none⟩ → some g ≠ row) : PnRs W' a n xs := by
 obtain ⟨h1, h2, h3⟩ := h
 refine ⟨h1, h2, ?_⟩
 rcases h3 with h3 | ⟨g, o, ha, hr⟩
 ·exact Or.inl h3
 ·refine Or.inr ⟨g, o, ha, fun i x hx => (hr i x hx).grown hg (hne g o ?_ ha)⟩
  have hlt : i < xs.length := (List.getElem?_eq_some_iff.1 hx).1
  omega
theorem PnRs.lt {W : World} {g o n : Nat} {xs : List PnR} (h : PnRs W (some ⟨g, o, none⟩) n xs) (hp : 0 < n) : g < W.heap.size := by
 obtain ⟨h1, h2, h3⟩ := h
 obtain ⟨g', o', ha, hr⟩ := h3.resolve_left (by omega)
 simp at ha
 have := hr.lt (by omega)
 omega
/-- A row is stored; a block of rows, known whole. -/
def setPn (W : World) (g o : Nat) (x : PnR) : World := (((((((((W.setCell ⟨g, o, none⟩ (.int .i64 x.ky)).setCell ⟨g, o + 1, none⟩ (.int .i64 x.st)).setCell ⟨g, o + 2, none⟩ (.int .i64 x.en)).setCell ⟨g, o + 3, none⟩ (.int .i64 x.no)).setCell ⟨g, o + 4, none⟩ (.int .i64 x.kd)).setCell ⟨g, o + 5, none⟩ (.int .i64 x.n)).setCell ⟨g, o + 6, none⟩ (.int .i64 x.su)).setCell ⟨g, o + 7, none⟩ (.int .i64 x.le)).setCell ⟨g, o + 8, none⟩ (.int .i64 x.mo))
def BlkPn (W : World) (g ty len : Nat) : Prop := ∃ cur, W.heap[g]? = some (.cells cur ty (0, 0)) ∧ cur.size = len * 9
theorem BlkPn.set {W : World} {g ty len i : Nat} (h : BlkPn W g ty len) (v : Value) : BlkPn (W.setCell ⟨g, i, none⟩ v) g ty len := by
 obtain ⟨cur, h1, h2⟩ := h
 exact ⟨_, Joins.block_setCell h1 v, by simp [h2]⟩
theorem BlkPn.below {W W' : World} {g ty len B : Nat} (h : BlkPn W g ty len) (hb : Below B W W') (hg : g < B) : BlkPn W' g ty len := by
 obtain ⟨cur, h1, h2⟩ := h
 exact ⟨cur, (hb.block g hg).trans h1, h2⟩
theorem BlkPn.lt {W : World} {g ty len : Nat} (h : BlkPn W g ty len) : g < W.heap.size := by
 obtain ⟨cur, h1, h2⟩ := h
 exact (Array.getElem?_eq_some_iff.1 h1).1
theorem BlkPn.cell {W : World} {g ty len i : Nat} (h : BlkPn W g ty len) (hi : i < len * 9) : ∃ u, W.cell? ⟨g, i, none⟩ = some u := by
 obtain ⟨cur, h1, h2⟩ := h
 exact ⟨_, (Joins.cell_of_block h1 i).trans (Array.getElem?_eq_getElem (by omega))⟩
theorem BlkPn.frozen {W : World} {g ty len i : Nat} (h : BlkPn W g ty len) : W.frozen? ⟨g, i, none⟩ = false := by
 obtain ⟨cur, h1, h2⟩ := h
 exact Joins.unfrozen_of_block h1 i
theorem BlkPn.cells {W : World} {g ty len k : Nat} (h : BlkPn W g ty len) (hk : k < len) : (∃ u, W.cell? ⟨g, k * 9, none⟩ = some u) ∧ (∃ u, W.cell? ⟨g, k * 9 + 1, none⟩ = some u) ∧ (∃ u, W.cell? ⟨g, k * 9 + 2, none⟩ = some u) ∧ (∃ u, W.cell? ⟨g, k * 9 + 3, none⟩ = some u) ∧ (∃ u, W.cell? ⟨g, k * 9 + 4, none⟩ = some u) ∧ (∃ u, W.cell? ⟨g, k * 9 + 5, none⟩ = some u) ∧ (∃ u, W.cell? ⟨g, k * 9 + 6, none⟩ = some u) ∧ (∃ u, W.cell? ⟨g, k * 9 + 7, none⟩ = some u) ∧ (∃ u, W.cell? ⟨g, k * 9 + 8, none⟩ = some u) := ⟨h.cell (by omega), h.cell (by omega), h.cell (by omega), h.cell (by omega), h.cell (by omega), h.cell (by omega), h.cell (by omega), h.cell (by omega), h.cell (by omega)⟩
theorem BlkPn.sets {W : World} {g ty len o : Nat} (h : BlkPn W g ty len) (x : PnR) : BlkPn (setPn W g o x) g ty len := (((((((((h.set _).set _).set _).set _).set _).set _).set _).set _).set _)
theorem Pn_other {W : World} {g i j : Nat} {v : Value} (h : i ≠ j) : (W.setCell ⟨g, i, none⟩ v).cell? ⟨g, j, none⟩ = W.cell? ⟨g, j, none⟩ := World.cell?_setCell_other _ _ _ _ (by intro e; injection e with e1 e2; exact h e2)
theorem Pn_this {W : World} {g ty len i : Nat} {v : Value} (h : BlkPn W g ty len) (hi : i < len * 9) : (W.setCell ⟨g, i, none⟩ v).cell? ⟨g, i, none⟩ = some v := by
 obtain ⟨u, hu⟩ := h.cell hi
 exact World.cell?_setCell_same _ _ _ hu
theorem setPn_this {W : World} {g ty len k : Nat} (h : BlkPn W g ty len) (hk : k < len) (x : PnR) : PnRAt (setPn W g (k * 9) x) g (k * 9) x := by
 unfold setPn
 refine ⟨?_, ?_, ?_, ?_, ?_, ?_, ?_, ?_, ?_⟩
 ·(repeat rw [Pn_other (by omega)]); rw [Pn_this h (by omega)]
 ·(repeat rw [Pn_other (by omega)]); rw [Pn_this (h.set _) (by omega)]
 ·(repeat rw [Pn_other (by omega)]); rw [Pn_this ((h.set _).set _) (by omega)]
 ·(repeat rw [Pn_other (by omega)]); rw [Pn_this (((h.set _).set _).set _) (by omega)]
 ·(repeat rw [Pn_other (by omega)]); rw [Pn_this ((((h.set _).set _).set _).set _) (by omega)]
 ·(repeat rw [Pn_other (by omega)]); rw [Pn_this (((((h.set _).set _).set _).set _).set _) (by omega)]
 ·rw [Pn_other (by omega), Pn_other (by omega), Pn_this ((((((h.set _).set _).set _).set _).set _).set _) (by omega)]
 ·rw [Pn_other (by omega), Pn_this (((((((h.set _).set _).set _).set _).set _).set _).set _) (by omega)]
 ·rw [Pn_this ((((((((h.set _).set _).set _).set _).set _).set _).set _).set _) (by omega)]
theorem setPn_ne {W : World} {g i k : Nat} {x y : PnR} (h : PnRAt W g (i * 9) y) (hk : i ≠ k) : PnRAt (setPn W g (k * 9) x) g (i * 9) y := by
 unfold setPn
 obtain ⟨h0, h1, h2, h3, h4, h5, h6, h7, h8⟩ := h
 refine ⟨?_, ?_, ?_, ?_, ?_, ?_, ?_, ?_, ?_⟩
 ·rw [Pn_other (by omega), Pn_other (by omega), Pn_other (by omega), Pn_other (by omega), Pn_other (by omega), Pn_other (by omega), Pn_other (by omega), Pn_other (by omega), Pn_other (by omega)]; exact h0
 ·rw [Pn_other (by omega), Pn_other (by omega), Pn_other (by omega), Pn_other (by omega), Pn_other (by omega), Pn_other (by omega), Pn_other (by omega), Pn_other (by omega), Pn_other (by omega)]; exact h1
 ·rw [Pn_other (by omega), Pn_other (by omega), Pn_other (by omega), Pn_other (by omega), Pn_other (by omega), Pn_other (by omega), Pn_other (by omega), Pn_other (by omega), Pn_other (by omega)]; exact h2
 ·rw [Pn_other (by omega), Pn_other (by omega), Pn_other (by omega), Pn_other (by omega), Pn_other (by omega), Pn_other (by omega), Pn_other (by omega), Pn_other (by omega), Pn_other (by omega)]; exact h3
 ·rw [Pn_other (by omega), Pn_other (by omega), Pn_other (by omega), Pn_other (by omega), Pn_other (by omega), Pn_other (by omega), Pn_other (by omega), Pn_other (by omega), Pn_other (by omega)]; exact h4
 ·rw [Pn_other (by omega), Pn_other (by omega), Pn_other (by omega), Pn_other (by omega), Pn_other (by omega), Pn_other (by omega), Pn_other (by omega), Pn_other (by omega), Pn_other (by omega)]; exact h5
 ·rw [Pn_other (by omega), Pn_other (by omega), Pn_other (by omega), Pn_other (by omega), Pn_other (by omega), Pn_other (by omega), Pn_other (by omega), Pn_other (by omega), Pn_other (by omega)]; exact h6
 ·rw [Pn_other (by omega), Pn_other (by omega), Pn_other (by omega), Pn_other (by omega), Pn_other (by omega), Pn_other (by omega), Pn_other (by omega), Pn_other (by omega), Pn_other (by omega)]; exact h7
 ·rw [Pn_other (by omega), Pn_other (by omega), Pn_other (by omega), Pn_other (by omega), Pn_other (by omega), Pn_other (by omega), Pn_other (by omega), Pn_other (by omega), Pn_other (by omega)]; exact h8
theorem grown_setPn {W W' : World} {g o : Nat} {x : PnR} (h : W.grownBy W' (some g)) : W.grownBy (setPn W' g o x) (some g) := by
 have hs : ∀ (X : World) (i : Nat) (v : Value), W.grownBy X (some g) → W.grownBy (X.setCell ⟨g, i, none⟩ v) (some g) := by
  intro X i v hX
  exact ⟨hX.os, hX.tape, hX.output, by simp [World.setCell]; exact hX.size, fun k hk hne => (Below.heap_setCell X _ v k (fun e => hne (by rw [e]))).trans (hX.block k hk hne)⟩
 exact hs _ _ _ (hs _ _ _ (hs _ _ _ (hs _ _ _ (hs _ _ _ (hs _ _ _ (hs _ _ _ (hs _ _ _ (hs _ _ _ (h)))))))))
/-- The cells of rows; a slice of the call's own that holds rows. -/
def PnR.cells (x : PnR) : List Value := [.int .i64 x.ky, .int .i64 x.st, .int .i64 x.en, .int .i64 x.no, .int .i64 x.kd, .int .i64 x.n, .int .i64 x.su, .int .i64 x.le, .int .i64 x.mo]
def flatPn (xs : List PnR) : List Value := xs.flatMap PnR.cells
theorem flatPn_snoc (xs : List PnR) (x : PnR) : flatPn (xs ++ [x]) = flatPn xs ++ x.cells := by simp [flatPn]
theorem flatPn_len (xs : List PnR) : (flatPn xs).length = xs.length * 9 := by
 induction xs with
 | nil => rfl
 | cons x r ih => show (x.cells ++ flatPn r).length = _; rw [List.length_append, ih]; simp [PnR.cells]; omega
theorem flatPn_get {xs : List PnR} {i : Nat} {x : PnR} (h : xs[i]? = some x) : (flatPn xs)[i * 9]? = some (.int .i64 x.ky) ∧ (flatPn xs)[i * 9 + 1]? = some (.int .i64 x.st) ∧ (flatPn xs)[i * 9 + 2]? = some (.int .i64 x.en) ∧ (flatPn xs)[i * 9 + 3]? = some (.int .i64 x.no) ∧ (flatPn xs)[i * 9 + 4]? = some (.int .i64 x.kd) ∧ (flatPn xs)[i * 9 + 5]? = some (.int .i64 x.n) ∧ (flatPn xs)[i * 9 + 6]? = some (.int .i64 x.su) ∧ (flatPn xs)[i * 9 + 7]? = some (.int .i64 x.le) ∧ (flatPn xs)[i * 9 + 8]? = some (.int .i64 x.mo) := by
 induction xs generalizing i with
 | nil => simp at h
 | cons y r ih =>
  have hf : flatPn (y :: r) = y.cells ++ flatPn r := rfl
  cases i with
  | zero =>
   simp at h
   subst h
   rw [hf]
   exact ⟨rfl, rfl, rfl, rfl, rfl, rfl, rfl, rfl, rfl⟩
  | succ i =>
   simp at h
   obtain ⟨h0, h1, h2, h3, h4, h5, h6, h7, h8⟩ := ih h
   have hl : y.cells.length = 9 := rfl
   rw [hf]
   refine ⟨?_, ?_, ?_, ?_, ?_, ?_, ?_, ?_, ?_⟩
   ·rw [List.getElem?_append_right (by omega), hl, show (i + 1) * 9 - 9 = i * 9 by omega]; exact h0
   ·rw [List.getElem?_append_right (by omega), hl, show (i + 1) * 9 + 1 - 9 = i * 9 + 1 by omega]; exact h1
   ·rw [List.getElem?_append_right (by omega), hl, show (i + 1) * 9 + 2 - 9 = i * 9 + 2 by omega]; exact h2
   ·rw [List.getElem?_append_right (by omega), hl, show (i + 1) * 9 + 3 - 9 = i * 9 + 3 by omega]; exact h3
   ·rw [List.getElem?_append_right (by omega), hl, show (i + 1) * 9 + 4 - 9 = i * 9 + 4 by omega]; exact h4
   ·rw [List.getElem?_append_right (by omega), hl, show (i + 1) * 9 + 5 - 9 = i * 9 + 5 by omega]; exact h5
   ·rw [List.getElem?_append_right (by omega), hl, show (i + 1) * 9 + 6 - 9 = i * 9 + 6 by omega]; exact h6
   ·rw [List.getElem?_append_right (by omega), hl, show (i + 1) * 9 + 7 - 9 = i * 9 + 7 by omega]; exact h7
   ·rw [List.getElem?_append_right (by omega), hl, show (i + 1) * 9 + 8 - 9 = i * 9 + 8 by omega]; exact h8
def OwnPn (W : World) (B : Nat) (v : Value) (ys : List PnR) : Prop := W.ownsRow B 68 9 v ys.length (flatPn ys)
theorem ownPn_snoc {w1 : World} {B : Nat} {v' : Value} {ys : List PnR} {x : PnR} (ho : w1.ownsRow B 68 9 v' (ys.length + 1) (flatPn ys ++ x.cells)) : OwnPn w1 B v' (ys ++ [x]) := by
 unfold OwnPn
 rw [flatPn_snoc]
 simpa using ho
theorem cells_newPn (w : World) (ky st en no kd n su le mo : Int) (ty : Nat) : ∀ j u, ([.int .i64 ky, .int .i64 st, .int .i64 en, .int .i64 no, .int .i64 kd, .int .i64 n, .int .i64 su, .int .i64 le, .int .i64 mo] : List Value)[j]? = some u → (w.alloc (.cells #[.int .i64 ky, .int .i64 st, .int .i64 en, .int .i64 no, .int .i64 kd, .int .i64 n, .int .i64 su, .int .i64 le, .int .i64 mo] ty)).cell? ((⟨w.heap.size, 0, none⟩ : Addr).add j) = some u := by
 intro j u hj
 have e : ((⟨w.heap.size, 0, none⟩ : Addr).add j) = ⟨w.heap.size, j, none⟩ := by
  unfold Addr.add
  split
  ·rename_i h0; rw [h0]
  ·simp
 rw [e]
 simpa [go_sem] using hj
/-- The block of a slice's rows, if there are any; what may be written; what has been marked. -/
def rowPn (a : Option Addr) (n : Nat) : Option Nat := if n = 0 then none else a.map (·.block)
theorem rowPn_pos {n : Nat} (h : n ≠ 0) (g o : Nat) : rowPn (some ⟨g, o, none⟩) n = some g := by unfold rowPn; rw [if_neg h]; rfl
def markPn (i : Nat) : PnR := ⟨1 + 9 * (i : Int), 1 + 9 * (i : Int) + 1, 1 + 9 * (i : Int) + 1 + 1, 1 + 9 * (i : Int) + 1 + 1 + 1, 1 + 9 * (i : Int) + 1 + 1 + 1 + 1, 1 + 9 * (i : Int) + 1 + 1 + 1 + 1 + 1, 1 + 9 * (i : Int) + 1 + 1 + 1 + 1 + 1 + 1, 1 + 9 * (i : Int) + 1 + 1 + 1 + 1 + 1 + 1 + 1, 1 + 9 * (i : Int) + 1 + 1 + 1 + 1 + 1 + 1 + 1 + 1⟩
def WrPn (W : World) (a : Option Addr) (n cap : Nat) : Prop := n = 0 ∨ ∃ g, a = some ⟨g, 0, none⟩ ∧ BlkPn W g 68 cap ∧ n ≤ cap
def MarkedPn (W : World) (a : Option Addr) (n : Nat) : Prop := n = 0 ∨ ∃ g, a = some ⟨g, 0, none⟩ ∧ ∀ i, i < n → PnRAt W g (i * 9) (markPn i)
theorem grown0Pn {W W' : World} (h : Below W.heap.size W W') : W.grownBy W' none := ⟨h.os, h.tape, h.output, h.size, fun k hk _ => h.block k hk⟩
theorem MarkedPn.below {W W' : World} {a : Option Addr} {n : Nat} (h : MarkedPn W a n) (hb : Below W.heap.size W W') : MarkedPn W' a n := by
 rcases h with h | ⟨g, ha, hM⟩
 ·exact Or.inl h
 ·exact Or.inr ⟨g, ha, fun i hi => (hM i hi).below hb (hM i hi).lt⟩
theorem holdPn {W : World} {B : Nat} {v : Value} {ys : List PnR} (h : OwnPn W B v ys) (hl : ys.length ≤ 1048576) :
  ∃ a cap, v = .slice a ys.length cap ∧ PnRs W a ys.length ys ∧ WrPn W a ys.length cap ∧ ∀ g o, 0 < ys.length → a = some ⟨g, o, none⟩ → B ≤ g := by
 have hm : ys.length ≤ maxLen := by unfold maxLen; omega
 obtain ⟨hlen, h | ⟨g, cap, cur, rfl, hB, hblk, hnc, hcm, hsz, htk⟩⟩ := h
 ·obtain ⟨rfl, h0⟩ := h
  rw [h0]
  exact ⟨none, 0, rfl, ⟨h0, Nat.zero_le _, Or.inl rfl⟩, Or.inl rfl, fun _ _ hp => by omega⟩
 ·refine ⟨_, cap, rfl, ⟨rfl, hm, Or.inr ⟨g, 0, rfl, ?_⟩⟩, Or.inr ⟨g, rfl, ⟨cur, hblk, hsz⟩, hnc⟩, fun g' o' _ e => by simp at e; omega⟩
  intro i x hx
  have hi : i < ys.length := (List.getElem?_eq_some_iff.1 hx).1
  have hcell : ∀ j u, j < ys.length * 9 → (flatPn ys)[j]? = some u → W.cell? ⟨g, j, none⟩ = some u := by
   intro j u hj hu
   rw [Joins.cell_of_block hblk j, ← Array.getElem?_toList]
   rw [← htk, List.getElem?_take_of_lt hj] at hu
   exact hu
  obtain ⟨f0, f1, f2, f3, f4, f5, f6, f7, f8⟩ := flatPn_get hx
  rw [Nat.zero_add]
  exact ⟨hcell _ _ (by omega) f0, hcell _ _ (by omega) f1, hcell _ _ (by omega) f2, hcell _ _ (by omega) f3, hcell _ _ (by omega) f4, hcell _ _ (by omega) f5, hcell _ _ (by omega) f6, hcell _ _ (by omega) f7, hcell _ _ (by omega) f8⟩
theorem WrPn.below {W W' : World} {a : Option Addr} {n cap : Nat} (h : WrPn W a n cap) (hb : Below W.heap.size W W') : WrPn W' a n cap := by
 rcases h with h | ⟨g, ha, hB, hc⟩
 ·exact Or.inl h
 ·exact Or.inr ⟨g, ha, hB.below hb hB.lt, hc⟩
theorem WrPn.grown {W W' : World} {row : Option Nat} {a : Option Addr} {n cap : Nat} (h : WrPn W a n cap) (hg : W.grownBy W' row) (hne : ∀ g o, 0 < n → a = some ⟨g, o, none⟩ → some g ≠ row) : WrPn W' a n cap := by
 rcases h with h | ⟨g, ha, hB, hc⟩
 ·exact Or.inl h
 ·by_cases h0 : n = 0
  ·exact Or.inl h0
  ·obtain ⟨cur, c1, c2⟩ := hB
   exact Or.inr ⟨g, ha, ⟨cur, (hg.block g (Array.getElem?_eq_some_iff.1 c1).1 (hne g 0 (by omega) ha)).trans c1, c2⟩, hc⟩
set_option maxHeartbeats 1000000 in
theorem eqPn_one (x : PnR) (w : World) : Calls Tryz.prog 31 #[.agg #[.int .i64 x.ky, .int .i64 x.st, .int .i64 x.en, .int .i64 x.no, .int .i64 x.kd, .int .i64 x.n, .int .i64 x.su, .int .i64 x.le, .int .i64 x.mo], .agg #[.int .i64 x.ky, .int .i64 x.st, .int .i64 x.en, .int .i64 x.no, .int .i64 x.kd, .int .i64 x.n, .int .i64 x.su, .int .i64 x.le, .int .i64 x.mo]] w fun e w' => e = .returned (.bool true) ∧ Below w.heap.size w w' := by
 go_enter Tryz.func31, Tryz.ntmps31
 go_wp2_with (first
  | (go_at_call 57; refine (eqWinT _ _ _).mono ?_; rintro e w' ⟨rfl, hb⟩; obtain ⟨hc, hf, hs⟩ := bcell hb; (try have hz0 := zA hb w.heap.size); (try have hz1 := zA hb (w.heap.size + 1)))
  | (go_at_call 58; refine (eqAggT _ _ _ _ _).mono ?_; rintro e w' ⟨rfl, hb⟩; obtain ⟨hc, hf, hs⟩ := bcell hb; (try have hz0 := zA hb w.heap.size); (try have hz1 := zA hb (w.heap.size + 1))))
 go_ret
 exact ⟨rfl, (belB)⟩
set_option maxRecDepth 20000 in
set_option maxHeartbeats 1000000 in
theorem eqPn_any (a1 a2 : Option Addr) (len cap1 cap2 : Nat) (xs : List PnR) (w : World) (h1 : PnRs w a1 len xs) (h2 : PnRs w a2 len xs) : Calls Tryz.prog 11 #[.slice a1 len cap1, .slice a2 len cap2] w fun e w' => e = .returned (.bool true) ∧ Below w.heap.size w w' := by
 have hm := h1.2.1
 unfold maxLen at hm
 go_enter Tryz.func11, Tryz.ntmps11
 go_wp2
 go_loopw [5] (fun i wr => ∃ k : Nat, k ≤ len ∧ i = .int .i64 k ∧ Below w.heap.size w wr) (fun i _ => len - (intOf i).toNat)
 case atStart => exact ⟨0, Nat.zero_le _, rfl, Below.refl _ _⟩
 case round =>
  obtain ⟨k, hk, rfl, hbw⟩ := hrel
  by_cases hlt : k < len
  ·obtain ⟨hl1, _, hx1⟩ := h1
   obtain ⟨hl2, _, hx2⟩ := h2
   obtain ⟨g1, o1, rfl, hr1⟩ := hx1.resolve_left (by omega)
   obtain ⟨g2, o2, rfl, hr2⟩ := hx2.resolve_left (by omega)
   obtain ⟨x, hxk⟩ : ∃ x, xs[k]? = some x := ⟨_, List.getElem?_eq_getElem (by omega)⟩
   have hg1 : g1 < w.heap.size := hr1.lt (by omega)
   have hg2 : g2 < w.heap.size := hr2.lt (by omega)
   have hs1 : g1 < wr.heap.size := Nat.lt_of_lt_of_le hg1 hbw.size
   have hs2 : g2 < wr.heap.size := Nat.lt_of_lt_of_le hg2 hbw.size
   have hS : ((wr.cell? ⟨g1, o1 + k * 9, none⟩ = some (.int .i64 x.ky) ∧ wr.cell? ⟨g1, o1 + k * 9 + 1, none⟩ = some (.int .i64 x.st) ∧ wr.cell? ⟨g1, o1 + k * 9 + 2, none⟩ = some (.int .i64 x.en) ∧ wr.cell? ⟨g1, o1 + k * 9 + 3, none⟩ = some (.int .i64 x.no) ∧ wr.cell? ⟨g1, o1 + k * 9 + 4, none⟩ = some (.int .i64 x.kd) ∧ wr.cell? ⟨g1, o1 + k * 9 + 5, none⟩ = some (.int .i64 x.n) ∧ wr.cell? ⟨g1, o1 + k * 9 + 6, none⟩ = some (.int .i64 x.su) ∧ wr.cell? ⟨g1, o1 + k * 9 + 7, none⟩ = some (.int .i64 x.le) ∧ wr.cell? ⟨g1, o1 + k * 9 + 8, none⟩ = some (.int .i64 x.mo) ∧ wr.cell? ⟨g2, o2 + k * 9, none⟩ = some (.int .i64 x.ky) ∧ wr.cell? ⟨g2, o2 + k * 9 + 1, none⟩ = some (.int .i64 x.st) ∧ wr.cell? ⟨g2, o2 + k * 9 + 2, none⟩ = some (.int .i64 x.en) ∧ wr.cell? ⟨g2, o2 + k * 9 + 3, none⟩ = some (.int .i64 x.no) ∧ wr.cell? ⟨g2, o2 + k * 9 + 4, none⟩ = some (.int .i64 x.kd) ∧ wr.cell? ⟨g2, o2 + k * 9 + 5, none⟩ = some (.int .i64 x.n) ∧ wr.cell? ⟨g2, o2 + k * 9 + 6, none⟩ = some (.int .i64 x.su) ∧ wr.cell? ⟨g2, o2 + k * 9 + 7, none⟩ = some (.int .i64 x.le) ∧ wr.cell? ⟨g2, o2 + k * 9 + 8, none⟩ = some (.int .i64 x.mo)) ∧ g1 < wr.heap.size ∧ g2 < wr.heap.size) := by
    obtain ⟨c0, c1, c2, c3, c4, c5, c6, c7, c8⟩ := (hr1 k _ hxk).below hbw hg1
    obtain ⟨d0, d1, d2, d3, d4, d5, d6, d7, d8⟩ := (hr2 k _ hxk).below hbw hg2
    exact ⟨⟨c0, c1, c2, c3, c4, c5, c6, c7, c8, d0, d1, d2, d3, d4, d5, d6, d7, d8⟩, hs1, hs2⟩
   clear hx1 hx2 hxk hr1 hr2
   go_wp2
   go_region_held3 (fun W => ((W.cell? ⟨g1, o1 + k * 9, none⟩ = some (.int .i64 x.ky) ∧ W.cell? ⟨g1, o1 + k * 9 + 1, none⟩ = some (.int .i64 x.st) ∧ W.cell? ⟨g1, o1 + k * 9 + 2, none⟩ = some (.int .i64 x.en) ∧ W.cell? ⟨g1, o1 + k * 9 + 3, none⟩ = some (.int .i64 x.no) ∧ W.cell? ⟨g1, o1 + k * 9 + 4, none⟩ = some (.int .i64 x.kd) ∧ W.cell? ⟨g1, o1 + k * 9 + 5, none⟩ = some (.int .i64 x.n) ∧ W.cell? ⟨g1, o1 + k * 9 + 6, none⟩ = some (.int .i64 x.su) ∧ W.cell? ⟨g1, o1 + k * 9 + 7, none⟩ = some (.int .i64 x.le) ∧ W.cell? ⟨g1, o1 + k * 9 + 8, none⟩ = some (.int .i64 x.mo) ∧ W.cell? ⟨g2, o2 + k * 9, none⟩ = some (.int .i64 x.ky) ∧ W.cell? ⟨g2, o2 + k * 9 + 1, none⟩ = some (.int .i64 x.st) ∧ W.cell? ⟨g2, o2 + k * 9 + 2, none⟩ = some (.int .i64 x.en) ∧ W.cell? ⟨g2, o2 + k * 9 + 3, none⟩ = some (.int .i64 x.no) ∧ W.cell? ⟨g2, o2 + k * 9 + 4, none⟩ = some (.int .i64 x.kd) ∧ W.cell? ⟨g2, o2 + k * 9 + 5, none⟩ = some (.int .i64 x.n) ∧ W.cell? ⟨g2, o2 + k * 9 + 6, none⟩ = some (.int .i64 x.su) ∧ W.cell? ⟨g2, o2 + k * 9 + 7, none⟩ = some (.int .i64 x.le) ∧ W.cell? ⟨g2, o2 + k * 9 + 8, none⟩ = some (.int .i64 x.mo)) ∧ g1 < W.heap.size ∧ g2 < W.heap.size)) ((first | ((repeat (first | (with_reducible assumption) | (with_reducible refine hd_9_9 ?_ (by with_reducible assumption)) | (with_reducible refine hd_9_9 ?_ (bel_drew (Below.refl _ _))) | (with_reducible exact hd_9_9_re (by with_reducible assumption) (sB) (sB)) | (with_reducible refine hd_9_9 ?_ (bel_one _ _)) | (with_reducible refine hd_9_9_set ?_ (sB) (sB) _))); done) | (refine ⟨⟨?_, ?_, ?_, ?_, ?_, ?_, ?_, ?_, ?_, ?_, ?_, ?_, ?_, ?_, ?_, ?_, ?_, ?_⟩, ?_, ?_⟩ <;> first | (go_keep; done) | (simp; done) | (simp; omega) | omega)))
    (first
    | (go_at_call 31; refine (eqPn_one _ _).mono ?_; rintro e w' ⟨rfl, hb⟩; obtain ⟨hc, hf, hs⟩ := bcell hb))
   go_wp2
   go_roundw
   case rel => exact ⟨k + 1, by omega, by go_num, (belB)⟩
   case measure => simp [intOf]; omega
  ·go_wp2
   go_ret
   exact ⟨rfl, hbw⟩
end Go.Proofs.YtflignpbboiahaaGreat
