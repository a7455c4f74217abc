/- Laid together: what the claim needs of the texts that were built one by one. -/
import Derived.Test.YtflignpbboiahaaGreatQ14
import Derived.Test.YtflignpbboiahaaGreatQ1
import Derived.Deep.Slices
import Derived.Lib.SmallJoins
import Derived.OwnWalk
import Derived.WalkSpells
import Derived.Deep.RegionHeld3
import Derived.Test.YtflignpbboiahaaGreatQ0
import Derived.Test.YtflignpbboiahaaGreatQ2
import Derived.Test.YtflignpbboiahaaGreatQ8
import Derived.Test.YtflignpbboiahaaGreatQ7
set_option linter.unusedVariables false
namespace Go.Proofs.YtflignpbboiahaaGreat
open Go.ChangeShapes Go.WideShapes Go.ChangeAt Go.RowKit
/-- A row of 7 numbers. -/
structure LpR where
 kd : Int
 tm : Int
 ke : Int
 va : Int
 nn : Int
 st : Int
 en : Int
/-- A row lies in its cells; rows lie one behind the other; a slice's value holds rows. -/
def LpRAt (W : World) (g o : Nat) (x : LpR) : Prop := W.cell? ⟨g, o, none⟩ = some (.int .i64 x.kd) ∧ W.cell? ⟨g, o + 1, none⟩ = some (.int .i64 x.tm) ∧ W.cell? ⟨g, o + 2, none⟩ = some (.int .i64 x.ke) ∧ W.cell? ⟨g, o + 3, none⟩ = some (.int .i64 x.va) ∧ W.cell? ⟨g, o + 4, none⟩ = some (.int .i64 x.nn) ∧ W.cell? ⟨g, o + 5, none⟩ = some (.int .i64 x.st) ∧ W.cell? ⟨g, o + 6, none⟩ = some (.int .i64 x.en)
def LpRsAt (W : World) (g o : Nat) (xs : List LpR) : Prop := ∀ i x, xs[i]? = some x → LpRAt W g (o + i * 7) x
def LpRs (W : World) (a : Option Addr) (len : Nat) (xs : List LpR) : Prop := xs.length = len ∧ len ≤ maxLen ∧ (len = 0 ∨ ∃ g o, a = some ⟨g, o, none⟩ ∧ LpRsAt W g o xs)
theorem LpRAt.lt {W : World} {g o : Nat} {x : LpR} (h : LpRAt W g o x) : g < W.heap.size := by
 obtain ⟨h0, _⟩ := h
 rcases Nat.lt_or_ge g W.heap.size with hl | hg
 ·exact hl
 ·simp [World.cell?, Array.getElem?_eq_none hg] at h0
theorem LpRsAt.lt {W : World} {g o : Nat} {xs : List LpR} (h : LpRsAt W g o xs) (hp : 0 < xs.length) : g < W.heap.size := (h 0 xs[0] (List.getElem?_eq_getElem hp)).lt
theorem LpRAt.below {W W' : World} {B g o : Nat} {x : LpR} (h : LpRAt W g o x) (hb : Below B W W') (hg : g < B) : LpRAt W' g o x := by
 obtain ⟨h0, h1, h2, h3, h4, h5, h6⟩ := h
 exact ⟨(hb.cell (p := ⟨g, _, none⟩) hg).trans h0, (hb.cell (p := ⟨g, _, none⟩) hg).trans h1, (hb.cell (p := ⟨g, _, none⟩) hg).trans h2, (hb.cell (p := ⟨g, _, none⟩) hg).trans h3, (hb.cell (p := ⟨g, _, none⟩) hg).trans h4, (hb.cell (p := ⟨g, _, none⟩) hg).trans h5, (hb.cell (p := ⟨g, _, none⟩) hg).trans h6⟩
theorem LpRsAt.below {W W' : World} {B g o : Nat} {xs : List LpR} (h : LpRsAt W g o xs) (hb : Below B W W') (hg : 0 < xs.length → g < B) : LpRsAt W' g o xs := by
 intro i x hx
 have hlt : i < xs.length := (List.getElem?_eq_some_iff.1 hx).1
 exact (h i x hx).below hb (hg (by omega))
theorem LpRs.below {W W' : World} {a : Option Addr} {len : Nat} {xs : List LpR} (h : LpRs W a len xs) (hb : Below W.heap.size W W') : LpRs W' a len xs := by
 obtain ⟨h1, h2, h3⟩ := h
 refine ⟨h1, h2, ?_⟩
 rcases h3 with h3 | ⟨g, o, ha, hr⟩
 ·exact Or.inl h3
 ·exact Or.inr ⟨g, o, ha, hr.below hb (fun hp => hr.lt hp)⟩
theorem LpRAt.grown {W W' : World} {row : Option Nat} {g o : Nat} {x : LpR} (h : LpRAt W g o x) (hg : W.grownBy W' row) (hne : some g ≠ row) : LpRAt W' g o x := by
 have hbk := hg.block g h.lt hne
 obtain ⟨h0, h1, h2, h3, h4, h5, h6⟩ := h
 exact ⟨(World.cell?_of_block (w := W) hbk).trans h0, (World.cell?_of_block (w := W) hbk).trans h1, (World.cell?_of_block (w := W) hbk).trans h2, (World.cell?_of_block (w := W) hbk).trans h3, (World.cell?_of_block (w := W) hbk).trans h4, (World.cell?_of_block (w := W) hbk).trans h5, (World.cell?_of_block (w := W) hbk).trans h6⟩
theorem LpRs.grown {W W' : World} {row : Option Nat} {a : Option Addr} {n : Nat} {xs : List LpR} (h : LpRs W a n xs) (hg : W.grownBy W' row) (hne : ∀ g o, 0 < n → a = some ⟨g, o, none⟩ → some g ≠ row) : LpRs W' a n xs := by
 obtain ⟨h1, h2, h3⟩ := h
 refine ⟨h1, h2, ?_⟩
 rcases h3 with h3 | ⟨g, o, ha, hr⟩
 ·exact Or.inl h3
 ·refine Or.inr ⟨g, o, ha, fun i x hx => (hr i x hx).grown hg (hne g o ?_ ha)⟩
  have hlt : i < xs.length := (List.getElem?_eq_some_iff.1 hx).1
  omega
theorem LpRs.lt {W : World} {g o n : Nat} {xs : List LpR} (h : LpRs W (some ⟨g, o, none⟩) n xs) (hp : 0 < n) : g < W.heap.size := by
 obtain ⟨h1, h2, h3⟩ := h
 obtain ⟨g', o', ha, hr⟩ := h3.resolve_left (by omega)
 simp at ha
 have := hr.lt (by omega)
 omega
/-- A row is stored; a block of rows, known whole. -/
def setLp (W : World) (g o : Nat) (x : LpR) : World := (((((((W.setCell ⟨g, o, none⟩ (.int .i64 x.kd)).setCell ⟨g, o + 1, none⟩ (.int .i64 x.tm)).setCell ⟨g, o + 2, none⟩ (.int .i64 x.ke)).setCell ⟨g, o + 3, none⟩ (.int .i64 x.va)).setCell ⟨g, o + 4, none⟩ (.int .i64 x.nn)).setCell ⟨g, o + 5, none⟩ (.int .i64 x.st)).setCell ⟨g, o + 6, none⟩ (.int .i64 x.en))
def BlkLp (W : World) (g ty len : Nat) : Prop := ∃ cur, W.heap[g]? = some (.cells cur ty (0, 0)) ∧ cur.size = len * 7
theorem BlkLp.set {W : World} {g ty len i : Nat} (h : BlkLp W g ty len) (v : Value) : BlkLp (W.setCell ⟨g, i, none⟩ v) g ty len := by
 obtain ⟨cur, h1, h2⟩ := h
 exact ⟨_, Joins.block_setCell h1 v, by simp [h2]⟩
theorem BlkLp.below {W W' : World} {g ty len B : Nat} (h : BlkLp W g ty len) (hb : Below B W W') (hg : g < B) : BlkLp W' g ty len := by
 obtain ⟨cur, h1, h2⟩ := h
 exact ⟨cur, (hb.block g hg).trans h1, h2⟩
theorem BlkLp.lt {W : World} {g ty len : Nat} (h : BlkLp W g ty len) : g < W.heap.size := by
 obtain ⟨cur, h1, h2⟩ := h
 exact (Array.getElem?_eq_some_iff.1 h1).1
theorem BlkLp.cell {W : World} {g ty len i : Nat} (h : BlkLp W g ty len) (hi : i < len * 7) : ∃ u, W.cell? ⟨g, i, none⟩ = some u := by
 obtain ⟨cur, h1, h2⟩ := h
 exact ⟨_, (Joins.cell_of_block h1 i).trans (Array.getElem?_eq_getElem (by omega))⟩
theorem BlkLp.frozen {W : World} {g ty len i : Nat} (h : BlkLp W g ty len) : W.frozen? ⟨g, i, none⟩ = false := by
 obtain ⟨cur, h1, h2⟩ := h
 exact Joins.unfrozen_of_block h1 i
theorem BlkLp.cells {W : World} {g ty len k : Nat} (h : BlkLp W g ty len) (hk : k < len) : (∃ u, W.cell? ⟨g, k * 7, none⟩ = some u) ∧ (∃ u, W.cell? ⟨g, k * 7 + 1, none⟩ = some u) ∧ (∃ u, W.cell? ⟨g, k * 7 + 2, none⟩ = some u) ∧ (∃ u, W.cell? ⟨g, k * 7 + 3, none⟩ = some u) ∧ (∃ u, W.cell? ⟨g, k * 7 + 4, none⟩ = some u) ∧ (∃ u, W.cell? ⟨g, k * 7 + 5, none⟩ = some u) ∧ (∃ u, W.cell? ⟨g, k * 7 + 6, none⟩ = some u) := ⟨h.cell (by omega), h.cell (by omega), h.cell (by omega), h.cell (by omega), h.cell (by omega), h.cell (by omega), h.cell (by omega)⟩
theorem BlkLp.sets {W : World} {g ty len o : Nat} (h : BlkLp W g ty len) (x : LpR) : BlkLp (setLp W g o x) g ty len := (((((((h.set _).set _).set _).set _).set _).set _).set _)
theorem Lp_other {W : World} {g i j : Nat} {v : Value} (h : i ≠ j) : (W.setCell ⟨g, i, none⟩ v).cell? ⟨g, j, none⟩ = W.cell? ⟨g, j, none⟩ := World.cell?_setCell_other _ _ _ _ (by intro e; injection e with e1 e2; exact h e2)
theorem Lp_this {W : World} {g ty len i : Nat} {v : Value} (h : BlkLp W g ty len) (hi : i < len * 7) : (W.setCell ⟨g, i, none⟩ v).cell? ⟨g, i, none⟩ = some v := by
 obtain ⟨u, hu⟩ := h.cell hi
 exact World.cell?_setCell_same _ _ _ hu
theorem setLp_this {W : World} {g ty len k : Nat} (h : BlkLp W g ty len) (hk : k < len) (x : LpR) : LpRAt (setLp W g (k * 7) x) g (k * 7) x := by
 unfold setLp
 refine ⟨?_, ?_, ?_, ?_, ?_, ?_, ?_⟩
 ·(repeat rw [Lp_other (by omega)]); rw [Lp_this h (by omega)]
 ·(repeat rw [Lp_other (by omega)]); rw [Lp_this (h.set _) (by omega)]
 ·(repeat rw [Lp_other (by omega)]); rw [Lp_this ((h.set _).set _) (by omega)]
 ·(repeat rw [Lp_other (by omega)]); rw [Lp_this (((h.set _).set _).set _) (by omega)]
 ·rw [Lp_other (by omega), Lp_other (by omega), Lp_this ((((h.set _).set _).set _).set _) (by omega)]
 ·rw [Lp_other (by omega), Lp_this (((((h.set _).set _).set _).set _).set _) (by omega)]
 ·rw [Lp_this ((((((h.set _).set _).set _).set _).set _).set _) (by omega)]
theorem setLp_ne {W : World} {g i k : Nat} {x y : LpR} (h : LpRAt W g (i * 7) y) (hk : i ≠ k) : LpRAt (setLp W g (k * 7) x) g (i * 7) y := by
 unfold setLp
 obtain ⟨h0, h1, h2, h3, h4, h5, h6⟩ := h
 refine ⟨?_, ?_, ?_, ?_, ?_, ?_, ?_⟩
 ·rw [Lp_other (by omega), Lp_other (by omega), Lp_other (by omega), Lp_other (by omega), Lp_other (by omega), Lp_other (by omega), Lp_other (by omega)]; exact h0
 ·rw [Lp_other (by omega), Lp_other (by omega), Lp_other (by omega), Lp_other (by omega), Lp_other (by omega), Lp_other (by omega), Lp_other (by omega)]; exact h1
 ·rw [Lp_other (by omega), Lp_other (by omega), Lp_other (by omega), Lp_other (by omega), Lp_other (by omega), Lp_other (by omega), Lp_other (by omega)]; exact h2
 ·rw [Lp_other (by omega), Lp_other (by omega), Lp_other (by omega), Lp_other (by omega), Lp_other (by omega), Lp_other (by omega), Lp_other (by omega)]; exact h3
 ·rw [Lp_other (by omega), Lp_other (by omega), Lp_other (by omega), Lp_other (by omega), Lp_other (by omega), Lp_other (by omega), Lp_other (by omega)]; exact h4
 ·rw [Lp_other (by omega), Lp_other (by omega), Lp_other (by omega), Lp_other (by omega), Lp_other (by omega), Lp_other (by omega), Lp_other (by omega)]; exact h5
 ·rw [Lp_other (by omega), Lp_other (by omega), Lp_other (by omega), Lp_other (by omega), Lp_other (by omega), Lp_other (by omega), Lp_other (by omega)]; exact h6
theorem grown_setLp {W W' : World} {g o : Nat} {x : LpR} (h : W.grownBy W' (some g)) : W.grownBy (setLp W' g o x) (some g) := by
 have hs : ∀ (X : World) (i : Nat) (v : Value), W.grownBy X (some g) → W.grownBy (X.setCell ⟨g, i, none⟩ v) (some g) := by
  intro X i v hX
  exact ⟨hX.os, hX.tape, hX.output, by simp [World.setCell]; exact hX.size, fun k hk hne => (Below.heap_setCell X _ v k (fun e => hne (by rw [e]))).trans (hX.block k hk hne)⟩
 exact hs _ _ _ (hs _ _ _ (hs _ _ _ (hs _ _ _ (hs _ _ _ (hs _ _ _ (hs _ _ _ (h)))))))
/-- The cells of rows; a slice of the call's own that holds rows. -/
def LpR.cells (x : LpR) : List Value := [.int .i64 x.kd, .int .i64 x.tm, .int .i64 x.ke, .int .i64 x.va, .int .i64 x.nn, .int .i64 x.st, .int .i64 x.en]
def flatLp (xs : List LpR) : List Value := xs.flatMap LpR.cells
theorem flatLp_snoc (xs : List LpR) (x : LpR) : flatLp (xs ++ [x]) = flatLp xs ++ x.cells := by simp [flatLp]
theorem flatLp_get {xs : List LpR} {i : Nat} {x : LpR} (h : xs[i]? = some x) : (flatLp xs)[i * 7]? = some (.int .i64 x.kd) ∧ (flatLp xs)[i * 7 + 1]? = some (.int .i64 x.tm) ∧ (flatLp xs)[i * 7 + 2]? = some (.int .i64 x.ke) ∧ (flatLp xs)[i * 7 + 3]? = some (.int .i64 x.va) ∧ (flatLp xs)[i * 7 + 4]? = some (.int .i64 x.nn) ∧ (flatLp xs)[i * 7 + 5]? = some (.int .i64 x.st) ∧ (flatLp xs)[i * 7 + 6]? = some (.int .i64 x.en) := by
 induction xs generalizing i with
 | nil => simp at h
 | cons y r ih =>
  have hf : flatLp (y :: r) = y.cells ++ flatLp r := rfl
  cases i with
  | zero =>
   simp at h
   subst h
   rw [hf]
   exact ⟨rfl, rfl, rfl, rfl, rfl, rfl, rfl⟩
  | succ i =>
   simp at h
   obtain ⟨h0, h1, h2, h3, h4, h5, h6⟩ := ih h
   have hl : y.cells.length = 7 := rfl
   rw [hf]
   refine ⟨?_, ?_, ?_, ?_, ?_, ?_, ?_⟩
   ·rw [List.getElem?_append_right (by omega), hl, show (i + 1) * 7 - 7 = i * 7 by omega]; exact h0
   ·rw [List.getElem?_append_right (by omega), hl, show (i + 1) * 7 + 1 - 7 = i * 7 + 1 by omega]; exact h1
   ·rw [List.getElem?_append_right (by omega), hl, show (i + 1) * 7 + 2 - 7 = i * 7 + 2 by omega]; exact h2
   ·rw [List.getElem?_append_right (by omega), hl, show (i + 1) * 7 + 3 - 7 = i * 7 + 3 by omega]; exact h3
   ·rw [List.getElem?_append_right (by omega), hl, show (i + 1) * 7 + 4 - 7 = i * 7 + 4 by omega]; exact h4
   ·rw [List.getElem?_append_right (by omega), hl, show (i + 1) * 7 + 5 - 7 = i * 7 + 5 by omega]; exact h5
   ·rw [List.getElem?_append_right (by omega), hl, show (i + 1) * 7 + 6 - 7 = i * 7 + 6 by omega]; exact h6
def OwnLp (W : World) (B : Nat) (v : Value) (ys : List LpR) : Prop := W.ownsRow B 71 7 v ys.length (flatLp ys)
theorem ownLp_snoc {w1 : World} {B : Nat} {v' : Value} {ys : List LpR} {x : LpR} (ho : w1.ownsRow B 71 7 v' (ys.length + 1) (flatLp ys ++ x.cells)) : OwnLp w1 B v' (ys ++ [x]) := by
 unfold OwnLp
 rw [flatLp_snoc]
 simpa using ho
theorem cells_newLp (w : World) (kd tm ke va nn st en : Int) (ty : Nat) : ∀ j u, ([.int .i64 kd, .int .i64 tm, .int .i64 ke, .int .i64 va, .int .i64 nn, .int .i64 st, .int .i64 en] : List Value)[j]? = some u → (w.alloc (.cells #[.int .i64 kd, .int .i64 tm, .int .i64 ke, .int .i64 va, .int .i64 nn, .int .i64 st, .int .i64 en] ty)).cell? ((⟨w.heap.size, 0, none⟩ : Addr).add j) = some u := by
 intro j u hj
 have e : ((⟨w.heap.size, 0, none⟩ : Addr).add j) = ⟨w.heap.size, j, none⟩ := by
  unfold Addr.add
  split
  ·rename_i h0; rw [h0]
  ·simp
 rw [e]
 simpa [go_sem] using hj
/-- The block of a slice's rows, if there are any; what may be written; what has been marked. -/
def rowLp (a : Option Addr) (n : Nat) : Option Nat := if n = 0 then none else a.map (·.block)
theorem rowLp_pos {n : Nat} (h : n ≠ 0) (g o : Nat) : rowLp (some ⟨g, o, none⟩) n = some g := by unfold rowLp; rw [if_neg h]; rfl
def markLp (i : Nat) : LpR := ⟨1 + 7 * (i : Int), 1 + 7 * (i : Int) + 1, 1 + 7 * (i : Int) + 1 + 1, 1 + 7 * (i : Int) + 1 + 1 + 1, 1 + 7 * (i : Int) + 1 + 1 + 1 + 1, 1 + 7 * (i : Int) + 1 + 1 + 1 + 1 + 1, 1 + 7 * (i : Int) + 1 + 1 + 1 + 1 + 1 + 1⟩
def WrLp (W : World) (a : Option Addr) (n cap : Nat) : Prop := n = 0 ∨ ∃ g, a = some ⟨g, 0, none⟩ ∧ BlkLp W g 71 cap ∧ n ≤ cap
def MarkedLp (W : World) (a : Option Addr) (n : Nat) : Prop := n = 0 ∨ ∃ g, a = some ⟨g, 0, none⟩ ∧ ∀ i, i < n → LpRAt W g (i * 7) (markLp i)
theorem grown0Lp {W W' : World} (h : Below W.heap.size W W') : W.grownBy W' none := ⟨h.os, h.tape, h.output, h.size, fun k hk _ => h.block k hk⟩
theorem MarkedLp.below {W W' : World} {a : Option Addr} {n : Nat} (h : MarkedLp W a n) (hb : Below W.heap.size W W') : MarkedLp W' a n := by
 rcases h with h | ⟨g, ha, hM⟩
 ·exact Or.inl h
 ·exact Or.inr ⟨g, ha, fun i hi => (hM i hi).below hb (hM i hi).lt⟩
theorem holdLp {W : World} {B : Nat} {v : Value} {ys : List LpR} (h : OwnLp W B v ys) (hl : ys.length ≤ 1048576) :
  ∃ a cap, v = .slice a ys.length cap ∧ LpRs W a ys.length ys ∧ WrLp W a ys.length cap ∧ ∀ g o, 0 < ys.length → a = some ⟨g, o, none⟩ → B ≤ g := by
 have hm : ys.length ≤ maxLen := by unfold maxLen; omega
 obtain ⟨hlen, h | ⟨g, cap, cur, rfl, hB, hblk, hnc, hcm, hsz, htk⟩⟩ := h
 ·obtain ⟨rfl, h0⟩ := h
  rw [h0]
  exact ⟨none, 0, rfl, ⟨h0, Nat.zero_le _, Or.inl rfl⟩, Or.inl rfl, fun _ _ hp => by omega⟩
 ·refine ⟨_, cap, rfl, ⟨rfl, hm, Or.inr ⟨g, 0, rfl, ?_⟩⟩, Or.inr ⟨g, rfl, ⟨cur, hblk, hsz⟩, hnc⟩, fun g' o' _ e => by simp at e; omega⟩
  intro i x hx
  have hi : i < ys.length := (List.getElem?_eq_some_iff.1 hx).1
  have hcell : ∀ j u, j < ys.length * 7 → (flatLp ys)[j]? = some u → W.cell? ⟨g, j, none⟩ = some u := by
   intro j u hj hu
   rw [Joins.cell_of_block hblk j, ← Array.getElem?_toList]
   rw [← htk, List.getElem?_take_of_lt hj] at hu
   exact hu
  obtain ⟨f0, f1, f2, f3, f4, f5, f6⟩ := flatLp_get hx
  rw [Nat.zero_add]
  exact ⟨hcell _ _ (by omega) f0, hcell _ _ (by omega) f1, hcell _ _ (by omega) f2, hcell _ _ (by omega) f3, hcell _ _ (by omega) f4, hcell _ _ (by omega) f5, hcell _ _ (by omega) f6⟩
theorem WrLp.below {W W' : World} {a : Option Addr} {n cap : Nat} (h : WrLp W a n cap) (hb : Below W.heap.size W W') : WrLp W' a n cap := by
 rcases h with h | ⟨g, ha, hB, hc⟩
 ·exact Or.inl h
 ·exact Or.inr ⟨g, ha, hB.below hb hB.lt, hc⟩
theorem WrLp.grown {W W' : World} {row : Option Nat} {a : Option Addr} {n cap : Nat} (h : WrLp W a n cap) (hg : W.grownBy W' row) (hne : ∀ g o, 0 < n → a = some ⟨g, o, none⟩ → some g ≠ row) : WrLp W' a n cap := by
 rcases h with h | ⟨g, ha, hB, hc⟩
 ·exact Or.inl h
 ·by_cases h0 : n = 0
  ·exact Or.inl h0
  ·obtain ⟨cur, c1, c2⟩ := hB
   exact Or.inr ⟨g, ha, ⟨cur, (hg.block g (Array.getElem?_eq_some_iff.1 c1).1 (hne g 0 (by omega) ha)).trans c1, c2⟩, hc⟩
set_option maxHeartbeats 1000000 in
theorem eqLp_one (x : LpR) (w : World) : Calls Tryz.prog 32 #[.agg #[.int .i64 x.kd, .int .i64 x.tm, .int .i64 x.ke, .int .i64 x.va, .int .i64 x.nn, .int .i64 x.st, .int .i64 x.en], .agg #[.int .i64 x.kd, .int .i64 x.tm, .int .i64 x.ke, .int .i64 x.va, .int .i64 x.nn, .int .i64 x.st, .int .i64 x.en]] w fun e w' => e = .returned (.bool true) ∧ Below w.heap.size w w' := by
 go_enter Tryz.func32, Tryz.ntmps32
 go_wp2_with (first
  | (go_at_call 59; refine (eqItmT _ _ _ _ _ _).mono ?_; rintro e w' ⟨rfl, hb⟩; obtain ⟨hc, hf, hs⟩ := bcell hb; (try have hz0 := zA hb w.heap.size); (try have hz1 := zA hb (w.heap.size + 1)))
  | (go_at_call 57; refine (eqWinT _ _ _).mono ?_; rintro e w' ⟨rfl, hb⟩; obtain ⟨hc, hf, hs⟩ := bcell hb; (try have hz0 := zA hb w.heap.size); (try have hz1 := zA hb (w.heap.size + 1))))
 go_ret
 exact ⟨rfl, (belB)⟩
set_option maxRecDepth 20000 in
set_option maxHeartbeats 1000000 in
theorem eqLp_any (a1 a2 : Option Addr) (len cap1 cap2 : Nat) (xs : List LpR) (w : World) (h1 : LpRs w a1 len xs) (h2 : LpRs w a2 len xs) : Calls Tryz.prog 12 #[.slice a1 len cap1, .slice a2 len cap2] w fun e w' => e = .returned (.bool true) ∧ Below w.heap.size w w' := by
 have hm := h1.2.1
 unfold maxLen at hm
 go_enter Tryz.func12, Tryz.ntmps12
 go_wp2
 go_loopw [5] (fun i wr => ∃ k : Nat, k ≤ len ∧ i = .int .i64 k ∧ Below w.heap.size w wr) (fun i _ => len - (intOf i).toNat)
 case atStart => exact ⟨0, Nat.zero_le _, rfl, Below.refl _ _⟩
 case round =>
  obtain ⟨k, hk, rfl, hbw⟩ := hrel
  by_cases hlt : k < len
  ·obtain ⟨hl1, _, hx1⟩ := h1
   obtain ⟨hl2, _, hx2⟩ := h2
   obtain ⟨g1, o1, rfl, hr1⟩ := hx1.resolve_left (by omega)
   obtain ⟨g2, o2, rfl, hr2⟩ := hx2.resolve_left (by omega)
   obtain ⟨x, hxk⟩ : ∃ x, xs[k]? = some x := ⟨_, List.getElem?_eq_getElem (by omega)⟩
   have hg1 : g1 < w.heap.size := hr1.lt (by omega)
   have hg2 : g2 < w.heap.size := hr2.lt (by omega)
   have hs1 : g1 < wr.heap.size := Nat.lt_of_lt_of_le hg1 hbw.size
   have hs2 : g2 < wr.heap.size := Nat.lt_of_lt_of_le hg2 hbw.size
   have hS : ((wr.cell? ⟨g1, o1 + k * 7, none⟩ = some (.int .i64 x.kd) ∧ wr.cell? ⟨g1, o1 + k * 7 + 1, none⟩ = some (.int .i64 x.tm) ∧ wr.cell? ⟨g1, o1 + k * 7 + 2, none⟩ = some (.int .i64 x.ke) ∧ wr.cell? ⟨g1, o1 + k * 7 + 3, none⟩ = some (.int .i64 x.va) ∧ wr.cell? ⟨g1, o1 + k * 7 + 4, none⟩ = some (.int .i64 x.nn) ∧ wr.cell? ⟨g1, o1 + k * 7 + 5, none⟩ = some (.int .i64 x.st) ∧ wr.cell? ⟨g1, o1 + k * 7 + 6, none⟩ = some (.int .i64 x.en) ∧ wr.cell? ⟨g2, o2 + k * 7, none⟩ = some (.int .i64 x.kd) ∧ wr.cell? ⟨g2, o2 + k * 7 + 1, none⟩ = some (.int .i64 x.tm) ∧ wr.cell? ⟨g2, o2 + k * 7 + 2, none⟩ = some (.int .i64 x.ke) ∧ wr.cell? ⟨g2, o2 + k * 7 + 3, none⟩ = some (.int .i64 x.va) ∧ wr.cell? ⟨g2, o2 + k * 7 + 4, none⟩ = some (.int .i64 x.nn) ∧ wr.cell? ⟨g2, o2 + k * 7 + 5, none⟩ = some (.int .i64 x.st) ∧ wr.cell? ⟨g2, o2 + k * 7 + 6, none⟩ = some (.int .i64 x.en)) ∧ g1 < wr.heap.size ∧ g2 < wr.heap.size) := by
    obtain ⟨c0, c1, c2, c3, c4, c5, c6⟩ := (hr1 k _ hxk).below hbw hg1
    obtain ⟨d0, d1, d2, d3, d4, d5, d6⟩ := (hr2 k _ hxk).below hbw hg2
    exact ⟨⟨c0, c1, c2, c3, c4, c5, c6, d0, d1, d2, d3, d4, d5, d6⟩, hs1, hs2⟩
   clear hx1 hx2 hxk hr1 hr2
   go_wp2
   go_region_held3 (fun W => ((W.cell? ⟨g1, o1 + k * 7, none⟩ = some (.int .i64 x.kd) ∧ W.cell? ⟨g1, o1 + k * 7 + 1, none⟩ = some (.int .i64 x.tm) ∧ W.cell? ⟨g1, o1 + k * 7 + 2, none⟩ = some (.int .i64 x.ke) ∧ W.cell? ⟨g1, o1 + k * 7 + 3, none⟩ = some (.int .i64 x.va) ∧ W.cell? ⟨g1, o1 + k * 7 + 4, none⟩ = some (.int .i64 x.nn) ∧ W.cell? ⟨g1, o1 + k * 7 + 5, none⟩ = some (.int .i64 x.st) ∧ W.cell? ⟨g1, o1 + k * 7 + 6, none⟩ = some (.int .i64 x.en) ∧ W.cell? ⟨g2, o2 + k * 7, none⟩ = some (.int .i64 x.kd) ∧ W.cell? ⟨g2, o2 + k * 7 + 1, none⟩ = some (.int .i64 x.tm) ∧ W.cell? ⟨g2, o2 + k * 7 + 2, none⟩ = some (.int .i64 x.ke) ∧ W.cell? ⟨g2, o2 + k * 7 + 3, none⟩ = some (.int .i64 x.va) ∧ W.cell? ⟨g2, o2 + k * 7 + 4, none⟩ = some (.int .i64 x.nn) ∧ W.cell? ⟨g2, o2 + k * 7 + 5, none⟩ = some (.int .i64 x.st) ∧ W.cell? ⟨g2, o2 + k * 7 + 6, none⟩ = some (.int .i64 x.en)) ∧ g1 < W.heap.size ∧ g2 < W.heap.size)) ((first | ((repeat (first | (with_reducible assumption) | (with_reducible refine hd_7_7 ?_ (by with_reducible assumption)) | (with_reducible refine hd_7_7 ?_ (bel_drew (Below.refl _ _))) | (with_reducible exact hd_7_7_re (by with_reducible assumption) (sB) (sB)) | (with_reducible refine hd_7_7 ?_ (bel_one _ _)) | (with_reducible refine hd_7_7_set ?_ (sB) (sB) _))); done) | (refine ⟨⟨?_, ?_, ?_, ?_, ?_, ?_, ?_, ?_, ?_, ?_, ?_, ?_, ?_, ?_⟩, ?_, ?_⟩ <;> first | (go_keep; done) | (simp; done) | (simp; omega) | omega)))
    (first
    | (go_at_call 32; refine (eqLp_one _ _).mono ?_; rintro e w' ⟨rfl, hb⟩; obtain ⟨hc, hf, hs⟩ := bcell hb))
   go_wp2
   go_roundw
   case rel => exact ⟨k + 1, by omega, by go_num, (belB)⟩
   case measure => simp [intOf]; omega
  ·go_wp2
   go_ret
   exact ⟨rfl, hbw⟩
end Go.Proofs.YtflignpbboiahaaGreat
namespace Go.Proofs.YtflignpbboiahaaGreat
open Go.ChangeShapes Go.WideShapes Go.ChangeAt Go.RowKit Go.Deep
/-- Each number is an int. -/
def LpR.ok64 (x : LpR) : Prop := (-9223372036854775808 ≤ x.kd ∧ x.kd ≤ 9223372036854775807) ∧ (-9223372036854775808 ≤ x.tm ∧ x.tm ≤ 9223372036854775807) ∧ (-9223372036854775808 ≤ x.ke ∧ x.ke ≤ 9223372036854775807) ∧ (-9223372036854775808 ≤ x.va ∧ x.va ≤ 9223372036854775807) ∧ (-9223372036854775808 ≤ x.nn ∧ x.nn ≤ 9223372036854775807) ∧ (-9223372036854775808 ≤ x.st ∧ x.st ≤ 9223372036854775807) ∧ (-9223372036854775808 ≤ x.en ∧ x.en ≤ 9223372036854775807)
theorem Tryz.infoLp : (Tryz.prog.info? 71).map (fun i => (i.zero, i.size, i.bytes)) = some (some (.agg #[.int .i64 0, .int .i64 0, .int .i64 0, .int .i64 0, .int .i64 0, .int .i64 0, .int .i64 0]), 7, 56) := by kernel_rfl
/-- The slice that is being filled. -/
def FillLp (W : World) (g ty len : Nat) (ys : List LpR) : Prop := BlkLp W g ty len ∧ ∀ i x, ys[i]? = some x → LpRAt W g (i * 7) x
theorem FillLp.step {wr w' : World} {g ty len k : Nat} {xs : List LpR} {x : LpR} (h : FillLp wr g ty len (xs.take k)) (hb : Below wr.heap.size wr w') (hk : k < len) (hx : xs[k]? = some x) : FillLp (setLp w' g (k * 7) x) g ty len (xs.take (k + 1)) := by
 have hB := h.1.below hb h.1.lt
 refine ⟨hB.sets x, fun i y hy => ?_⟩
 have hik : i < k + 1 := by
  rcases Nat.lt_or_ge i (k + 1) with h' | h'
  ·exact h'
  ·rw [List.getElem?_eq_none (by simp; omega)] at hy; cases hy
 rw [List.getElem?_take_of_lt hik] at hy
 by_cases he : i = k
 ·subst he
  rw [hx] at hy
  cases hy
  exact setLp_this hB hk x
 ·refine setLp_ne ?_ he
  exact (h.2 i y (by rw [List.getElem?_take_of_lt (by omega)]; exact hy)).below hb h.1.lt
theorem FillLp.start {w : World} {ty len : Nat} {C : Array Value} (hC : C.size = len * 7) (xs : List LpR) : FillLp (w.alloc (.cells C ty)) w.heap.size ty len (xs.take 0) :=
 ⟨⟨C, by show (w.heap.push _)[w.heap.size]? = _; simp, hC⟩, fun i x h => by simp at h⟩
theorem FillLp.done {W : World} {g ty len k : Nat} {xs : List LpR} (h : FillLp W g ty len (xs.take k)) (hk : xs.length ≤ k) : LpRsAt W g 0 xs := by
 intro i x hx
 rw [List.take_of_length_le hk] at h
 simpa using h.2 i x hx
end Go.Proofs.YtflignpbboiahaaGreat
namespace Go.Proofs.YtflignpbboiahaaGreat
open Go.ChangeShapes Go.WideShapes Go.ChangeAt Go.RowKit
/-- A row of 5 numbers. -/
structure IwR where
 kd : Int
 tm : Int
 ke : Int
 va : Int
 nn : Int
/-- A row lies in its cells; rows lie one behind the other; a slice's value holds rows. -/
def IwRAt (W : World) (g o : Nat) (x : IwR) : Prop := W.cell? ⟨g, o, none⟩ = some (.int .i64 x.kd) ∧ W.cell? ⟨g, o + 1, none⟩ = some (.int .i64 x.tm) ∧ W.cell? ⟨g, o + 2, none⟩ = some (.int .i64 x.ke) ∧ W.cell? ⟨g, o + 3, none⟩ = some (.int .i64 x.va) ∧ W.cell? ⟨g, o + 4, none⟩ = some (.int .i64 x.nn)
def IwRsAt (W : World) (g o : Nat) (xs : List IwR) : Prop := ∀ i x, xs[i]? = some x → IwRAt W g (o + i * 5) x
def IwRs (W : World) (a : Option Addr) (len : Nat) (xs : List IwR) : Prop := xs.length = len ∧ len ≤ maxLen ∧ (len = 0 ∨ ∃ g o, a = some ⟨g, o, none⟩ ∧ IwRsAt W g o xs)
theorem IwRAt.lt {W : World} {g o : Nat} {x : IwR} (h : IwRAt W g o x) : g < W.heap.size := by
 obtain ⟨h0, _⟩ := h
 rcases Nat.lt_or_ge g W.heap.size with hl | hg
 ·exact hl
 ·simp [World.cell?, Array.getElem?_eq_none hg] at h0
theorem IwRsAt.lt {W : World} {g o : Nat} {xs : List IwR} (h : IwRsAt W g o xs) (hp : 0 < xs.length) : g < W.heap.size := (h 0 xs[0] (List.getElem?_eq_getElem hp)).lt
theorem IwRAt.below {W W' : World} {B g o : Nat} {x : IwR} (h : IwRAt W g o x) (hb : Below B W W') (hg : g < B) : IwRAt W' g o x := by
 obtain ⟨h0, h1, h2, h3, h4⟩ := h
 exact ⟨(hb.cell (p := ⟨g, _, none⟩) hg).trans h0, (hb.cell (p := ⟨g, _, none⟩) hg).trans h1, (hb.cell (p := ⟨g, _, none⟩) hg).trans h2, (hb.cell (p := ⟨g, _, none⟩) hg).trans h3, (hb.cell (p := ⟨g, _, none⟩) hg).trans h4⟩
theorem IwRsAt.below {W W' : World} {B g o : Nat} {xs : List IwR} (h : IwRsAt W g o xs) (hb : Below B W W') (hg : 0 < xs.length → g < B) : IwRsAt W' g o xs := by
 intro i x hx
 have hlt : i < xs.length := (List.getElem?_eq_some_iff.1 hx).1
 exact (h i x hx).below hb (hg (by omega))
theorem IwRs.below {W W' : World} {a : Option Addr} {len : Nat} {xs : List IwR} (h : IwRs W a len xs) (hb : Below W.heap.size W W') : IwRs W' a len xs := by
 obtain ⟨h1, h2, h3⟩ := h
 refine ⟨h1, h2, ?_⟩
 rcases h3 with h3 | ⟨g, o, ha, hr⟩
 ·exact Or.inl h3
 ·exact Or.inr ⟨g, o, ha, hr.below hb (fun hp => hr.lt hp)⟩
theorem IwRAt.grown {W W' : World} {row : Option Nat} {g o : Nat} {x : IwR} (h : IwRAt W g o x) (hg : W.grownBy W' row) (hne : some g ≠ row) : IwRAt W' g o x := by
 have hbk := hg.block g h.lt hne
 obtain ⟨h0, h1, h2, h3, h4⟩ := h
 exact ⟨(World.cell?_of_block (w := W) hbk).trans h0, (World.cell?_of_block (w := W) hbk).trans h1, (World.cell?_of_block (w := W) hbk).trans h2, (World.cell?_of_block (w := W) hbk).trans h3, (World.cell?_of_block (w := W) hbk).trans h4⟩
theorem IwRs.grown {W W' : World} {row : Option Nat} {a : Option Addr} {n : Nat} {xs : List IwR} (h : IwRs W a n xs) (hg : W.grownBy W' row) (hne : ∀ g o, 0 < n → a = some ⟨g, o, none⟩ → some g ≠ row) : IwRs W' a n xs := by
 obtain ⟨h1, h2, h3⟩ := h
 refine ⟨h1, h2, ?_⟩
 rcases h3 with h3 | ⟨g, o, ha, hr⟩
 ·exact Or.inl h3
 ·refine Or.inr ⟨g, o, ha, fun i x hx => (hr i x hx).grown hg (hne g o ?_ ha)⟩
  have hlt : i < xs.length := (List.getElem?_eq_some_iff.1 hx).1
  omega
theorem IwRs.lt {W : World} {g o n : Nat} {xs : List IwR} (h : IwRs W (some ⟨g, o, none⟩) n xs) (hp : 0 < n) : g < W.heap.size := by
 obtain ⟨h1, h2, h3⟩ := h
 obtain ⟨g', o', ha, hr⟩ := h3.resolve_left (by omega)
 simp at ha
 have := hr.lt (by omega)
 omega
/-- A row is stored; a block of rows, known whole. -/
def setIw (W : World) (g o : Nat) (x : IwR) : World := (((((W.setCell ⟨g, o, none⟩ (.int .i64 x.kd)).setCell ⟨g, o + 1, none⟩ (.int .i64 x.tm)).setCell ⟨g, o + 2, none⟩ (.int .i64 x.ke)).setCell ⟨g, o + 3, none⟩ (.int .i64 x.va)).setCell ⟨g, o + 4, none⟩ (.int .i64 x.nn))
def BlkIw (W : World) (g ty len : Nat) : Prop := ∃ cur, W.heap[g]? = some (.cells cur ty (0, 0)) ∧ cur.size = len * 5
theorem BlkIw.set {W : World} {g ty len i : Nat} (h : BlkIw W g ty len) (v : Value) : BlkIw (W.setCell ⟨g, i, none⟩ v) g ty len := by
 obtain ⟨cur, h1, h2⟩ := h
 exact ⟨_, Joins.block_setCell h1 v, by simp [h2]⟩
theorem BlkIw.below {W W' : World} {g ty len B : Nat} (h : BlkIw W g ty len) (hb : Below B W W') (hg : g < B) : BlkIw W' g ty len := by
 obtain ⟨cur, h1, h2⟩ := h
 exact ⟨cur, (hb.block g hg).trans h1, h2⟩
theorem BlkIw.lt {W : World} {g ty len : Nat} (h : BlkIw W g ty len) : g < W.heap.size := by
 obtain ⟨cur, h1, h2⟩ := h
 exact (Array.getElem?_eq_some_iff.1 h1).1
theorem BlkIw.cell {W : World} {g ty len i : Nat} (h : BlkIw W g ty len) (hi : i < len * 5) : ∃ u, W.cell? ⟨g, i, none⟩ = some u := by
 obtain ⟨cur, h1, h2⟩ := h
 exact ⟨_, (Joins.cell_of_block h1 i).trans (Array.getElem?_eq_getElem (by omega))⟩
theorem BlkIw.frozen {W : World} {g ty len i : Nat} (h : BlkIw W g ty len) : W.frozen? ⟨g, i, none⟩ = false := by
 obtain ⟨cur, h1, h2⟩ := h
 exact Joins.unfrozen_of_block h1 i
theorem BlkIw.cells {W : World} {g ty len k : Nat} (h : BlkIw W g ty len) (hk : k < len) : (∃ u, W.cell? ⟨g, k * 5, none⟩ = some u) ∧ (∃ u, W.cell? ⟨g, k * 5 + 1, none⟩ = some u) ∧ (∃ u, W.cell? ⟨g, k * 5 + 2, none⟩ = some u) ∧ (∃ u, W.cell? ⟨g, k * 5 + 3, none⟩ = some u) ∧ (∃ u, W.cell? ⟨g, k * 5 + 4, none⟩ = some u) := ⟨h.cell (by omega), h.cell (by omega), h.cell (by omega), h.cell (by omega), h.cell (by omega)⟩
theorem BlkIw.sets {W : World} {g ty len o : Nat} (h : BlkIw W g ty len) (x : IwR) : BlkIw (setIw W g o x) g ty len := (((((h.set _).set _).set _).set _).set _)
/-- The cells of rows; a slice of the call's own that holds rows. -/
def IwR.cells (x : IwR) : List Value := [.int .i64 x.kd, .int .i64 x.tm, .int .i64 x.ke, .int .i64 x.va, .int .i64 x.nn]
def markIw (i : Nat) : IwR := ⟨1 + 5 * (i : Int), 1 + 5 * (i : Int) + 1, 1 + 5 * (i : Int) + 1 + 1, 1 + 5 * (i : Int) + 1 + 1 + 1, 1 + 5 * (i : Int) + 1 + 1 + 1 + 1⟩
def WrIw (W : World) (a : Option Addr) (n cap : Nat) : Prop := n = 0 ∨ ∃ g, a = some ⟨g, 0, none⟩ ∧ BlkIw W g 40 cap ∧ n ≤ cap
def MarkedIw (W : World) (a : Option Addr) (n : Nat) : Prop := n = 0 ∨ ∃ g, a = some ⟨g, 0, none⟩ ∧ ∀ i, i < n → IwRAt W g (i * 5) (markIw i)
theorem MarkedIw.below {W W' : World} {a : Option Addr} {n : Nat} (h : MarkedIw W a n) (hb : Below W.heap.size W W') : MarkedIw W' a n := by
 rcases h with h | ⟨g, ha, hM⟩
 ·exact Or.inl h
 ·exact Or.inr ⟨g, ha, fun i hi => (hM i hi).below hb (hM i hi).lt⟩
theorem WrIw.below {W W' : World} {a : Option Addr} {n cap : Nat} (h : WrIw W a n cap) (hb : Below W.heap.size W W') : WrIw W' a n cap := by
 rcases h with h | ⟨g, ha, hB, hc⟩
 ·exact Or.inl h
 ·exact Or.inr ⟨g, ha, hB.below hb hB.lt, hc⟩
theorem WrIw.grown {W W' : World} {row : Option Nat} {a : Option Addr} {n cap : Nat} (h : WrIw W a n cap) (hg : W.grownBy W' row) (hne : ∀ g o, 0 < n → a = some ⟨g, o, none⟩ → some g ≠ row) : WrIw W' a n cap := by
 rcases h with h | ⟨g, ha, hB, hc⟩
 ·exact Or.inl h
 ·by_cases h0 : n = 0
  ·exact Or.inl h0
  ·obtain ⟨cur, c1, c2⟩ := hB
   exact Or.inr ⟨g, ha, ⟨cur, (hg.block g (Array.getElem?_eq_some_iff.1 c1).1 (hne g 0 (by omega) ha)).trans c1, c2⟩, hc⟩
end Go.Proofs.YtflignpbboiahaaGreat
namespace Go.Proofs.YtflignpbboiahaaGreat
open Go.ChangeShapes Go.WideShapes Go.ChangeAt Go.RowKit Go.Deep
/-- Each number is an int. -/
def IwR.ok64 (x : IwR) : Prop := (-9223372036854775808 ≤ x.kd ∧ x.kd ≤ 9223372036854775807) ∧ (-9223372036854775808 ≤ x.tm ∧ x.tm ≤ 9223372036854775807) ∧ (-9223372036854775808 ≤ x.ke ∧ x.ke ≤ 9223372036854775807) ∧ (-9223372036854775808 ≤ x.va ∧ x.va ≤ 9223372036854775807) ∧ (-9223372036854775808 ≤ x.nn ∧ x.nn ≤ 9223372036854775807)
end Go.Proofs.YtflignpbboiahaaGreat
namespace Go.Proofs.YtflignpbboiahaaGreat
open Go.ChangeShapes Go.WideShapes Go.ChangeAt Go.RowKit
/-- Whether items are records that may be looked at; a record and a window; all pairs. -/
def IwR.isB (x : IwR) : Bool := isRecB x.kd x.tm x.ke x.va x.nn
theorem l4of_any (s t k z p l e : Int) (b : Bool) (v r : Int) (T : Int) (w : World) (hj : okJob s t k z p l e v r = true) (hT : 0 ≤ T ∧ T ≤ 60) : Calls Tryz.prog 40 #[.agg #[.int .i64 s, .int .i64 t, .int .i64 k, .int .i64 z, .int .i64 p, .int .i64 l, .int .i64 e, .bool b, .int .i64 v, .int .i64 r], .int .i64 T] w fun e' w' => ∃ v', e' = .returned v' ∧ OwnWn w' w.heap.size v' (winsOf k z p T) ∧ Below w.heap.size w w' := by
 obtain ⟨hk, hz, hp⟩ := okJob_parts hj
 rcases (show k = 1 ∨ k = 2 ∨ k = 3 by omega) with rfl | rfl | rfl
 ·exact l4_1 s t z p l e b v r T hT hz w
 ·rw [winsOf_2]
  exact specslide_any s t 2 z p l e b v r T hT hz (stepB_in hz hp) rfl w
 ·exact l4_3 s t z p l e b v r T hT hz w
end Go.Proofs.YtflignpbboiahaaGreat
