/- Proved here, for any program: a slice of structs of 7 ints as a list of rows in memory: kept, filled, owned, told to be the same, marked and found again. -/
import Derived.Test.YtbockbdlojkpiaaGreatHd77
import Derived.Test.YtbockbdlojkpiaaGreatEqWA
import Derived.Deep.Slices
import Derived.Lib.SmallJoins
import Derived.OwnWalk
import Derived.WalkSpells
import Derived.Deep.RegionHeld3
namespace Go.Proofs.YtbockbdlojkpiaaGreat
open Go.ChangeShapes Go.WideShapes Go.ChangeAt Go.RowKit
set_option linter.unusedVariables false

/-- A row of 7 numbers. -/
structure TbR where
  ky : Int
  st : Int
  en : Int
  n : Int
  su : Int
  le : Int
  mo : Int
/-- A row lies in its cells; rows lie one behind the other; a slice's value holds rows. -/
def TbRAt (W : World) (g o : Nat) (x : TbR) : Prop := W.cell? ⟨g, o, none⟩ = some (.int .i64 x.ky) ∧ W.cell? ⟨g, o + 1, none⟩ = some (.int .i64 x.st) ∧ W.cell? ⟨g, o + 2, none⟩ = some (.int .i64 x.en) ∧ W.cell? ⟨g, o + 3, none⟩ = some (.int .i64 x.n) ∧ W.cell? ⟨g, o + 4, none⟩ = some (.int .i64 x.su) ∧ W.cell? ⟨g, o + 5, none⟩ = some (.int .i64 x.le) ∧ W.cell? ⟨g, o + 6, none⟩ = some (.int .i64 x.mo)
def TbRsAt (W : World) (g o : Nat) (xs : List TbR) : Prop := ∀ i x, xs[i]? = some x → TbRAt W g (o + i * 7) x
def TbRs (W : World) (a : Option Addr) (len : Nat) (xs : List TbR) : Prop := xs.length = len ∧ len ≤ maxLen ∧ (len = 0 ∨ ∃ g o, a = some ⟨g, o, none⟩ ∧ TbRsAt W g o xs)
theorem TbRAt.lt {W : World} {g o : Nat} {x : TbR} (h : TbRAt W g o x) : g < W.heap.size := by
  obtain ⟨h0, _⟩ := h
  rcases Nat.lt_or_ge g W.heap.size with hl | hg
  · exact hl
  · simp [World.cell?, Array.getElem?_eq_none hg] at h0
theorem TbRsAt.lt {W : World} {g o : Nat} {xs : List TbR} (h : TbRsAt W g o xs) (hp : 0 < xs.length) : g < W.heap.size := (h 0 xs[0] (List.getElem?_eq_getElem hp)).lt
theorem TbRAt.below {W W' : World} {B g o : Nat} {x : TbR} (h : TbRAt W g o x) (hb : Below B W W') (hg : g < B) : TbRAt W' g o x := by
  obtain ⟨h0, h1, h2, h3, h4, h5, h6⟩ := h
  exact ⟨(hb.cell (p := ⟨g, _, none⟩) hg).trans h0, (hb.cell (p := ⟨g, _, none⟩) hg).trans h1, (hb.cell (p := ⟨g, _, none⟩) hg).trans h2, (hb.cell (p := ⟨g, _, none⟩) hg).trans h3, (hb.cell (p := ⟨g, _, none⟩) hg).trans h4, (hb.cell (p := ⟨g, _, none⟩) hg).trans h5, (hb.cell (p := ⟨g, _, none⟩) hg).trans h6⟩
theorem TbRsAt.below {W W' : World} {B g o : Nat} {xs : List TbR} (h : TbRsAt W g o xs) (hb : Below B W W') (hg : 0 < xs.length → g < B) : TbRsAt W' g o xs := by
  intro i x hx
  have hlt : i < xs.length := (List.getElem?_eq_some_iff.1 hx).1
  exact (h i x hx).below hb (hg (by omega))
theorem TbRs.below {W W' : World} {a : Option Addr} {len : Nat} {xs : List TbR} (h : TbRs W a len xs) (hb : Below W.heap.size W W') : TbRs W' a len xs := by
  obtain ⟨h1, h2, h3⟩ := h
  refine ⟨h1, h2, ?_⟩
  rcases h3 with h3 | ⟨g, o, ha, hr⟩
  · exact Or.inl h3
  · exact Or.inr ⟨g, o, ha, hr.below hb (fun hp => hr.lt hp)⟩
theorem TbRAt.grown {W W' : World} {row : Option Nat} {g o : Nat} {x : TbR} (h : TbRAt W g o x) (hg : W.grownBy W' row) (hne : some g ≠ row) : TbRAt W' g o x := by
  have hbk := hg.block g h.lt hne
  obtain ⟨h0, h1, h2, h3, h4, h5, h6⟩ := h
  exact ⟨(World.cell?_of_block (w := W) hbk).trans h0, (World.cell?_of_block (w := W) hbk).trans h1, (World.cell?_of_block (w := W) hbk).trans h2, (World.cell?_of_block (w := W) hbk).trans h3, (World.cell?_of_block (w := W) hbk).trans h4, (World.cell?_of_block (w := W) hbk).trans h5, (World.cell?_of_block (w := W) hbk).trans h6⟩
theorem TbRs.grown {W W' : World} {row : Option Nat} {a : Option Addr} {n : Nat} {xs : List TbR} (h : TbRs W a n xs) (hg : W.grownBy W' row) (hne : ∀ g o, 0 < n → a = some ⟨g, o, none⟩ → some g ≠ row) : TbRs W' a n xs := by
  obtain ⟨h1, h2, h3⟩ := h
  refine ⟨h1, h2, ?_⟩
  rcases h3 with h3 | ⟨g, o, ha, hr⟩
  · exact Or.inl h3
  · refine Or.inr ⟨g, o, ha, fun i x hx => (hr i x hx).grown hg (hne g o ?_ ha)⟩
    have hlt : i < xs.length := (List.getElem?_eq_some_iff.1 hx).1
    omega
theorem TbRs.lt {W : World} {g o n : Nat} {xs : List TbR} (h : TbRs W (some ⟨g, o, none⟩) n xs) (hp : 0 < n) : g < W.heap.size := by
  obtain ⟨h1, h2, h3⟩ := h
  obtain ⟨g', o', ha, hr⟩ := h3.resolve_left (by omega)
  simp at ha
  have := hr.lt (by omega)
  omega

/-- A row is stored; a block of rows, known whole. -/
def setTb (W : World) (g o : Nat) (x : TbR) : World := (((((((W.setCell ⟨g, o, none⟩ (.int .i64 x.ky)).setCell ⟨g, o + 1, none⟩ (.int .i64 x.st)).setCell ⟨g, o + 2, none⟩ (.int .i64 x.en)).setCell ⟨g, o + 3, none⟩ (.int .i64 x.n)).setCell ⟨g, o + 4, none⟩ (.int .i64 x.su)).setCell ⟨g, o + 5, none⟩ (.int .i64 x.le)).setCell ⟨g, o + 6, none⟩ (.int .i64 x.mo))
def BlkTb (W : World) (g ty len : Nat) : Prop := ∃ cur, W.heap[g]? = some (.cells cur ty (0, 0)) ∧ cur.size = len * 7
theorem BlkTb.set {W : World} {g ty len i : Nat} (h : BlkTb W g ty len) (v : Value) : BlkTb (W.setCell ⟨g, i, none⟩ v) g ty len := by
  obtain ⟨cur, h1, h2⟩ := h
  exact ⟨_, Joins.block_setCell h1 v, by simp [h2]⟩
theorem BlkTb.below {W W' : World} {g ty len B : Nat} (h : BlkTb W g ty len) (hb : Below B W W') (hg : g < B) : BlkTb W' g ty len := by
  obtain ⟨cur, h1, h2⟩ := h
  exact ⟨cur, (hb.block g hg).trans h1, h2⟩
theorem BlkTb.lt {W : World} {g ty len : Nat} (h : BlkTb W g ty len) : g < W.heap.size := by
  obtain ⟨cur, h1, h2⟩ := h
  exact (Array.getElem?_eq_some_iff.1 h1).1
theorem BlkTb.cell {W : World} {g ty len i : Nat} (h : BlkTb W g ty len) (hi : i < len * 7) : ∃ u, W.cell? ⟨g, i, none⟩ = some u := by
  obtain ⟨cur, h1, h2⟩ := h
  exact ⟨_, (Joins.cell_of_block h1 i).trans (Array.getElem?_eq_getElem (by omega))⟩
theorem BlkTb.frozen {W : World} {g ty len i : Nat} (h : BlkTb W g ty len) : W.frozen? ⟨g, i, none⟩ = false := by
  obtain ⟨cur, h1, h2⟩ := h
  exact Joins.unfrozen_of_block h1 i
theorem BlkTb.cells {W : World} {g ty len k : Nat} (h : BlkTb W g ty len) (hk : k < len) : (∃ u, W.cell? ⟨g, k * 7, none⟩ = some u) ∧ (∃ u, W.cell? ⟨g, k * 7 + 1, none⟩ = some u) ∧ (∃ u, W.cell? ⟨g, k * 7 + 2, none⟩ = some u) ∧ (∃ u, W.cell? ⟨g, k * 7 + 3, none⟩ = some u) ∧ (∃ u, W.cell? ⟨g, k * 7 + 4, none⟩ = some u) ∧ (∃ u, W.cell? ⟨g, k * 7 + 5, none⟩ = some u) ∧ (∃ u, W.cell? ⟨g, k * 7 + 6, none⟩ = some u) := ⟨h.cell (by omega), h.cell (by omega), h.cell (by omega), h.cell (by omega), h.cell (by omega), h.cell (by omega), h.cell (by omega)⟩
theorem BlkTb.sets {W : World} {g ty len o : Nat} (h : BlkTb W g ty len) (x : TbR) : BlkTb (setTb W g o x) g ty len := (((((((h.set _).set _).set _).set _).set _).set _).set _)
theorem Tb_other {W : World} {g i j : Nat} {v : Value} (h : i ≠ j) : (W.setCell ⟨g, i, none⟩ v).cell? ⟨g, j, none⟩ = W.cell? ⟨g, j, none⟩ := World.cell?_setCell_other _ _ _ _ (by intro e; injection e with e1 e2; exact h e2)
theorem Tb_this {W : World} {g ty len i : Nat} {v : Value} (h : BlkTb W g ty len) (hi : i < len * 7) : (W.setCell ⟨g, i, none⟩ v).cell? ⟨g, i, none⟩ = some v := by
  obtain ⟨u, hu⟩ := h.cell hi
  exact World.cell?_setCell_same _ _ _ hu
theorem setTb_this {W : World} {g ty len k : Nat} (h : BlkTb W g ty len) (hk : k < len) (x : TbR) : TbRAt (setTb W g (k * 7) x) g (k * 7) x := by
  unfold setTb
  refine ⟨?_, ?_, ?_, ?_, ?_, ?_, ?_⟩
  · rw [Tb_other (by omega), Tb_other (by omega), Tb_other (by omega), Tb_other (by omega), Tb_other (by omega), Tb_other (by omega), Tb_this h (by omega)]
  · rw [Tb_other (by omega), Tb_other (by omega), Tb_other (by omega), Tb_other (by omega), Tb_other (by omega), Tb_this (h.set _) (by omega)]
  · rw [Tb_other (by omega), Tb_other (by omega), Tb_other (by omega), Tb_other (by omega), Tb_this ((h.set _).set _) (by omega)]
  · rw [Tb_other (by omega), Tb_other (by omega), Tb_other (by omega), Tb_this (((h.set _).set _).set _) (by omega)]
  · rw [Tb_other (by omega), Tb_other (by omega), Tb_this ((((h.set _).set _).set _).set _) (by omega)]
  · rw [Tb_other (by omega), Tb_this (((((h.set _).set _).set _).set _).set _) (by omega)]
  · rw [Tb_this ((((((h.set _).set _).set _).set _).set _).set _) (by omega)]
theorem setTb_ne {W : World} {g i k : Nat} {x y : TbR} (h : TbRAt W g (i * 7) y) (hk : i ≠ k) : TbRAt (setTb W g (k * 7) x) g (i * 7) y := by
  unfold setTb
  obtain ⟨h0, h1, h2, h3, h4, h5, h6⟩ := h
  refine ⟨?_, ?_, ?_, ?_, ?_, ?_, ?_⟩
  · rw [Tb_other (by omega), Tb_other (by omega), Tb_other (by omega), Tb_other (by omega), Tb_other (by omega), Tb_other (by omega), Tb_other (by omega)]; exact h0
  · rw [Tb_other (by omega), Tb_other (by omega), Tb_other (by omega), Tb_other (by omega), Tb_other (by omega), Tb_other (by omega), Tb_other (by omega)]; exact h1
  · rw [Tb_other (by omega), Tb_other (by omega), Tb_other (by omega), Tb_other (by omega), Tb_other (by omega), Tb_other (by omega), Tb_other (by omega)]; exact h2
  · rw [Tb_other (by omega), Tb_other (by omega), Tb_other (by omega), Tb_other (by omega), Tb_other (by omega), Tb_other (by omega), Tb_other (by omega)]; exact h3
  · rw [Tb_other (by omega), Tb_other (by omega), Tb_other (by omega), Tb_other (by omega), Tb_other (by omega), Tb_other (by omega), Tb_other (by omega)]; exact h4
  · rw [Tb_other (by omega), Tb_other (by omega), Tb_other (by omega), Tb_other (by omega), Tb_other (by omega), Tb_other (by omega), Tb_other (by omega)]; exact h5
  · rw [Tb_other (by omega), Tb_other (by omega), Tb_other (by omega), Tb_other (by omega), Tb_other (by omega), Tb_other (by omega), Tb_other (by omega)]; exact h6
theorem grown_setTb {W W' : World} {g o : Nat} {x : TbR} (h : W.grownBy W' (some g)) : W.grownBy (setTb W' g o x) (some g) := by
  have hs : ∀ (X : World) (i : Nat) (v : Value), W.grownBy X (some g) → W.grownBy (X.setCell ⟨g, i, none⟩ v) (some g) := by
    intro X i v hX
    exact ⟨hX.os, hX.tape, hX.output, by simp [World.setCell]; exact hX.size, fun k hk hne => (Below.heap_setCell X _ v k (fun e => hne (by rw [e]))).trans (hX.block k hk hne)⟩
  exact hs _ _ _ (hs _ _ _ (hs _ _ _ (hs _ _ _ (hs _ _ _ (hs _ _ _ (hs _ _ _ (h)))))))

/-- The cells of rows; a slice of the call's own that holds rows. -/
def TbR.cells (x : TbR) : List Value := [.int .i64 x.ky, .int .i64 x.st, .int .i64 x.en, .int .i64 x.n, .int .i64 x.su, .int .i64 x.le, .int .i64 x.mo]
def flatTb (xs : List TbR) : List Value := xs.flatMap TbR.cells
theorem flatTb_snoc (xs : List TbR) (x : TbR) : flatTb (xs ++ [x]) = flatTb xs ++ x.cells := by simp [flatTb]
theorem flatTb_len (xs : List TbR) : (flatTb xs).length = xs.length * 7 := by
  induction xs with
  | nil => rfl
  | cons x r ih => show (x.cells ++ flatTb r).length = _; rw [List.length_append, ih]; simp [TbR.cells]; omega
theorem flatTb_get {xs : List TbR} {i : Nat} {x : TbR} (h : xs[i]? = some x) : (flatTb xs)[i * 7]? = some (.int .i64 x.ky) ∧ (flatTb xs)[i * 7 + 1]? = some (.int .i64 x.st) ∧ (flatTb xs)[i * 7 + 2]? = some (.int .i64 x.en) ∧ (flatTb xs)[i * 7 + 3]? = some (.int .i64 x.n) ∧ (flatTb xs)[i * 7 + 4]? = some (.int .i64 x.su) ∧ (flatTb xs)[i * 7 + 5]? = some (.int .i64 x.le) ∧ (flatTb xs)[i * 7 + 6]? = some (.int .i64 x.mo) := by
  induction xs generalizing i with
  | nil => simp at h
  | cons y r ih =>
    have hf : flatTb (y :: r) = y.cells ++ flatTb r := rfl
    cases i with
    | zero =>
      simp at h
      subst h
      rw [hf]
      exact ⟨rfl, rfl, rfl, rfl, rfl, rfl, rfl⟩
    | succ i =>
      simp at h
      obtain ⟨h0, h1, h2, h3, h4, h5, h6⟩ := ih h
      have hl : y.cells.length = 7 := rfl
      rw [hf]
      refine ⟨?_, ?_, ?_, ?_, ?_, ?_, ?_⟩
      · rw [List.getElem?_append_right (by omega), hl, show (i + 1) * 7 - 7 = i * 7 by omega]; exact h0
      · rw [List.getElem?_append_right (by omega), hl, show (i + 1) * 7 + 1 - 7 = i * 7 + 1 by omega]; exact h1
      · rw [List.getElem?_append_right (by omega), hl, show (i + 1) * 7 + 2 - 7 = i * 7 + 2 by omega]; exact h2
      · rw [List.getElem?_append_right (by omega), hl, show (i + 1) * 7 + 3 - 7 = i * 7 + 3 by omega]; exact h3
      · rw [List.getElem?_append_right (by omega), hl, show (i + 1) * 7 + 4 - 7 = i * 7 + 4 by omega]; exact h4
      · rw [List.getElem?_append_right (by omega), hl, show (i + 1) * 7 + 5 - 7 = i * 7 + 5 by omega]; exact h5
      · rw [List.getElem?_append_right (by omega), hl, show (i + 1) * 7 + 6 - 7 = i * 7 + 6 by omega]; exact h6
def OwnTb (W : World) (B : Nat) (v : Value) (ys : List TbR) : Prop := W.ownsRow B 39 7 v ys.length (flatTb ys)
theorem ownTb_ge {W : World} {B : Nat} {v : Value} {ys : List TbR} (h : OwnTb W B v ys) : ∀ k, v.ownBlock = some k → B ≤ k := by
  intro k hk
  rcases h.2 with ⟨rfl, _⟩ | ⟨g, cap, cur, rfl, hg, _⟩
  · cases hk
  · simp [Value.ownBlock] at hk; omega
theorem ownTb_snoc {w1 : World} {B : Nat} {v' : Value} {ys : List TbR} {x : TbR} (ho : w1.ownsRow B 39 7 v' (ys.length + 1) (flatTb ys ++ x.cells)) : OwnTb w1 B v' (ys ++ [x]) := by
  unfold OwnTb
  rw [flatTb_snoc]
  simpa using ho
theorem cells_newTb (w : World) (ky st en n su le mo : Int) (ty : Nat) : ∀ j u, ([.int .i64 ky, .int .i64 st, .int .i64 en, .int .i64 n, .int .i64 su, .int .i64 le, .int .i64 mo] : List Value)[j]? = some u → (w.alloc (.cells #[.int .i64 ky, .int .i64 st, .int .i64 en, .int .i64 n, .int .i64 su, .int .i64 le, .int .i64 mo] ty)).cell? ((⟨w.heap.size, 0, none⟩ : Addr).add j) = some u := by
  intro j u hj
  have e : ((⟨w.heap.size, 0, none⟩ : Addr).add j) = ⟨w.heap.size, j, none⟩ := by
    unfold Addr.add
    split
    · rename_i h0; rw [h0]
    · simp
  rw [e]
  simpa [go_sem] using hj
theorem cells_atTb (w : World) (ky st en n su le mo : Int) (ty : Nat) {g : Nat} (hg : g = w.heap.size) : ∀ j u, ([.int .i64 ky, .int .i64 st, .int .i64 en, .int .i64 n, .int .i64 su, .int .i64 le, .int .i64 mo] : List Value)[j]? = some u → (w.alloc (.cells #[.int .i64 ky, .int .i64 st, .int .i64 en, .int .i64 n, .int .i64 su, .int .i64 le, .int .i64 mo] ty)).cell? ((⟨g, 0, none⟩ : Addr).add j) = some u := by
  subst hg
  exact cells_newTb w ky st en n su le mo ty

/-- The block of a slice's rows, if there are any; what may be written; what has been marked. -/
def rowTb (a : Option Addr) (n : Nat) : Option Nat := if n = 0 then none else a.map (·.block)
theorem rowTb_zero (a : Option Addr) : rowTb a 0 = none := rfl
theorem rowTb_pos {n : Nat} (h : n ≠ 0) (g o : Nat) : rowTb (some ⟨g, o, none⟩) n = some g := by unfold rowTb; rw [if_neg h]; rfl
def markTb (i : Nat) : TbR := ⟨1 + 7 * (i : Int), 1 + 7 * (i : Int) + 1, 1 + 7 * (i : Int) + 1 + 1, 1 + 7 * (i : Int) + 1 + 1 + 1, 1 + 7 * (i : Int) + 1 + 1 + 1 + 1, 1 + 7 * (i : Int) + 1 + 1 + 1 + 1 + 1, 1 + 7 * (i : Int) + 1 + 1 + 1 + 1 + 1 + 1⟩
def WrTb (W : World) (a : Option Addr) (n cap : Nat) : Prop := n = 0 ∨ ∃ g, a = some ⟨g, 0, none⟩ ∧ BlkTb W g 39 cap ∧ n ≤ cap
def MarkedTb (W : World) (a : Option Addr) (n : Nat) : Prop := n = 0 ∨ ∃ g, a = some ⟨g, 0, none⟩ ∧ ∀ i, i < n → TbRAt W g (i * 7) (markTb i)
theorem grown0Tb {W W' : World} (h : Below W.heap.size W W') : W.grownBy W' none := ⟨h.os, h.tape, h.output, h.size, fun k hk _ => h.block k hk⟩
theorem growTb {w W W' : World} {row : Option Nat} (h : Below w.heap.size w W) (hg : W.grownBy W' row) (hr : ∀ k, row = some k → w.heap.size ≤ k) : Below w.heap.size w W' := h.grown hg h.size hr
theorem MarkedTb.below {W W' : World} {a : Option Addr} {n : Nat} (h : MarkedTb W a n) (hb : Below W.heap.size W W') : MarkedTb W' a n := by
  rcases h with h | ⟨g, ha, hM⟩
  · exact Or.inl h
  · exact Or.inr ⟨g, ha, fun i hi => (hM i hi).below hb (hM i hi).lt⟩
theorem holdTb {W : World} {B : Nat} {v : Value} {ys : List TbR} (h : OwnTb W B v ys) (hl : ys.length ≤ 1048576) :
    ∃ a cap, v = .slice a ys.length cap ∧ TbRs W a ys.length ys ∧ WrTb W a ys.length cap ∧ ∀ g o, 0 < ys.length → a = some ⟨g, o, none⟩ → B ≤ g := by
  have hm : ys.length ≤ maxLen := by unfold maxLen; omega
  obtain ⟨hlen, h | ⟨g, cap, cur, rfl, hB, hblk, hnc, hcm, hsz, htk⟩⟩ := h
  · obtain ⟨rfl, h0⟩ := h
    rw [h0]
    exact ⟨none, 0, rfl, ⟨h0, Nat.zero_le _, Or.inl rfl⟩, Or.inl rfl, fun _ _ hp => by omega⟩
  · refine ⟨_, cap, rfl, ⟨rfl, hm, Or.inr ⟨g, 0, rfl, ?_⟩⟩, Or.inr ⟨g, rfl, ⟨cur, hblk, hsz⟩, hnc⟩, fun g' o' _ e => by simp at e; omega⟩
    intro i x hx
    have hi : i < ys.length := (List.getElem?_eq_some_iff.1 hx).1
    have hcell : ∀ j u, j < ys.length * 7 → (flatTb ys)[j]? = some u → W.cell? ⟨g, j, none⟩ = some u := by
      intro j u hj hu
      rw [Joins.cell_of_block hblk j, ← Array.getElem?_toList]
      rw [← htk, List.getElem?_take_of_lt hj] at hu
      exact hu
    obtain ⟨f0, f1, f2, f3, f4, f5, f6⟩ := flatTb_get hx
    rw [Nat.zero_add]
    exact ⟨hcell _ _ (by omega) f0, hcell _ _ (by omega) f1, hcell _ _ (by omega) f2, hcell _ _ (by omega) f3, hcell _ _ (by omega) f4, hcell _ _ (by omega) f5, hcell _ _ (by omega) f6⟩
theorem WrTb.below {W W' : World} {a : Option Addr} {n cap : Nat} (h : WrTb W a n cap) (hb : Below W.heap.size W W') : WrTb W' a n cap := by
  rcases h with h | ⟨g, ha, hB, hc⟩
  · exact Or.inl h
  · exact Or.inr ⟨g, ha, hB.below hb hB.lt, hc⟩
theorem WrTb.grown {W W' : World} {row : Option Nat} {a : Option Addr} {n cap : Nat} (h : WrTb W a n cap) (hg : W.grownBy W' row) (hne : ∀ g o, 0 < n → a = some ⟨g, o, none⟩ → some g ≠ row) : WrTb W' a n cap := by
  rcases h with h | ⟨g, ha, hB, hc⟩
  · exact Or.inl h
  · by_cases h0 : n = 0
    · exact Or.inl h0
    · obtain ⟨cur, c1, c2⟩ := hB
      exact Or.inr ⟨g, ha, ⟨cur, (hg.block g (Array.getElem?_eq_some_iff.1 c1).1 (hne g 0 (by omega) ha)).trans c1, c2⟩, hc⟩
theorem WrTb.shape {W : World} {a : Option Addr} {n cap : Nat} (h : WrTb W a n cap) : n = 0 ∨ ∃ g', a = some ⟨g', 0, none⟩ := by
  rcases h with h | ⟨g, ha, _⟩
  · exact Or.inl h
  · exact Or.inr ⟨g, ha⟩
theorem rowTb_ne {a : Option Addr} {n g : Nat} (h : ∀ g' o', 0 < n → a = some ⟨g', o', none⟩ → g ≠ g') (hs : n = 0 ∨ ∃ g', a = some ⟨g', 0, none⟩) : some g ≠ rowTb a n := by
  rcases hs with rfl | ⟨g', rfl⟩
  · simp [rowTb_zero]
  · by_cases h0 : n = 0
    · subst h0; simp [rowTb_zero]
    · rw [rowTb_pos h0]
      have := h g' 0 (by omega) rfl
      simpa using this
theorem rowTb_ge {a : Option Addr} {n B : Nat} (h : ∀ g' o', 0 < n → a = some ⟨g', o', none⟩ → B ≤ g') (hs : n = 0 ∨ ∃ g', a = some ⟨g', 0, none⟩) : ∀ k, rowTb a n = some k → B ≤ k := by
  intro k hk
  rcases hs with rfl | ⟨g', rfl⟩
  · simp [rowTb_zero] at hk
  · by_cases h0 : n = 0
    · subst h0; simp [rowTb_zero] at hk
    · rw [rowTb_pos h0] at hk
      have := h g' 0 (by omega) rfl
      simp at hk
      omega
theorem markTb_step {w wr : World} {g ty cap j : Nat} (hB : BlkTb wr g ty cap) (hj : j < cap) (hM : ∀ i, i < j → TbRAt wr g (i * 7) (markTb i)) (hG : w.grownBy wr (some g)) :
    BlkTb (setTb wr g (j * 7) (markTb j)) g ty cap ∧ (∀ i, i < j + 1 → TbRAt (setTb wr g (j * 7) (markTb j)) g (i * 7) (markTb i)) ∧ w.grownBy (setTb wr g (j * 7) (markTb j)) (some g) := by
  refine ⟨hB.sets _, fun i hi => ?_, grown_setTb hG⟩
  by_cases he : i = j
  · subst he
    exact setTb_this hB hj (markTb i)
  · exact setTb_ne (hM i (by omega)) he
end Go.Proofs.YtbockbdlojkpiaaGreat
