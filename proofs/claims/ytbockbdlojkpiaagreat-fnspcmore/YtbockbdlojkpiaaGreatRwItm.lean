/- Proved here, for any program: a slice of structs of 5 ints as a list of rows in memory: kept, filled, owned, told to be the same, marked and found again. -/
import Derived.Test.YtbockbdlojkpiaaGreatHd55
import Derived.Test.YtbockbdlojkpiaaGreatEqWA
import Derived.Deep.Slices
import Derived.Lib.SmallJoins
import Derived.OwnWalk
import Derived.WalkSpells
import Derived.Deep.RegionHeld3
namespace Go.Proofs.YtbockbdlojkpiaaGreat
open Go.ChangeShapes Go.WideShapes Go.ChangeAt Go.RowKit
set_option linter.unusedVariables false

/-- A row of 5 numbers. -/
structure IwR where
  kd : Int
  tm : Int
  ke : Int
  va : Int
  nn : Int
/-- A row lies in its cells; rows lie one behind the other; a slice's value holds rows. -/
def IwRAt (W : World) (g o : Nat) (x : IwR) : Prop := W.cell? ⟨g, o, none⟩ = some (.int .i64 x.kd) ∧ W.cell? ⟨g, o + 1, none⟩ = some (.int .i64 x.tm) ∧ W.cell? ⟨g, o + 2, none⟩ = some (.int .i64 x.ke) ∧ W.cell? ⟨g, o + 3, none⟩ = some (.int .i64 x.va) ∧ W.cell? ⟨g, o + 4, none⟩ = some (.int .i64 x.nn)
def IwRsAt (W : World) (g o : Nat) (xs : List IwR) : Prop := ∀ i x, xs[i]? = some x → IwRAt W g (o + i * 5) x
def IwRs (W : World) (a : Option Addr) (len : Nat) (xs : List IwR) : Prop := xs.length = len ∧ len ≤ maxLen ∧ (len = 0 ∨ ∃ g o, a = some ⟨g, o, none⟩ ∧ IwRsAt W g o xs)
theorem IwRAt.lt {W : World} {g o : Nat} {x : IwR} (h : IwRAt W g o x) : g < W.heap.size := by
  obtain ⟨h0, _⟩ := h
  rcases Nat.lt_or_ge g W.heap.size with hl | hg
  · exact hl
  · simp [World.cell?, Array.getElem?_eq_none hg] at h0
theorem IwRsAt.lt {W : World} {g o : Nat} {xs : List IwR} (h : IwRsAt W g o xs) (hp : 0 < xs.length) : g < W.heap.size := (h 0 xs[0] (List.getElem?_eq_getElem hp)).lt
theorem IwRAt.below {W W' : World} {B g o : Nat} {x : IwR} (h : IwRAt W g o x) (hb : Below B W W') (hg : g < B) : IwRAt W' g o x := by
  obtain ⟨h0, h1, h2, h3, h4⟩ := h
  exact ⟨(hb.cell (p := ⟨g, _, none⟩) hg).trans h0, (hb.cell (p := ⟨g, _, none⟩) hg).trans h1, (hb.cell (p := ⟨g, _, none⟩) hg).trans h2, (hb.cell (p := ⟨g, _, none⟩) hg).trans h3, (hb.cell (p := ⟨g, _, none⟩) hg).trans h4⟩
theorem IwRsAt.below {W W' : World} {B g o : Nat} {xs : List IwR} (h : IwRsAt W g o xs) (hb : Below B W W') (hg : 0 < xs.length → g < B) : IwRsAt W' g o xs := by
  intro i x hx
  have hlt : i < xs.length := (List.getElem?_eq_some_iff.1 hx).1
  exact (h i x hx).below hb (hg (by omega))
theorem IwRs.below {W W' : World} {a : Option Addr} {len : Nat} {xs : List IwR} (h : IwRs W a len xs) (hb : Below W.heap.size W W') : IwRs W' a len xs := by
  obtain ⟨h1, h2, h3⟩ := h
  refine ⟨h1, h2, ?_⟩
  rcases h3 with h3 | ⟨g, o, ha, hr⟩
  · exact Or.inl h3
  · exact Or.inr ⟨g, o, ha, hr.below hb (fun hp => hr.lt hp)⟩
theorem IwRAt.grown {W W' : World} {row : Option Nat} {g o : Nat} {x : IwR} (h : IwRAt W g o x) (hg : W.grownBy W' row) (hne : some g ≠ row) : IwRAt W' g o x := by
  have hbk := hg.block g h.lt hne
  obtain ⟨h0, h1, h2, h3, h4⟩ := h
  exact ⟨(World.cell?_of_block (w := W) hbk).trans h0, (World.cell?_of_block (w := W) hbk).trans h1, (World.cell?_of_block (w := W) hbk).trans h2, (World.cell?_of_block (w := W) hbk).trans h3, (World.cell?_of_block (w := W) hbk).trans h4⟩
theorem IwRs.grown {W W' : World} {row : Option Nat} {a : Option Addr} {n : Nat} {xs : List IwR} (h : IwRs W a n xs) (hg : W.grownBy W' row) (hne : ∀ g o, 0 < n → a = some ⟨g, o, none⟩ → some g ≠ row) : IwRs W' a n xs := by
  obtain ⟨h1, h2, h3⟩ := h
  refine ⟨h1, h2, ?_⟩
  rcases h3 with h3 | ⟨g, o, ha, hr⟩
  · exact Or.inl h3
  · refine Or.inr ⟨g, o, ha, fun i x hx => (hr i x hx).grown hg (hne g o ?_ ha)⟩
    have hlt : i < xs.length := (List.getElem?_eq_some_iff.1 hx).1
    omega
theorem IwRs.lt {W : World} {g o n : Nat} {xs : List IwR} (h : IwRs W (some ⟨g, o, none⟩) n xs) (hp : 0 < n) : g < W.heap.size := by
  obtain ⟨h1, h2, h3⟩ := h
  obtain ⟨g', o', ha, hr⟩ := h3.resolve_left (by omega)
  simp at ha
  have := hr.lt (by omega)
  omega

/-- A row is stored; a block of rows, known whole. -/
def setIw (W : World) (g o : Nat) (x : IwR) : World := (((((W.setCell ⟨g, o, none⟩ (.int .i64 x.kd)).setCell ⟨g, o + 1, none⟩ (.int .i64 x.tm)).setCell ⟨g, o + 2, none⟩ (.int .i64 x.ke)).setCell ⟨g, o + 3, none⟩ (.int .i64 x.va)).setCell ⟨g, o + 4, none⟩ (.int .i64 x.nn))
def BlkIw (W : World) (g ty len : Nat) : Prop := ∃ cur, W.heap[g]? = some (.cells cur ty (0, 0)) ∧ cur.size = len * 5
theorem BlkIw.set {W : World} {g ty len i : Nat} (h : BlkIw W g ty len) (v : Value) : BlkIw (W.setCell ⟨g, i, none⟩ v) g ty len := by
  obtain ⟨cur, h1, h2⟩ := h
  exact ⟨_, Joins.block_setCell h1 v, by simp [h2]⟩
theorem BlkIw.below {W W' : World} {g ty len B : Nat} (h : BlkIw W g ty len) (hb : Below B W W') (hg : g < B) : BlkIw W' g ty len := by
  obtain ⟨cur, h1, h2⟩ := h
  exact ⟨cur, (hb.block g hg).trans h1, h2⟩
theorem BlkIw.lt {W : World} {g ty len : Nat} (h : BlkIw W g ty len) : g < W.heap.size := by
  obtain ⟨cur, h1, h2⟩ := h
  exact (Array.getElem?_eq_some_iff.1 h1).1
theorem BlkIw.cell {W : World} {g ty len i : Nat} (h : BlkIw W g ty len) (hi : i < len * 5) : ∃ u, W.cell? ⟨g, i, none⟩ = some u := by
  obtain ⟨cur, h1, h2⟩ := h
  exact ⟨_, (Joins.cell_of_block h1 i).trans (Array.getElem?_eq_getElem (by omega))⟩
theorem BlkIw.frozen {W : World} {g ty len i : Nat} (h : BlkIw W g ty len) : W.frozen? ⟨g, i, none⟩ = false := by
  obtain ⟨cur, h1, h2⟩ := h
  exact Joins.unfrozen_of_block h1 i
theorem BlkIw.cells {W : World} {g ty len k : Nat} (h : BlkIw W g ty len) (hk : k < len) : (∃ u, W.cell? ⟨g, k * 5, none⟩ = some u) ∧ (∃ u, W.cell? ⟨g, k * 5 + 1, none⟩ = some u) ∧ (∃ u, W.cell? ⟨g, k * 5 + 2, none⟩ = some u) ∧ (∃ u, W.cell? ⟨g, k * 5 + 3, none⟩ = some u) ∧ (∃ u, W.cell? ⟨g, k * 5 + 4, none⟩ = some u) := ⟨h.cell (by omega), h.cell (by omega), h.cell (by omega), h.cell (by omega), h.cell (by omega)⟩
theorem BlkIw.sets {W : World} {g ty len o : Nat} (h : BlkIw W g ty len) (x : IwR) : BlkIw (setIw W g o x) g ty len := (((((h.set _).set _).set _).set _).set _)
theorem Iw_other {W : World} {g i j : Nat} {v : Value} (h : i ≠ j) : (W.setCell ⟨g, i, none⟩ v).cell? ⟨g, j, none⟩ = W.cell? ⟨g, j, none⟩ := World.cell?_setCell_other _ _ _ _ (by intro e; injection e with e1 e2; exact h e2)
theorem Iw_this {W : World} {g ty len i : Nat} {v : Value} (h : BlkIw W g ty len) (hi : i < len * 5) : (W.setCell ⟨g, i, none⟩ v).cell? ⟨g, i, none⟩ = some v := by
  obtain ⟨u, hu⟩ := h.cell hi
  exact World.cell?_setCell_same _ _ _ hu
theorem setIw_this {W : World} {g ty len k : Nat} (h : BlkIw W g ty len) (hk : k < len) (x : IwR) : IwRAt (setIw W g (k * 5) x) g (k * 5) x := by
  unfold setIw
  refine ⟨?_, ?_, ?_, ?_, ?_⟩
  · rw [Iw_other (by omega), Iw_other (by omega), Iw_other (by omega), Iw_other (by omega), Iw_this h (by omega)]
  · rw [Iw_other (by omega), Iw_other (by omega), Iw_other (by omega), Iw_this (h.set _) (by omega)]
  · rw [Iw_other (by omega), Iw_other (by omega), Iw_this ((h.set _).set _) (by omega)]
  · rw [Iw_other (by omega), Iw_this (((h.set _).set _).set _) (by omega)]
  · rw [Iw_this ((((h.set _).set _).set _).set _) (by omega)]
theorem setIw_ne {W : World} {g i k : Nat} {x y : IwR} (h : IwRAt W g (i * 5) y) (hk : i ≠ k) : IwRAt (setIw W g (k * 5) x) g (i * 5) y := by
  unfold setIw
  obtain ⟨h0, h1, h2, h3, h4⟩ := h
  refine ⟨?_, ?_, ?_, ?_, ?_⟩
  · rw [Iw_other (by omega), Iw_other (by omega), Iw_other (by omega), Iw_other (by omega), Iw_other (by omega)]; exact h0
  · rw [Iw_other (by omega), Iw_other (by omega), Iw_other (by omega), Iw_other (by omega), Iw_other (by omega)]; exact h1
  · rw [Iw_other (by omega), Iw_other (by omega), Iw_other (by omega), Iw_other (by omega), Iw_other (by omega)]; exact h2
  · rw [Iw_other (by omega), Iw_other (by omega), Iw_other (by omega), Iw_other (by omega), Iw_other (by omega)]; exact h3
  · rw [Iw_other (by omega), Iw_other (by omega), Iw_other (by omega), Iw_other (by omega), Iw_other (by omega)]; exact h4
theorem grown_setIw {W W' : World} {g o : Nat} {x : IwR} (h : W.grownBy W' (some g)) : W.grownBy (setIw W' g o x) (some g) := by
  have hs : ∀ (X : World) (i : Nat) (v : Value), W.grownBy X (some g) → W.grownBy (X.setCell ⟨g, i, none⟩ v) (some g) := by
    intro X i v hX
    exact ⟨hX.os, hX.tape, hX.output, by simp [World.setCell]; exact hX.size, fun k hk hne => (Below.heap_setCell X _ v k (fun e => hne (by rw [e]))).trans (hX.block k hk hne)⟩
  exact hs _ _ _ (hs _ _ _ (hs _ _ _ (hs _ _ _ (hs _ _ _ (h)))))

/-- The cells of rows; a slice of the call's own that holds rows. -/
def IwR.cells (x : IwR) : List Value := [.int .i64 x.kd, .int .i64 x.tm, .int .i64 x.ke, .int .i64 x.va, .int .i64 x.nn]
def flatIw (xs : List IwR) : List Value := xs.flatMap IwR.cells
theorem flatIw_snoc (xs : List IwR) (x : IwR) : flatIw (xs ++ [x]) = flatIw xs ++ x.cells := by simp [flatIw]
theorem flatIw_len (xs : List IwR) : (flatIw xs).length = xs.length * 5 := by
  induction xs with
  | nil => rfl
  | cons x r ih => show (x.cells ++ flatIw r).length = _; rw [List.length_append, ih]; simp [IwR.cells]; omega
theorem flatIw_get {xs : List IwR} {i : Nat} {x : IwR} (h : xs[i]? = some x) : (flatIw xs)[i * 5]? = some (.int .i64 x.kd) ∧ (flatIw xs)[i * 5 + 1]? = some (.int .i64 x.tm) ∧ (flatIw xs)[i * 5 + 2]? = some (.int .i64 x.ke) ∧ (flatIw xs)[i * 5 + 3]? = some (.int .i64 x.va) ∧ (flatIw xs)[i * 5 + 4]? = some (.int .i64 x.nn) := by
  induction xs generalizing i with
  | nil => simp at h
  | cons y r ih =>
    have hf : flatIw (y :: r) = y.cells ++ flatIw r := rfl
    cases i with
    | zero =>
      simp at h
      subst h
      rw [hf]
      exact ⟨rfl, rfl, rfl, rfl, rfl⟩
    | succ i =>
      simp at h
      obtain ⟨h0, h1, h2, h3, h4⟩ := ih h
      have hl : y.cells.length = 5 := rfl
      rw [hf]
      refine ⟨?_, ?_, ?_, ?_, ?_⟩
      · rw [List.getElem?_append_right (by omega), hl, show (i + 1) * 5 - 5 = i * 5 by omega]; exact h0
      · rw [List.getElem?_append_right (by omega), hl, show (i + 1) * 5 + 1 - 5 = i * 5 + 1 by omega]; exact h1
      · rw [List.getElem?_append_right (by omega), hl, show (i + 1) * 5 + 2 - 5 = i * 5 + 2 by omega]; exact h2
      · rw [List.getElem?_append_right (by omega), hl, show (i + 1) * 5 + 3 - 5 = i * 5 + 3 by omega]; exact h3
      · rw [List.getElem?_append_right (by omega), hl, show (i + 1) * 5 + 4 - 5 = i * 5 + 4 by omega]; exact h4
def OwnIw (W : World) (B : Nat) (v : Value) (ys : List IwR) : Prop := W.ownsRow B 41 5 v ys.length (flatIw ys)
theorem ownIw_ge {W : World} {B : Nat} {v : Value} {ys : List IwR} (h : OwnIw W B v ys) : ∀ k, v.ownBlock = some k → B ≤ k := by
  intro k hk
  rcases h.2 with ⟨rfl, _⟩ | ⟨g, cap, cur, rfl, hg, _⟩
  · cases hk
  · simp [Value.ownBlock] at hk; omega
theorem ownIw_snoc {w1 : World} {B : Nat} {v' : Value} {ys : List IwR} {x : IwR} (ho : w1.ownsRow B 41 5 v' (ys.length + 1) (flatIw ys ++ x.cells)) : OwnIw w1 B v' (ys ++ [x]) := by
  unfold OwnIw
  rw [flatIw_snoc]
  simpa using ho
theorem cells_newIw (w : World) (kd tm ke va nn : Int) (ty : Nat) : ∀ j u, ([.int .i64 kd, .int .i64 tm, .int .i64 ke, .int .i64 va, .int .i64 nn] : List Value)[j]? = some u → (w.alloc (.cells #[.int .i64 kd, .int .i64 tm, .int .i64 ke, .int .i64 va, .int .i64 nn] ty)).cell? ((⟨w.heap.size, 0, none⟩ : Addr).add j) = some u := by
  intro j u hj
  have e : ((⟨w.heap.size, 0, none⟩ : Addr).add j) = ⟨w.heap.size, j, none⟩ := by
    unfold Addr.add
    split
    · rename_i h0; rw [h0]
    · simp
  rw [e]
  simpa [go_sem] using hj
theorem cells_atIw (w : World) (kd tm ke va nn : Int) (ty : Nat) {g : Nat} (hg : g = w.heap.size) : ∀ j u, ([.int .i64 kd, .int .i64 tm, .int .i64 ke, .int .i64 va, .int .i64 nn] : List Value)[j]? = some u → (w.alloc (.cells #[.int .i64 kd, .int .i64 tm, .int .i64 ke, .int .i64 va, .int .i64 nn] ty)).cell? ((⟨g, 0, none⟩ : Addr).add j) = some u := by
  subst hg
  exact cells_newIw w kd tm ke va nn ty

/-- The block of a slice's rows, if there are any; what may be written; what has been marked. -/
def rowIw (a : Option Addr) (n : Nat) : Option Nat := if n = 0 then none else a.map (·.block)
theorem rowIw_zero (a : Option Addr) : rowIw a 0 = none := rfl
theorem rowIw_pos {n : Nat} (h : n ≠ 0) (g o : Nat) : rowIw (some ⟨g, o, none⟩) n = some g := by unfold rowIw; rw [if_neg h]; rfl
def markIw (i : Nat) : IwR := ⟨1 + 5 * (i : Int), 1 + 5 * (i : Int) + 1, 1 + 5 * (i : Int) + 1 + 1, 1 + 5 * (i : Int) + 1 + 1 + 1, 1 + 5 * (i : Int) + 1 + 1 + 1 + 1⟩
def WrIw (W : World) (a : Option Addr) (n cap : Nat) : Prop := n = 0 ∨ ∃ g, a = some ⟨g, 0, none⟩ ∧ BlkIw W g 41 cap ∧ n ≤ cap
def MarkedIw (W : World) (a : Option Addr) (n : Nat) : Prop := n = 0 ∨ ∃ g, a = some ⟨g, 0, none⟩ ∧ ∀ i, i < n → IwRAt W g (i * 5) (markIw i)
theorem grown0Iw {W W' : World} (h : Below W.heap.size W W') : W.grownBy W' none := ⟨h.os, h.tape, h.output, h.size, fun k hk _ => h.block k hk⟩
theorem growIw {w W W' : World} {row : Option Nat} (h : Below w.heap.size w W) (hg : W.grownBy W' row) (hr : ∀ k, row = some k → w.heap.size ≤ k) : Below w.heap.size w W' := h.grown hg h.size hr
theorem MarkedIw.below {W W' : World} {a : Option Addr} {n : Nat} (h : MarkedIw W a n) (hb : Below W.heap.size W W') : MarkedIw W' a n := by
  rcases h with h | ⟨g, ha, hM⟩
  · exact Or.inl h
  · exact Or.inr ⟨g, ha, fun i hi => (hM i hi).below hb (hM i hi).lt⟩
theorem holdIw {W : World} {B : Nat} {v : Value} {ys : List IwR} (h : OwnIw W B v ys) (hl : ys.length ≤ 1048576) :
    ∃ a cap, v = .slice a ys.length cap ∧ IwRs W a ys.length ys ∧ WrIw W a ys.length cap ∧ ∀ g o, 0 < ys.length → a = some ⟨g, o, none⟩ → B ≤ g := by
  have hm : ys.length ≤ maxLen := by unfold maxLen; omega
  obtain ⟨hlen, h | ⟨g, cap, cur, rfl, hB, hblk, hnc, hcm, hsz, htk⟩⟩ := h
  · obtain ⟨rfl, h0⟩ := h
    rw [h0]
    exact ⟨none, 0, rfl, ⟨h0, Nat.zero_le _, Or.inl rfl⟩, Or.inl rfl, fun _ _ hp => by omega⟩
  · refine ⟨_, cap, rfl, ⟨rfl, hm, Or.inr ⟨g, 0, rfl, ?_⟩⟩, Or.inr ⟨g, rfl, ⟨cur, hblk, hsz⟩, hnc⟩, fun g' o' _ e => by simp at e; omega⟩
    intro i x hx
    have hi : i < ys.length := (List.getElem?_eq_some_iff.1 hx).1
    have hcell : ∀ j u, j < ys.length * 5 → (flatIw ys)[j]? = some u → W.cell? ⟨g, j, none⟩ = some u := by
      intro j u hj hu
      rw [Joins.cell_of_block hblk j, ← Array.getElem?_toList]
      rw [← htk, List.getElem?_take_of_lt hj] at hu
      exact hu
    obtain ⟨f0, f1, f2, f3, f4⟩ := flatIw_get hx
    rw [Nat.zero_add]
    exact ⟨hcell _ _ (by omega) f0, hcell _ _ (by omega) f1, hcell _ _ (by omega) f2, hcell _ _ (by omega) f3, hcell _ _ (by omega) f4⟩
theorem WrIw.below {W W' : World} {a : Option Addr} {n cap : Nat} (h : WrIw W a n cap) (hb : Below W.heap.size W W') : WrIw W' a n cap := by
  rcases h with h | ⟨g, ha, hB, hc⟩
  · exact Or.inl h
  · exact Or.inr ⟨g, ha, hB.below hb hB.lt, hc⟩
theorem WrIw.grown {W W' : World} {row : Option Nat} {a : Option Addr} {n cap : Nat} (h : WrIw W a n cap) (hg : W.grownBy W' row) (hne : ∀ g o, 0 < n → a = some ⟨g, o, none⟩ → some g ≠ row) : WrIw W' a n cap := by
  rcases h with h | ⟨g, ha, hB, hc⟩
  · exact Or.inl h
  · by_cases h0 : n = 0
    · exact Or.inl h0
    · obtain ⟨cur, c1, c2⟩ := hB
      exact Or.inr ⟨g, ha, ⟨cur, (hg.block g (Array.getElem?_eq_some_iff.1 c1).1 (hne g 0 (by omega) ha)).trans c1, c2⟩, hc⟩
theorem WrIw.shape {W : World} {a : Option Addr} {n cap : Nat} (h : WrIw W a n cap) : n = 0 ∨ ∃ g', a = some ⟨g', 0, none⟩ := by
  rcases h with h | ⟨g, ha, _⟩
  · exact Or.inl h
  · exact Or.inr ⟨g, ha⟩
theorem rowIw_ne {a : Option Addr} {n g : Nat} (h : ∀ g' o', 0 < n → a = some ⟨g', o', none⟩ → g ≠ g') (hs : n = 0 ∨ ∃ g', a = some ⟨g', 0, none⟩) : some g ≠ rowIw a n := by
  rcases hs with rfl | ⟨g', rfl⟩
  · simp [rowIw_zero]
  · by_cases h0 : n = 0
    · subst h0; simp [rowIw_zero]
    · rw [rowIw_pos h0]
      have := h g' 0 (by omega) rfl
      simpa using this
theorem rowIw_ge {a : Option Addr} {n B : Nat} (h : ∀ g' o', 0 < n → a = some ⟨g', o', none⟩ → B ≤ g') (hs : n = 0 ∨ ∃ g', a = some ⟨g', 0, none⟩) : ∀ k, rowIw a n = some k → B ≤ k := by
  intro k hk
  rcases hs with rfl | ⟨g', rfl⟩
  · simp [rowIw_zero] at hk
  · by_cases h0 : n = 0
    · subst h0; simp [rowIw_zero] at hk
    · rw [rowIw_pos h0] at hk
      have := h g' 0 (by omega) rfl
      simp at hk
      omega
theorem markIw_step {w wr : World} {g ty cap j : Nat} (hB : BlkIw wr g ty cap) (hj : j < cap) (hM : ∀ i, i < j → IwRAt wr g (i * 5) (markIw i)) (hG : w.grownBy wr (some g)) :
    BlkIw (setIw wr g (j * 5) (markIw j)) g ty cap ∧ (∀ i, i < j + 1 → IwRAt (setIw wr g (j * 5) (markIw j)) g (i * 5) (markIw i)) ∧ w.grownBy (setIw wr g (j * 5) (markIw j)) (some g) := by
  refine ⟨hB.sets _, fun i hi => ?_, grown_setIw hG⟩
  by_cases he : i = j
  · subst he
    exact setIw_this hB hj (markIw i)
  · exact setIw_ne (hM i (by omega)) he
end Go.Proofs.YtbockbdlojkpiaaGreat
