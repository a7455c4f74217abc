/- Proved here, for any program: a slice of structs of 5 ints as a list of rows in memory: kept, filled, owned, told to be the same, marked and found again. -/
import Derived.Test.YtcokdcehjibanaaDoorHd55
import Derived.Test.YtcokdcehjibanaaDoorEqWA
import Derived.Deep.Slices
import Derived.Lib.SmallJoins
import Derived.OwnWalk
import Derived.WalkSpells
import Derived.Deep.RegionHeld3
namespace Go.Proofs.YtcokdcehjibanaaDoor
open Go.ChangeShapes Go.WideShapes Go.ChangeAt Go.RowKit
set_option linter.unusedVariables false

/-- A row of 5 numbers. -/
structure IwR where
  kd : Int
  tm : Int
  ke : Int
  va : Int
  nn : Int
/-- A row lies in its cells; rows lie one behind the other; a slice's value holds rows. -/
def IwRAt (W : World) (g o : Nat) (x : IwR) : Prop := W.cell? ⟨g, o, none⟩ = some (.int .i64 x.kd) ∧ W.cell? ⟨g, o + 1, none⟩ = some (.int .i64 x.tm) ∧ W.cell? ⟨g, o + 2, none⟩ = some (.int .i64 x.ke) ∧ W.cell? ⟨g, o + 3, none⟩ = some (.int .i64 x.va) ∧ W.cell? ⟨g, o + 4, none⟩ = some (.int .i64 x.nn)
def IwRsAt (W : World) (g o : Nat) (xs : List IwR) : Prop := ∀ i x, xs[i]? = some x → IwRAt W g (o + i * 5) x
def IwRs (W : World) (a : Option Addr) (len : Nat) (xs : List IwR) : Prop := xs.length = len ∧ len ≤ maxLen ∧ (len = 0 ∨ ∃ g o, a = some ⟨g, o, none⟩ ∧ IwRsAt W g o xs)
theorem IwRAt.lt {W : World} {g o : Nat} {x : IwR} (h : IwRAt W g o x) : g < W.heap.size := by
  obtain ⟨h0, _⟩ := h
  rcases Nat.lt_or_ge g W.heap.size with hl | hg
  · exact hl
  · simp [World.cell?, Array.getElem?_eq_none hg] at h0
theorem IwRsAt.lt {W : World} {g o : Nat} {xs : List IwR} (h : IwRsAt W g o xs) (hp : 0 < xs.length) : g < W.heap.size := (h 0 xs[0] (List.getElem?_eq_getElem hp)).lt
theorem IwRAt.below {W W' : World} {B g o : Nat} {x : IwR} (h : IwRAt W g o x) (hb : Below B W W') (hg : g < B) : IwRAt W' g o x := by
  obtain ⟨h0, h1, h2, h3, h4⟩ := h
  exact ⟨(hb.cell (p := ⟨g, _, none⟩) hg).trans h0, (hb.cell (p := ⟨g, _, none⟩) hg).trans h1, (hb.cell (p := ⟨g, _, none⟩) hg).trans h2, (hb.cell (p := ⟨g, _, none⟩) hg).trans h3, (hb.cell (p := ⟨g, _, none⟩) hg).trans h4⟩
theorem IwRsAt.below {W W' : World} {B g o : Nat} {xs : List IwR} (h : IwRsAt W g o xs) (hb : Below B W W') (hg : 0 < xs.length → g < B) : IwRsAt W' g o xs := by
  intro i x hx
  have hlt : i < xs.length := (List.getElem?_eq_some_iff.1 hx).1
  exact (h i x hx).below hb (hg (by omega))
theorem IwRs.below {W W' : World} {a : Option Addr} {len : Nat} {xs : List IwR} (h : IwRs W a len xs) (hb : Below W.heap.size W W') : IwRs W' a len xs := by
  obtain ⟨h1, h2, h3⟩ := h
  refine ⟨h1, h2, ?_⟩
  rcases h3 with h3 | ⟨g, o, ha, hr⟩
  · exact Or.inl h3
  · exact Or.inr ⟨g, o, ha, hr.below hb (fun hp => hr.lt hp)⟩
theorem IwRAt.grown {W W' : World} {row : Option Nat} {g o : Nat} {x : IwR} (h : IwRAt W g o x) (hg : W.grownBy W' row) (hne : some g ≠ row) : IwRAt W' g o x := by
  have hbk := hg.block g h.lt hne
  obtain ⟨h0, h1, h2, h3, h4⟩ := h
  exact ⟨(World.cell?_of_block (w := W) hbk).trans h0, (World.cell?_of_block (w := W) hbk).trans h1, (World.cell?_of_block (w := W) hbk).trans h2, (World.cell?_of_block (w := W) hbk).trans h3, (World.cell?_of_block (w := W) hbk).trans h4⟩
theorem IwRs.grown {W W' : World} {row : Option Nat} {a : Option Addr} {n : Nat} {xs : List IwR} (h : IwRs W a n xs) (hg : W.grownBy W' row) (hne : ∀ g o, 0 < n → a = some ⟨g, o, none⟩ → some g ≠ row) : IwRs W' a n xs := by
  obtain ⟨h1, h2, h3⟩ := h
  refine ⟨h1, h2, ?_⟩
  rcases h3 with h3 | ⟨g, o, ha, hr⟩
  · exact Or.inl h3
  · refine Or.inr ⟨g, o, ha, fun i x hx => (hr i x hx).grown hg (hne g o ?_ ha)⟩
    have hlt : i < xs.length := (List.getElem?_eq_some_iff.1 hx).1
    omega
theorem IwRs.lt {W : World} {g o n : Nat} {xs : List IwR} (h : IwRs W (some ⟨g, o, none⟩) n xs) (hp : 0 < n) : g < W.heap.size := by
  obtain ⟨h1, h2, h3⟩ := h
  obtain ⟨g', o', ha, hr⟩ := h3.resolve_left (by omega)
  simp at ha
  have := hr.lt (by omega)
  omega

/-- A row is stored; a block of rows, known whole. -/
def setIw (W : World) (g o : Nat) (x : IwR) : World := (((((W.setCell ⟨g, o, none⟩ (.int .i64 x.kd)).setCell ⟨g, o + 1, none⟩ (.int .i64 x.tm)).setCell ⟨g, o + 2, none⟩ (.int .i64 x.ke)).setCell ⟨g, o + 3, none⟩ (.int .i64 x.va)).setCell ⟨g, o + 4, none⟩ (.int .i64 x.nn))
def BlkIw (W : World) (g ty len : Nat) : Prop := ∃ cur, W.heap[g]? = some (.cells cur ty (0, 0)) ∧ cur.size = len * 5
theorem BlkIw.set {W : World} {g ty len i : Nat} (h : BlkIw W g ty len) (v : Value) : BlkIw (W.setCell ⟨g, i, none⟩ v) g ty len := by
  obtain ⟨cur, h1, h2⟩ := h
  exact ⟨_, Joins.block_setCell h1 v, by simp [h2]⟩
theorem BlkIw.below {W W' : World} {g ty len B : Nat} (h : BlkIw W g ty len) (hb : Below B W W') (hg : g < B) : BlkIw W' g ty len := by
  obtain ⟨cur, h1, h2⟩ := h
  exact ⟨cur, (hb.block g hg).trans h1, h2⟩
theorem BlkIw.lt {W : World} {g ty len : Nat} (h : BlkIw W g ty len) : g < W.heap.size := by
  obtain ⟨cur, h1, h2⟩ := h
  exact (Array.getElem?_eq_some_iff.1 h1).1
theorem BlkIw.cell {W : World} {g ty len i : Nat} (h : BlkIw W g ty len) (hi : i < len * 5) : ∃ u, W.cell? ⟨g, i, none⟩ = some u := by
  obtain ⟨cur, h1, h2⟩ := h
  exact ⟨_, (Joins.cell_of_block h1 i).trans (Array.getElem?_eq_getElem (by omega))⟩
theorem BlkIw.frozen {W : World} {g ty len i : Nat} (h : BlkIw W g ty len) : W.frozen? ⟨g, i, none⟩ = false := by
  obtain ⟨cur, h1, h2⟩ := h
  exact Joins.unfrozen_of_block h1 i
theorem BlkIw.cells {W : World} {g ty len k : Nat} (h : BlkIw W g ty len) (hk : k < len) : (∃ u, W.cell? ⟨g, k * 5, none⟩ = some u) ∧ (∃ u, W.cell? ⟨g, k * 5 + 1, none⟩ = some u) ∧ (∃ u, W.cell? ⟨g, k * 5 + 2, none⟩ = some u) ∧ (∃ u, W.cell? ⟨g, k * 5 + 3, none⟩ = some u) ∧ (∃ u, W.cell? ⟨g, k * 5 + 4, none⟩ = some u) := ⟨h.cell (by omega), h.cell (by omega), h.cell (by omega), h.cell (by omega), h.cell (by omega)⟩
theorem BlkIw.sets {W : World} {g ty len o : Nat} (h : BlkIw W g ty len) (x : IwR) : BlkIw (setIw W g o x) g ty len := (((((h.set _).set _).set _).set _).set _)
theorem Iw_other {W : World} {g i j : Nat} {v : Value} (h : i ≠ j) : (W.setCell ⟨g, i, none⟩ v).cell? ⟨g, j, none⟩ = W.cell? ⟨g, j, none⟩ := World.cell?_setCell_other _ _ _ _ (by intro e; injection e with e1 e2; exact h e2)
theorem Iw_this {W : World} {g ty len i : Nat} {v : Value} (h : BlkIw W g ty len) (hi : i < len * 5) : (W.setCell ⟨g, i, none⟩ v).cell? ⟨g, i, none⟩ = some v := by
  obtain ⟨u, hu⟩ := h.cell hi
  exact World.cell?_setCell_same _ _ _ hu
theorem setIw_this {W : World} {g ty len k : Nat} (h : BlkIw W g ty len) (hk : k < len) (x : IwR) : IwRAt (setIw W g (k * 5) x) g (k * 5) x := by
  unfold setIw
  refine ⟨?_, ?_, ?_, ?_, ?_⟩
  · rw [Iw_other (by omega), Iw_other (by omega), Iw_other (by omega), Iw_other (by omega), Iw_this h (by omega)]
  · rw [Iw_other (by omega), Iw_other (by omega), Iw_other (by omega), Iw_this (h.set _) (by omega)]
  · rw [Iw_other (by omega), Iw_other (by omega), Iw_this ((h.set _).set _) (by omega)]
  · rw [Iw_other (by omega), Iw_this (((h.set _).set _).set _) (by omega)]
  · rw [Iw_this ((((h.set _).set _).set _).set _) (by omega)]
theorem setIw_ne {W : World} {g i k : Nat} {x y : IwR} (h : IwRAt W g (i * 5) y) (hk : i ≠ k) : IwRAt (setIw W g (k * 5) x) g (i * 5) y := by
  unfold setIw
  obtain ⟨h0, h1, h2, h3, h4⟩ := h
  refine ⟨?_, ?_, ?_, ?_, ?_⟩
  · rw [Iw_other (by omega), Iw_other (by omega), Iw_other (by omega), Iw_other (by omega), Iw_other (by omega)]; exact h0
  · rw [Iw_other (by omega), Iw_other (by omega), Iw_other (by omega), Iw_other (by omega), Iw_other (by omega)]; exact h1
  · rw [Iw_other (by omega), Iw_other (by omega), Iw_other (by omega), Iw_other (by omega), Iw_other (by omega)]; exact h2
  · rw [Iw_other (by omega), Iw_other (by omega), Iw_other (by omega), Iw_other (by omega), Iw_other (by omega)]; exact h3
  · rw [Iw_other (by omega), Iw_other (by omega), Iw_other (by omega), Iw_other (by omega), Iw_other (by omega)]; exact h4
theorem grown_setIw {W W' : World} {g o : Nat} {x : IwR} (h : W.grownBy W' (some g)) : W.grownBy (setIw W' g o x) (some g) := by
  have hs : ∀ (X : World) (i : Nat) (v : Value), W.grownBy X (some g) → W.grownBy (X.setCell ⟨g, i, none⟩ v) (some g) := by
    intro X i v hX
    exact ⟨hX.os, hX.tape, hX.output, by simp [World.setCell]; exact hX.size, fun k hk hne => (Below.heap_setCell X _ v k (fun e => hne (by rw [e]))).trans (hX.block k hk hne)⟩
  exact hs _ _ _ (hs _ _ _ (hs _ _ _ (hs _ _ _ (hs _ _ _ (h)))))

/-- The cells of rows; a slice of the call's own that holds rows. -/
def IwR.cells (x : IwR) : List Value := [.int .i64 x.kd, .int .i64 x.tm, .int .i64 x.ke, .int .i64 x.va, .int .i64 x.nn]
def flatIw (xs : List IwR) : List Value := xs.flatMap IwR.cells
theorem flatIw_snoc (xs : List IwR) (x : IwR) : flatIw (xs ++ [x]) = flatIw xs ++ x.cells := by simp [flatIw]
theorem flatIw_len (xs : List IwR) : (flatIw xs).length = xs.length * 5 := by
  induction xs with
  | nil => rfl
  | cons x r ih => show (x.cells ++ flatIw r).length = _; rw [List.length_append, ih]; simp [IwR.cells]; omega
theorem flatIw_get {xs : List IwR} {i : Nat} {x : IwR} (h : xs[i]? = some x) : (flatIw xs)[i * 5]? = some (.int .i64 x.kd) ∧ (flatIw xs)[i * 5 + 1]? = some (.int .i64 x.tm) ∧ (flatIw xs)[i * 5 + 2]? = some (.int .i64 x.ke) ∧ (flatIw xs)[i * 5 + 3]? = some (.int .i64 x.va) ∧ (flatIw xs)[i * 5 + 4]? = some (.int .i64 x.nn) := by
  induction xs generalizing i with
  | nil => simp at h
  | cons y r ih =>
    have hf : flatIw (y :: r) = y.cells ++ flatIw r := rfl
    cases i with
    | zero =>
      simp at h
      subst h
      rw [hf]
      exact ⟨rfl, rfl, rfl, rfl, rfl⟩
    | succ i =>
      simp at h
      obtain ⟨h0, h1, h2, h3, h4⟩ := ih h
      have hl : y.cells.length = 5 := rfl
      rw [hf]
      refine ⟨?_, ?_, ?_, ?_, ?_⟩
      · rw [List.getElem?_append_right (by omega), hl, show (i + 1) * 5 - 5 = i * 5 by omega]; exact h0
      · rw [List.getElem?_append_right (by omega), hl, show (i + 1) * 5 + 1 - 5 = i * 5 + 1 by omega]; exact h1
      · rw [List.getElem?_append_right (by omega), hl, show (i + 1) * 5 + 2 - 5 = i * 5 + 2 by omega]; exact h2
      · rw [List.getElem?_append_right (by omega), hl, show (i + 1) * 5 + 3 - 5 = i * 5 + 3 by omega]; exact h3
      · rw [List.getElem?_append_right (by omega), hl, show (i + 1) * 5 + 4 - 5 = i * 5 + 4 by omega]; exact h4
def OwnIw (W : World) (B : Nat) (v : Value) (ys : List IwR) : Prop := W.ownsRow B 34 5 v ys.length (flatIw ys)
theorem ownIw_ge {W : World} {B : Nat} {v : Value} {ys : List IwR} (h : OwnIw W B v ys) : ∀ k, v.ownBlock = some k → B ≤ k := by
  intro k hk
  rcases h.2 with ⟨rfl, _⟩ | ⟨g, cap, cur, rfl, hg, _⟩
  · cases hk
  · simp [Value.ownBlock] at hk; omega
theorem ownIw_snoc {w1 : World} {B : Nat} {v' : Value} {ys : List IwR} {x : IwR} (ho : w1.ownsRow B 34 5 v' (ys.length + 1) (flatIw ys ++ x.cells)) : OwnIw w1 B v' (ys ++ [x]) := by
  unfold OwnIw
  rw [flatIw_snoc]
  simpa using ho
theorem cells_newIw (w : World) (kd tm ke va nn : Int) (ty : Nat) : ∀ j u, ([.int .i64 kd, .int .i64 tm, .int .i64 ke, .int .i64 va, .int .i64 nn] : List Value)[j]? = some u → (w.alloc (.cells #[.int .i64 kd, .int .i64 tm, .int .i64 ke, .int .i64 va, .int .i64 nn] ty)).cell? ((⟨w.heap.size, 0, none⟩ : Addr).add j) = some u := by
  intro j u hj
  have e : ((⟨w.heap.size, 0, none⟩ : Addr).add j) = ⟨w.heap.size, j, none⟩ := by
    unfold Addr.add
    split
    · rename_i h0; rw [h0]
    · simp
  rw [e]
  simpa [go_sem] using hj
theorem cells_atIw (w : World) (kd tm ke va nn : Int) (ty : Nat) {g : Nat} (hg : g = w.heap.size) : ∀ j u, ([.int .i64 kd, .int .i64 tm, .int .i64 ke, .int .i64 va, .int .i64 nn] : List Value)[j]? = some u → (w.alloc (.cells #[.int .i64 kd, .int .i64 tm, .int .i64 ke, .int .i64 va, .int .i64 nn] ty)).cell? ((⟨g, 0, none⟩ : Addr).add j) = some u := by
  subst hg
  exact cells_newIw w kd tm ke va nn ty

/-- The block of a slice's rows, if there are any; what may be written; what has been marked. -/
def rowIw (a : Option Addr) (n : Nat) : Option Nat := if n = 0 then none else a.map (·.block)
theorem rowIw_zero (a : Option Addr) : rowIw a 0 = none := rfl
theorem rowIw_pos {n : Nat} (h : n ≠ 0) (g o : Nat) : rowIw (some ⟨g, o, none⟩) n = some g := by unfold rowIw; rw [if_neg h]; rfl
def markIw (i : Nat) : IwR := ⟨1 + 5 * (i : Int), 1 + 5 * (i : Int) + 1, 1 + 5 * (i : Int) + 1 + 1, 1 + 5 * (i : Int) + 1 + 1 + 1, 1 + 5 * (i : Int) + 1 + 1 + 1 + 1⟩
def WrIw (W : World) (a : Option Addr) (n cap : Nat) : Prop := n = 0 ∨ ∃ g, a = some ⟨g, 0, none⟩ ∧ BlkIw W g 34 cap ∧ n ≤ cap
def MarkedIw (W : World) (a : Option Addr) (n : Nat) : Prop := n = 0 ∨ ∃ g, a = some ⟨g, 0, none⟩ ∧ ∀ i, i < n → IwRAt W g (i * 5) (markIw i)
theorem grown0Iw {W W' : World} (h : Below W.heap.size W W') : W.grownBy W' none := ⟨h.os, h.tape, h.output, h.size, fun k hk _ => h.block k hk⟩
theorem growIw {w W W' : World} {row : Option Nat} (h : Below w.heap.size w W) (hg : W.grownBy W' row) (hr : ∀ k, row = some k → w.heap.size ≤ k) : Below w.heap.size w W' := h.grown hg h.size hr
theorem MarkedIw.below {W W' : World} {a : Option Addr} {n : Nat} (h : MarkedIw W a n) (hb : Below W.heap.size W W') : MarkedIw W' a n := by
  rcases h with h | ⟨g, ha, hM⟩
  · exact Or.inl h
  · exact Or.inr ⟨g, ha, fun i hi => (hM i hi).below hb (hM i hi).lt⟩
theorem holdIw {W : World} {B : Nat} {v : Value} {ys : List IwR} (h : OwnIw W B v ys) (hl : ys.length ≤ 1048576) :
    ∃ a cap, v = .slice a ys.length cap ∧ IwRs W a ys.length ys ∧ WrIw W a ys.length cap ∧ ∀ g o, 0 < ys.length → a = some ⟨g, o, none⟩ → B ≤ g := by
  have hm : ys.length ≤ maxLen := by unfold maxLen; omega
  obtain ⟨hlen, h | ⟨g, cap, cur, rfl, hB, hblk, hnc, hcm, hsz, htk⟩⟩ := h
  · obtain ⟨rfl, h0⟩ := h
    rw [h0]
    exact ⟨none, 0, rfl, ⟨h0, Nat.zero_le _, Or.inl rfl⟩, Or.inl rfl, fun _ _ hp => by omega⟩
  · refine ⟨_, cap, rfl, ⟨rfl, hm, Or.inr ⟨g, 0, rfl, ?_⟩⟩, Or.inr ⟨g, rfl, ⟨cur, hblk, hsz⟩, hnc⟩, fun g' o' _ e => by simp at e; omega⟩
    intro i x hx
    have hi : i < ys.length := (List.getElem?_eq_some_iff.1 hx).1
    have hcell : ∀ j u, j < ys.length * 5 → (flatIw ys)[j]? = some u → W.cell? ⟨g, j, none⟩ = some u := by
      intro j u hj hu
      rw [Joins.cell_of_block hblk j, ← Array.getElem?_toList]
      rw [← htk, List.getElem?_take_of_lt hj] at hu
      exact hu
    obtain ⟨f0, f1, f2, f3, f4⟩ := flatIw_get hx
    rw [Nat.zero_add]
    exact ⟨hcell _ _ (by omega) f0, hcell _ _ (by omega) f1, hcell _ _ (by omega) f2, hcell _ _ (by omega) f3, hcell _ _ (by omega) f4⟩
theorem WrIw.below {W W' : World} {a : Option Addr} {n cap : Nat} (h : WrIw W a n cap) (hb : Below W.heap.size W W') : WrIw W' a n cap := by
  rcases h with h | ⟨g, ha, hB, hc⟩
  · exact Or.inl h
  · exact Or.inr ⟨g, ha, hB.below hb hB.lt, hc⟩
theorem WrIw.grown {W W' : World} {row : Option Nat} {a : Option Addr} {n cap : Nat} (h : WrIw W a n cap) (hg : W.grownBy W' row) (hne : ∀ g o, 0 < n → a = some ⟨g, o, none⟩ → some g ≠ row) : WrIw W' a n cap := by
  rcases h with h | ⟨g, ha, hB, hc⟩
  · exact Or.inl h
  · by_cases h0 : n = 0
    · exact Or.inl h0
    · obtain ⟨cur, c1, c2⟩ := hB
      exact Or.inr ⟨g, ha, ⟨cur, (hg.block g (Array.getElem?_eq_some_iff.1 c1).1 (hne g 0 (by omega) ha)).trans c1, c2⟩, hc⟩
theorem WrIw.shape {W : World} {a : Option Addr} {n cap : Nat} (h : WrIw W a n cap) : n = 0 ∨ ∃ g', a = some ⟨g', 0, none⟩ := by
  rcases h with h | ⟨g, ha, _⟩
  · exact Or.inl h
  · exact Or.inr ⟨g, ha⟩
theorem rowIw_ne {a : Option Addr} {n g : Nat} (h : ∀ g' o', 0 < n → a = some ⟨g', o', none⟩ → g ≠ g') (hs : n = 0 ∨ ∃ g', a = some ⟨g', 0, none⟩) : some g ≠ rowIw a n := by
  rcases hs with rfl | ⟨g', rfl⟩
  · simp [rowIw_zero]
  · by_cases h0 : n = 0
    · subst h0; simp [rowIw_zero]
    · rw [rowIw_pos h0]
      have := h g' 0 (by omega) rfl
      simpa using this
theorem rowIw_ge {a : Option Addr} {n B : Nat} (h : ∀ g' o', 0 < n → a = some ⟨g', o', none⟩ → B ≤ g') (hs : n = 0 ∨ ∃ g', a = some ⟨g', 0, none⟩) : ∀ k, rowIw a n = some k → B ≤ k := by
  intro k hk
  rcases hs with rfl | ⟨g', rfl⟩
  · simp [rowIw_zero] at hk
  · by_cases h0 : n = 0
    · subst h0; simp [rowIw_zero] at hk
    · rw [rowIw_pos h0] at hk
      have := h g' 0 (by omega) rfl
      simp at hk
      omega
theorem markIw_step {w wr : World} {g ty cap j : Nat} (hB : BlkIw wr g ty cap) (hj : j < cap) (hM : ∀ i, i < j → IwRAt wr g (i * 5) (markIw i)) (hG : w.grownBy wr (some g)) :
    BlkIw (setIw wr g (j * 5) (markIw j)) g ty cap ∧ (∀ i, i < j + 1 → IwRAt (setIw wr g (j * 5) (markIw j)) g (i * 5) (markIw i)) ∧ w.grownBy (setIw wr g (j * 5) (markIw j)) (some g) := by
  refine ⟨hB.sets _, fun i hi => ?_, grown_setIw hG⟩
  by_cases he : i = j
  · subst he
    exact setIw_this hB hj (markIw i)
  · exact setIw_ne (hM i (by omega)) he

set_option maxHeartbeats 1000000 in
theorem eqIw_one (x : IwR) (w : World) : Calls Tryd.prog 31 #[.agg #[.int .i64 x.kd, .int .i64 x.tm, .int .i64 x.ke, .int .i64 x.va, .int .i64 x.nn], .agg #[.int .i64 x.kd, .int .i64 x.tm, .int .i64 x.ke, .int .i64 x.va, .int .i64 x.nn]] w fun e w' => e = .returned (.bool true) ∧ Below w.heap.size w w' := by
  go_enter Tryd.func31, Tryd.ntmps31
  go_wp2
  go_ret
  exact ⟨rfl, (by repeat (first | (with_reducible refine bel_set ?_ (by first | (simp; done) | (simp; omega)) _) | (with_reducible refine bel_alloc ?_ _) | (with_reducible exact Below.refl _ _) | (with_reducible assumption) | (with_reducible refine bel_drew ?_) | (with_reducible refine bel_drewN ?_ _) | (with_reducible refine bel_trans ?_ (by with_reducible assumption))))⟩

set_option maxRecDepth 20000 in
set_option maxHeartbeats 1000000 in
theorem eqIw_any (a1 a2 : Option Addr) (len cap1 cap2 : Nat) (xs : List IwR) (w : World) (h1 : IwRs w a1 len xs) (h2 : IwRs w a2 len xs) : Calls Tryd.prog 18 #[.slice a1 len cap1, .slice a2 len cap2] w fun e w' => e = .returned (.bool true) ∧ Below w.heap.size w w' := by
  have hm := h1.2.1
  unfold maxLen at hm
  go_enter Tryd.func18, Tryd.ntmps18
  go_wp2
  go_loopw [5] (fun i wr => ∃ k : Nat, k ≤ len ∧ i = .int .i64 k ∧ Below w.heap.size w wr) (fun i _ => len - (intOf i).toNat)
  case atStart => exact ⟨0, Nat.zero_le _, rfl, Below.refl _ _⟩
  case round =>
    obtain ⟨k, hk, rfl, hbw⟩ := hrel
    by_cases hlt : k < len
    · obtain ⟨hl1, _, hx1⟩ := h1
      obtain ⟨hl2, _, hx2⟩ := h2
      obtain ⟨g1, o1, rfl, hr1⟩ := hx1.resolve_left (by omega)
      obtain ⟨g2, o2, rfl, hr2⟩ := hx2.resolve_left (by omega)
      obtain ⟨x, hxk⟩ : ∃ x, xs[k]? = some x := ⟨_, List.getElem?_eq_getElem (by omega)⟩
      have hg1 : g1 < w.heap.size := hr1.lt (by omega)
      have hg2 : g2 < w.heap.size := hr2.lt (by omega)
      have hs1 : g1 < wr.heap.size := Nat.lt_of_lt_of_le hg1 hbw.size
      have hs2 : g2 < wr.heap.size := Nat.lt_of_lt_of_le hg2 hbw.size
      have hS : ((wr.cell? ⟨g1, o1 + k * 5, none⟩ = some (.int .i64 x.kd) ∧ wr.cell? ⟨g1, o1 + k * 5 + 1, none⟩ = some (.int .i64 x.tm) ∧ wr.cell? ⟨g1, o1 + k * 5 + 2, none⟩ = some (.int .i64 x.ke) ∧ wr.cell? ⟨g1, o1 + k * 5 + 3, none⟩ = some (.int .i64 x.va) ∧ wr.cell? ⟨g1, o1 + k * 5 + 4, none⟩ = some (.int .i64 x.nn) ∧ wr.cell? ⟨g2, o2 + k * 5, none⟩ = some (.int .i64 x.kd) ∧ wr.cell? ⟨g2, o2 + k * 5 + 1, none⟩ = some (.int .i64 x.tm) ∧ wr.cell? ⟨g2, o2 + k * 5 + 2, none⟩ = some (.int .i64 x.ke) ∧ wr.cell? ⟨g2, o2 + k * 5 + 3, none⟩ = some (.int .i64 x.va) ∧ wr.cell? ⟨g2, o2 + k * 5 + 4, none⟩ = some (.int .i64 x.nn)) ∧ g1 < wr.heap.size ∧ g2 < wr.heap.size) := by
        obtain ⟨c0, c1, c2, c3, c4⟩ := (hr1 k _ hxk).below hbw hg1
        obtain ⟨d0, d1, d2, d3, d4⟩ := (hr2 k _ hxk).below hbw hg2
        exact ⟨⟨c0, c1, c2, c3, c4, d0, d1, d2, d3, d4⟩, hs1, hs2⟩
      clear hx1 hx2 hxk hr1 hr2
      go_wp2
      go_region_held3 (fun W => ((W.cell? ⟨g1, o1 + k * 5, none⟩ = some (.int .i64 x.kd) ∧ W.cell? ⟨g1, o1 + k * 5 + 1, none⟩ = some (.int .i64 x.tm) ∧ W.cell? ⟨g1, o1 + k * 5 + 2, none⟩ = some (.int .i64 x.ke) ∧ W.cell? ⟨g1, o1 + k * 5 + 3, none⟩ = some (.int .i64 x.va) ∧ W.cell? ⟨g1, o1 + k * 5 + 4, none⟩ = some (.int .i64 x.nn) ∧ W.cell? ⟨g2, o2 + k * 5, none⟩ = some (.int .i64 x.kd) ∧ W.cell? ⟨g2, o2 + k * 5 + 1, none⟩ = some (.int .i64 x.tm) ∧ W.cell? ⟨g2, o2 + k * 5 + 2, none⟩ = some (.int .i64 x.ke) ∧ W.cell? ⟨g2, o2 + k * 5 + 3, none⟩ = some (.int .i64 x.va) ∧ W.cell? ⟨g2, o2 + k * 5 + 4, none⟩ = some (.int .i64 x.nn)) ∧ g1 < W.heap.size ∧ g2 < W.heap.size)) ((first | ((repeat (first | (with_reducible assumption) | (with_reducible refine hd_5_5 ?_ (by with_reducible assumption)) | (with_reducible refine hd_5_5 ?_ (bel_drew (Below.refl _ _))) | (with_reducible exact hd_5_5_re (by with_reducible assumption) (by first | omega | (simp; done) | (simp; omega)) (by first | omega | (simp; done) | (simp; omega))) | (with_reducible refine hd_5_5 ?_ (bel_one _ _)) | (with_reducible refine hd_5_5_set ?_ (by first | omega | (simp; done) | (simp; omega)) (by first | omega | (simp; done) | (simp; omega)) _))); done) | (refine ⟨⟨?_, ?_, ?_, ?_, ?_, ?_, ?_, ?_, ?_, ?_⟩, ?_, ?_⟩ <;> first | (go_keep; done) | (simp; done) | (simp; omega) | omega)))
        (first
        | (go_at_call 31; refine (eqIw_one _ _).mono ?_; rintro e w' ⟨rfl, hb⟩; obtain ⟨hc, hf, hs⟩ := bcell hb))
      go_wp2
      go_roundw
      case rel => exact ⟨k + 1, by omega, by go_num, (by repeat (first | (with_reducible refine bel_set ?_ (by first | (simp; done) | (simp; omega)) _) | (with_reducible refine bel_alloc ?_ _) | (with_reducible exact Below.refl _ _) | (with_reducible assumption) | (with_reducible refine bel_drew ?_) | (with_reducible refine bel_drewN ?_ _) | (with_reducible refine bel_trans ?_ (by with_reducible assumption))))⟩
      case measure => simp [intOf]; omega
    · go_wp2
      go_ret
      exact ⟨rfl, hbw⟩

set_option maxRecDepth 20000 in
set_option maxHeartbeats 1000000 in
theorem markIw_any (a : Option Addr) (n cap : Nat) (w : World) (h : WrIw w a n cap) (hn : n ≤ 1048576) : Calls Tryd.prog 20 #[.slice a n cap, .int .i64 1] w fun e w' => e = .returned (.int .i64 (1 + 5 * (n : Int))) ∧ MarkedIw w' a n ∧ w.grownBy w' (rowIw a n) := by
  by_cases h0 : n = 0
  · subst h0
    go_enter Tryd.func20, Tryd.ntmps20
    go_wp2
    go_loopw [1, 5] (fun kv i wr => kv = .int .i64 1 ∧ i = .int .i64 0 ∧ wr = w) (fun _ _ _ => 0)
    case atStart => exact ⟨rfl, rfl, rfl⟩
    case round =>
      obtain ⟨rfl, rfl, rfl⟩ := hrel
      go_wp2
      go_ret
      exact ⟨rfl, Or.inl rfl, grown0Iw (Below.refl _ _)⟩
  · obtain ⟨g, rfl, hB, hc⟩ := h.resolve_left h0
    rw [rowIw_pos h0]
    go_enter Tryd.func20, Tryd.ntmps20
    go_wp2
    go_loopw [1, 5] (fun kv i wr => ∃ j : Nat, j ≤ n ∧ kv = .int .i64 (1 + 5 * (j : Int)) ∧ i = .int .i64 j ∧ BlkIw wr g 34 cap ∧ (∀ i, i < j → IwRAt wr g (i * 5) (markIw i)) ∧ w.grownBy wr (some g)) (fun _ i _ => n - (intOf i).toNat)
    case atStart => exact ⟨0, Nat.zero_le _, rfl, rfl, hB, fun i hi => absurd hi (by omega), ⟨rfl, rfl, rfl, Nat.le_refl _, fun _ _ _ => rfl⟩⟩
    case round =>
      obtain ⟨j, hj, rfl, rfl, hBw, hM, hG⟩ := hrel
      have HM := hide hM
      clear hM
      by_cases hlt : j < n
      · obtain ⟨⟨u0, d0⟩, ⟨u1, d1⟩, ⟨u2, d2⟩, ⟨u3, d3⟩, ⟨u4, d4⟩⟩ := hBw.cells (k := j) (by omega)
        have f0 := hBw.frozen (i := j * 5)
        have f1 := hBw.frozen (i := j * 5 + 1)
        have f2 := hBw.frozen (i := j * 5 + 2)
        have f3 := hBw.frozen (i := j * 5 + 3)
        have f4 := hBw.frozen (i := j * 5 + 4)
        go_wp2
        go_roundw
        case rel =>
          obtain ⟨s1, s2, s3⟩ := markIw_step hBw (by omega) (unhide HM) hG
          exact ⟨j + 1, by omega, by go_num, by go_num, s1, s2, s3⟩
        case measure => simp [intOf]; omega
      · obtain rfl : j = n := by omega
        go_wp2
        go_ret
        exact ⟨rfl, Or.inr ⟨g, rfl, unhide HM⟩, hG⟩

set_option maxRecDepth 20000 in
set_option maxHeartbeats 1000000 in
theorem heldIw_any (a : Option Addr) (n cap : Nat) (w : World) (h : MarkedIw w a n) (hn : n ≤ 1048576) : Calls Tryd.prog 21 #[.slice a n cap, .int .i64 1] w fun e w' => e = .returned (.int .i64 (1 + 5 * (n : Int))) ∧ w' = w := by
  go_enter Tryd.func21, Tryd.ntmps21
  go_wp2
  go_loop [1, 5] (fun kv i => ∃ j : Nat, j ≤ n ∧ kv = .int .i64 (1 + 5 * (j : Int)) ∧ i = .int .i64 j) (fun _ i => n - (intOf i).toNat)
  case atStart => exact ⟨0, Nat.zero_le _, rfl, rfl⟩
  case round =>
    obtain ⟨j, hj, rfl, rfl⟩ := hrel
    by_cases hlt : j < n
    · obtain ⟨g, rfl, hM⟩ := h.resolve_left (by omega)
      obtain ⟨c0, c1, c2, c3, c4⟩ := (show w.cell? ⟨g, j * 5, none⟩ = some (.int .i64 (1 + 5 * (j : Int))) ∧ w.cell? ⟨g, j * 5 + 1, none⟩ = some (.int .i64 (1 + 5 * (j : Int) + 1)) ∧ w.cell? ⟨g, j * 5 + 2, none⟩ = some (.int .i64 (1 + 5 * (j : Int) + 1 + 1)) ∧ w.cell? ⟨g, j * 5 + 3, none⟩ = some (.int .i64 (1 + 5 * (j : Int) + 1 + 1 + 1)) ∧ w.cell? ⟨g, j * 5 + 4, none⟩ = some (.int .i64 (1 + 5 * (j : Int) + 1 + 1 + 1 + 1)) from hM j hlt)
      clear hM
      go_wp2
      go_round
      case rel => exact ⟨j + 1, by omega, by go_num, by go_num⟩
      case measure => simp [intOf]; omega
    · obtain rfl : j = n := by omega
      go_wp2
      go_ret
      exact ⟨rfl, rfl⟩
end Go.Proofs.YtcokdcehjibanaaDoor
