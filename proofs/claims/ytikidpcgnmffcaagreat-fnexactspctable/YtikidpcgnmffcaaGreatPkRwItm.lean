/- Laid together: what the claim needs of the texts that were built one by one. -/
import Derived.Test.YtikidpcgnmffcaaGreatPkHd55
import Derived.Test.YtikidpcgnmffcaaGreatPkBase
import Derived.Deep.Slices
import Derived.Lib.SmallJoins
import Derived.OwnWalk
import Derived.WalkSpells
import Derived.Deep.RegionHeld3
namespace Go.Proofs.YtikidpcgnmffcaaGreat
open Go.ChangeShapes Go.WideShapes Go.ChangeAt Go.RowKit
set_option linter.unusedVariables false

/-- A row of 5 numbers. -/
structure IwR where
  kd : Int
  tm : Int
  ke : Int
  va : Int
  nn : Int

/-- A row lies in its cells; rows lie one behind the other; a slice's value holds rows. -/
def IwRAt (W : World) (g o : Nat) (x : IwR) : Prop := W.cell? ⟨g, o, none⟩ = some (.int .i64 x.kd) ∧ W.cell? ⟨g, o + 1, none⟩ = some (.int .i64 x.tm) ∧ W.cell? ⟨g, o + 2, none⟩ = some (.int .i64 x.ke) ∧ W.cell? ⟨g, o + 3, none⟩ = some (.int .i64 x.va) ∧ W.cell? ⟨g, o + 4, none⟩ = some (.int .i64 x.nn)

def IwRsAt (W : World) (g o : Nat) (xs : List IwR) : Prop := ∀ i x, xs[i]? = some x → IwRAt W g (o + i * 5) x

def IwRs (W : World) (a : Option Addr) (len : Nat) (xs : List IwR) : Prop := xs.length = len ∧ len ≤ maxLen ∧ (len = 0 ∨ ∃ g o, a = some ⟨g, o, none⟩ ∧ IwRsAt W g o xs)

theorem IwRAt.lt {W : World} {g o : Nat} {x : IwR} (h : IwRAt W g o x) : g < W.heap.size := by
  obtain ⟨h0, _⟩ := h
  rcases Nat.lt_or_ge g W.heap.size with hl | hg
  · exact hl
  · simp [World.cell?, Array.getElem?_eq_none hg] at h0

theorem IwRsAt.lt {W : World} {g o : Nat} {xs : List IwR} (h : IwRsAt W g o xs) (hp : 0 < xs.length) : g < W.heap.size := (h 0 xs[0] (List.getElem?_eq_getElem hp)).lt

theorem IwRAt.below {W W' : World} {B g o : Nat} {x : IwR} (h : IwRAt W g o x) (hb : Below B W W') (hg : g < B) : IwRAt W' g o x := by
  obtain ⟨h0, h1, h2, h3, h4⟩ := h
  exact ⟨(hb.cell (p := ⟨g, _, none⟩) hg).trans h0, (hb.cell (p := ⟨g, _, none⟩) hg).trans h1, (hb.cell (p := ⟨g, _, none⟩) hg).trans h2, (hb.cell (p := ⟨g, _, none⟩) hg).trans h3, (hb.cell (p := ⟨g, _, none⟩) hg).trans h4⟩

theorem IwRsAt.below {W W' : World} {B g o : Nat} {xs : List IwR} (h : IwRsAt W g o xs) (hb : Below B W W') (hg : 0 < xs.length → g < B) : IwRsAt W' g o xs := by
  intro i x hx
  have hlt : i < xs.length := (List.getElem?_eq_some_iff.1 hx).1
  exact (h i x hx).below hb (hg (by omega))

theorem IwRs.below {W W' : World} {a : Option Addr} {len : Nat} {xs : List IwR} (h : IwRs W a len xs) (hb : Below W.heap.size W W') : IwRs W' a len xs := by
  obtain ⟨h1, h2, h3⟩ := h
  refine ⟨h1, h2, ?_⟩
  rcases h3 with h3 | ⟨g, o, ha, hr⟩
  · exact Or.inl h3
  · exact Or.inr ⟨g, o, ha, hr.below hb (fun hp => hr.lt hp)⟩

theorem IwRAt.grown {W W' : World} {row : Option Nat} {g o : Nat} {x : IwR} (h : IwRAt W g o x) (hg : W.grownBy W' row) (hne : some g ≠ row) : IwRAt W' g o x := by
  have hbk := hg.block g h.lt hne
  obtain ⟨h0, h1, h2, h3, h4⟩ := h
  exact ⟨(World.cell?_of_block (w := W) hbk).trans h0, (World.cell?_of_block (w := W) hbk).trans h1, (World.cell?_of_block (w := W) hbk).trans h2, (World.cell?_of_block (w := W) hbk).trans h3, (World.cell?_of_block (w := W) hbk).trans h4⟩

theorem IwRs.grown {W W' : World} {row : Option Nat} {a : Option Addr} {n : Nat} {xs : List IwR} (h : IwRs W a n xs) (hg : W.grownBy W' row) (hne : ∀ g o, 0 < n → a = some ⟨g, o, none⟩ → some g ≠ row) : IwRs W' a n xs := by
  obtain ⟨h1, h2, h3⟩ := h
  refine ⟨h1, h2, ?_⟩
  rcases h3 with h3 | ⟨g, o, ha, hr⟩
  · exact Or.inl h3
  · refine Or.inr ⟨g, o, ha, fun i x hx => (hr i x hx).grown hg (hne g o ?_ ha)⟩
    have hlt : i < xs.length := (List.getElem?_eq_some_iff.1 hx).1
    omega

theorem IwRs.lt {W : World} {g o n : Nat} {xs : List IwR} (h : IwRs W (some ⟨g, o, none⟩) n xs) (hp : 0 < n) : g < W.heap.size := by
  obtain ⟨h1, h2, h3⟩ := h
  obtain ⟨g', o', ha, hr⟩ := h3.resolve_left (by omega)
  simp at ha
  have := hr.lt (by omega)
  omega

/-- A row is stored; a block of rows, known whole. -/
def setIw (W : World) (g o : Nat) (x : IwR) : World := (((((W.setCell ⟨g, o, none⟩ (.int .i64 x.kd)).setCell ⟨g, o + 1, none⟩ (.int .i64 x.tm)).setCell ⟨g, o + 2, none⟩ (.int .i64 x.ke)).setCell ⟨g, o + 3, none⟩ (.int .i64 x.va)).setCell ⟨g, o + 4, none⟩ (.int .i64 x.nn))

def BlkIw (W : World) (g ty len : Nat) : Prop := ∃ cur, W.heap[g]? = some (.cells cur ty (0, 0)) ∧ cur.size = len * 5

theorem BlkIw.set {W : World} {g ty len i : Nat} (h : BlkIw W g ty len) (v : Value) : BlkIw (W.setCell ⟨g, i, none⟩ v) g ty len := by
  obtain ⟨cur, h1, h2⟩ := h
  exact ⟨_, Joins.block_setCell h1 v, by simp [h2]⟩

theorem BlkIw.below {W W' : World} {g ty len B : Nat} (h : BlkIw W g ty len) (hb : Below B W W') (hg : g < B) : BlkIw W' g ty len := by
  obtain ⟨cur, h1, h2⟩ := h
  exact ⟨cur, (hb.block g hg).trans h1, h2⟩

theorem BlkIw.lt {W : World} {g ty len : Nat} (h : BlkIw W g ty len) : g < W.heap.size := by
  obtain ⟨cur, h1, h2⟩ := h
  exact (Array.getElem?_eq_some_iff.1 h1).1

theorem BlkIw.cell {W : World} {g ty len i : Nat} (h : BlkIw W g ty len) (hi : i < len * 5) : ∃ u, W.cell? ⟨g, i, none⟩ = some u := by
  obtain ⟨cur, h1, h2⟩ := h
  exact ⟨_, (Joins.cell_of_block h1 i).trans (Array.getElem?_eq_getElem (by omega))⟩

theorem BlkIw.frozen {W : World} {g ty len i : Nat} (h : BlkIw W g ty len) : W.frozen? ⟨g, i, none⟩ = false := by
  obtain ⟨cur, h1, h2⟩ := h
  exact Joins.unfrozen_of_block h1 i

theorem BlkIw.cells {W : World} {g ty len k : Nat} (h : BlkIw W g ty len) (hk : k < len) : (∃ u, W.cell? ⟨g, k * 5, none⟩ = some u) ∧ (∃ u, W.cell? ⟨g, k * 5 + 1, none⟩ = some u) ∧ (∃ u, W.cell? ⟨g, k * 5 + 2, none⟩ = some u) ∧ (∃ u, W.cell? ⟨g, k * 5 + 3, none⟩ = some u) ∧ (∃ u, W.cell? ⟨g, k * 5 + 4, none⟩ = some u) := ⟨h.cell (by omega), h.cell (by omega), h.cell (by omega), h.cell (by omega), h.cell (by omega)⟩

theorem BlkIw.sets {W : World} {g ty len o : Nat} (h : BlkIw W g ty len) (x : IwR) : BlkIw (setIw W g o x) g ty len := (((((h.set _).set _).set _).set _).set _)

theorem Iw_other {W : World} {g i j : Nat} {v : Value} (h : i ≠ j) : (W.setCell ⟨g, i, none⟩ v).cell? ⟨g, j, none⟩ = W.cell? ⟨g, j, none⟩ := World.cell?_setCell_other _ _ _ _ (by intro e; injection e with e1 e2; exact h e2)

theorem Iw_this {W : World} {g ty len i : Nat} {v : Value} (h : BlkIw W g ty len) (hi : i < len * 5) : (W.setCell ⟨g, i, none⟩ v).cell? ⟨g, i, none⟩ = some v := by
  obtain ⟨u, hu⟩ := h.cell hi
  exact World.cell?_setCell_same _ _ _ hu

theorem setIw_this {W : World} {g ty len k : Nat} (h : BlkIw W g ty len) (hk : k < len) (x : IwR) : IwRAt (setIw W g (k * 5) x) g (k * 5) x := by
  unfold setIw
  refine ⟨?_, ?_, ?_, ?_, ?_⟩
  · rw [Iw_other (by omega), Iw_other (by omega), Iw_other (by omega), Iw_other (by omega), Iw_this h (by omega)]
  · rw [Iw_other (by omega), Iw_other (by omega), Iw_other (by omega), Iw_this (h.set _) (by omega)]
  · rw [Iw_other (by omega), Iw_other (by omega), Iw_this ((h.set _).set _) (by omega)]
  · rw [Iw_other (by omega), Iw_this (((h.set _).set _).set _) (by omega)]
  · rw [Iw_this ((((h.set _).set _).set _).set _) (by omega)]

theorem setIw_ne {W : World} {g i k : Nat} {x y : IwR} (h : IwRAt W g (i * 5) y) (hk : i ≠ k) : IwRAt (setIw W g (k * 5) x) g (i * 5) y := by
  unfold setIw
  obtain ⟨h0, h1, h2, h3, h4⟩ := h
  refine ⟨?_, ?_, ?_, ?_, ?_⟩
  · rw [Iw_other (by omega), Iw_other (by omega), Iw_other (by omega), Iw_other (by omega), Iw_other (by omega)]; exact h0
  · rw [Iw_other (by omega), Iw_other (by omega), Iw_other (by omega), Iw_other (by omega), Iw_other (by omega)]; exact h1
  · rw [Iw_other (by omega), Iw_other (by omega), Iw_other (by omega), Iw_other (by omega), Iw_other (by omega)]; exact h2
  · rw [Iw_other (by omega), Iw_other (by omega), Iw_other (by omega), Iw_other (by omega), Iw_other (by omega)]; exact h3
  · rw [Iw_other (by omega), Iw_other (by omega), Iw_other (by omega), Iw_other (by omega), Iw_other (by omega)]; exact h4

theorem grown_setIw {W W' : World} {g o : Nat} {x : IwR} (h : W.grownBy W' (some g)) : W.grownBy (setIw W' g o x) (some g) := by
  have hs : ∀ (X : World) (i : Nat) (v : Value), W.grownBy X (some g) → W.grownBy (X.setCell ⟨g, i, none⟩ v) (some g) := by
    intro X i v hX
    exact ⟨hX.os, hX.tape, hX.output, by simp [World.setCell]; exact hX.size, fun k hk hne => (Below.heap_setCell X _ v k (fun e => hne (by rw [e]))).trans (hX.block k hk hne)⟩
  exact hs _ _ _ (hs _ _ _ (hs _ _ _ (hs _ _ _ (hs _ _ _ (h)))))

/-- The cells of rows; a slice of the call's own that holds rows. -/
def IwR.cells (x : IwR) : List Value := [.int .i64 x.kd, .int .i64 x.tm, .int .i64 x.ke, .int .i64 x.va, .int .i64 x.nn]

/-- The block of a slice's rows, if there are any; what may be written; what has been marked. -/
def rowIw (a : Option Addr) (n : Nat) : Option Nat := if n = 0 then none else a.map (·.block)

theorem rowIw_zero (a : Option Addr) : rowIw a 0 = none := rfl

theorem rowIw_pos {n : Nat} (h : n ≠ 0) (g o : Nat) : rowIw (some ⟨g, o, none⟩) n = some g := by unfold rowIw; rw [if_neg h]; rfl

def markIw (i : Nat) : IwR := ⟨1 + 5 * (i : Int), 1 + 5 * (i : Int) + 1, 1 + 5 * (i : Int) + 1 + 1, 1 + 5 * (i : Int) + 1 + 1 + 1, 1 + 5 * (i : Int) + 1 + 1 + 1 + 1⟩

def WrIw (W : World) (a : Option Addr) (n cap : Nat) : Prop := n = 0 ∨ ∃ g, a = some ⟨g, 0, none⟩ ∧ BlkIw W g 40 cap ∧ n ≤ cap

def MarkedIw (W : World) (a : Option Addr) (n : Nat) : Prop := n = 0 ∨ ∃ g, a = some ⟨g, 0, none⟩ ∧ ∀ i, i < n → IwRAt W g (i * 5) (markIw i)

theorem grown0Iw {W W' : World} (h : Below W.heap.size W W') : W.grownBy W' none := ⟨h.os, h.tape, h.output, h.size, fun k hk _ => h.block k hk⟩

theorem growIw {w W W' : World} {row : Option Nat} (h : Below w.heap.size w W) (hg : W.grownBy W' row) (hr : ∀ k, row = some k → w.heap.size ≤ k) : Below w.heap.size w W' := h.grown hg h.size hr

theorem MarkedIw.below {W W' : World} {a : Option Addr} {n : Nat} (h : MarkedIw W a n) (hb : Below W.heap.size W W') : MarkedIw W' a n := by
  rcases h with h | ⟨g, ha, hM⟩
  · exact Or.inl h
  · exact Or.inr ⟨g, ha, fun i hi => (hM i hi).below hb (hM i hi).lt⟩

theorem WrIw.below {W W' : World} {a : Option Addr} {n cap : Nat} (h : WrIw W a n cap) (hb : Below W.heap.size W W') : WrIw W' a n cap := by
  rcases h with h | ⟨g, ha, hB, hc⟩
  · exact Or.inl h
  · exact Or.inr ⟨g, ha, hB.below hb hB.lt, hc⟩

theorem WrIw.grown {W W' : World} {row : Option Nat} {a : Option Addr} {n cap : Nat} (h : WrIw W a n cap) (hg : W.grownBy W' row) (hne : ∀ g o, 0 < n → a = some ⟨g, o, none⟩ → some g ≠ row) : WrIw W' a n cap := by
  rcases h with h | ⟨g, ha, hB, hc⟩
  · exact Or.inl h
  · by_cases h0 : n = 0
    · exact Or.inl h0
    · obtain ⟨cur, c1, c2⟩ := hB
      exact Or.inr ⟨g, ha, ⟨cur, (hg.block g (Array.getElem?_eq_some_iff.1 c1).1 (hne g 0 (by omega) ha)).trans c1, c2⟩, hc⟩

theorem WrIw.shape {W : World} {a : Option Addr} {n cap : Nat} (h : WrIw W a n cap) : n = 0 ∨ ∃ g', a = some ⟨g', 0, none⟩ := by
  rcases h with h | ⟨g, ha, _⟩
  · exact Or.inl h
  · exact Or.inr ⟨g, ha⟩

theorem rowIw_ne {a : Option Addr} {n g : Nat} (h : ∀ g' o', 0 < n → a = some ⟨g', o', none⟩ → g ≠ g') (hs : n = 0 ∨ ∃ g', a = some ⟨g', 0, none⟩) : some g ≠ rowIw a n := by
  rcases hs with rfl | ⟨g', rfl⟩
  · simp [rowIw_zero]
  · by_cases h0 : n = 0
    · subst h0; simp [rowIw_zero]
    · rw [rowIw_pos h0]
      have := h g' 0 (by omega) rfl
      simpa using this

theorem rowIw_ge {a : Option Addr} {n B : Nat} (h : ∀ g' o', 0 < n → a = some ⟨g', o', none⟩ → B ≤ g') (hs : n = 0 ∨ ∃ g', a = some ⟨g', 0, none⟩) : ∀ k, rowIw a n = some k → B ≤ k := by
  intro k hk
  rcases hs with rfl | ⟨g', rfl⟩
  · simp [rowIw_zero] at hk
  · by_cases h0 : n = 0
    · subst h0; simp [rowIw_zero] at hk
    · rw [rowIw_pos h0] at hk
      have := h g' 0 (by omega) rfl
      simp at hk
      omega

theorem markIw_step {w wr : World} {g ty cap j : Nat} (hB : BlkIw wr g ty cap) (hj : j < cap) (hM : ∀ i, i < j → IwRAt wr g (i * 5) (markIw i)) (hG : w.grownBy wr (some g)) :
    BlkIw (setIw wr g (j * 5) (markIw j)) g ty cap ∧ (∀ i, i < j + 1 → IwRAt (setIw wr g (j * 5) (markIw j)) g (i * 5) (markIw i)) ∧ w.grownBy (setIw wr g (j * 5) (markIw j)) (some g) := by
  refine ⟨hB.sets _, fun i hi => ?_, grown_setIw hG⟩
  by_cases he : i = j
  · subst he
    exact setIw_this hB hj (markIw i)
  · exact setIw_ne (hM i (by omega)) he

set_option maxHeartbeats 1000000 in
theorem eqIw_one (x : IwR) (w : World) : Calls Tryz.prog 24 #[.agg #[.int .i64 x.kd, .int .i64 x.tm, .int .i64 x.ke, .int .i64 x.va, .int .i64 x.nn], .agg #[.int .i64 x.kd, .int .i64 x.tm, .int .i64 x.ke, .int .i64 x.va, .int .i64 x.nn]] w fun e w' => e = .returned (.bool true) ∧ Below w.heap.size w w' := by
  go_enter Tryz.func24, Tryz.ntmps24
  go_wp2
  go_ret
  exact ⟨rfl, (belB)⟩

set_option maxRecDepth 20000 in
set_option maxHeartbeats 1000000 in
theorem eqIw_any (a1 a2 : Option Addr) (len cap1 cap2 : Nat) (xs : List IwR) (w : World) (h1 : IwRs w a1 len xs) (h2 : IwRs w a2 len xs) : Calls Tryz.prog 10 #[.slice a1 len cap1, .slice a2 len cap2] w fun e w' => e = .returned (.bool true) ∧ Below w.heap.size w w' := by
  have hm := h1.2.1
  unfold maxLen at hm
  go_enter Tryz.func10, Tryz.ntmps10
  go_wp2
  go_loopw [5] (fun i wr => ∃ k : Nat, k ≤ len ∧ i = .int .i64 k ∧ Below w.heap.size w wr) (fun i _ => len - (intOf i).toNat)
  case atStart => exact ⟨0, Nat.zero_le _, rfl, Below.refl _ _⟩
  case round =>
    obtain ⟨k, hk, rfl, hbw⟩ := hrel
    by_cases hlt : k < len
    · obtain ⟨hl1, _, hx1⟩ := h1
      obtain ⟨hl2, _, hx2⟩ := h2
      obtain ⟨g1, o1, rfl, hr1⟩ := hx1.resolve_left (by omega)
      obtain ⟨g2, o2, rfl, hr2⟩ := hx2.resolve_left (by omega)
      obtain ⟨x, hxk⟩ : ∃ x, xs[k]? = some x := ⟨_, List.getElem?_eq_getElem (by omega)⟩
      have hg1 : g1 < w.heap.size := hr1.lt (by omega)
      have hg2 : g2 < w.heap.size := hr2.lt (by omega)
      have hs1 : g1 < wr.heap.size := Nat.lt_of_lt_of_le hg1 hbw.size
      have hs2 : g2 < wr.heap.size := Nat.lt_of_lt_of_le hg2 hbw.size
      have hS : ((wr.cell? ⟨g1, o1 + k * 5, none⟩ = some (.int .i64 x.kd) ∧ wr.cell? ⟨g1, o1 + k * 5 + 1, none⟩ = some (.int .i64 x.tm) ∧ wr.cell? ⟨g1, o1 + k * 5 + 2, none⟩ = some (.int .i64 x.ke) ∧ wr.cell? ⟨g1, o1 + k * 5 + 3, none⟩ = some (.int .i64 x.va) ∧ wr.cell? ⟨g1, o1 + k * 5 + 4, none⟩ = some (.int .i64 x.nn) ∧ wr.cell? ⟨g2, o2 + k * 5, none⟩ = some (.int .i64 x.kd) ∧ wr.cell? ⟨g2, o2 + k * 5 + 1, none⟩ = some (.int .i64 x.tm) ∧ wr.cell? ⟨g2, o2 + k * 5 + 2, none⟩ = some (.int .i64 x.ke) ∧ wr.cell? ⟨g2, o2 + k * 5 + 3, none⟩ = some (.int .i64 x.va) ∧ wr.cell? ⟨g2, o2 + k * 5 + 4, none⟩ = some (.int .i64 x.nn)) ∧ g1 < wr.heap.size ∧ g2 < wr.heap.size) := by
        obtain ⟨c0, c1, c2, c3, c4⟩ := (hr1 k _ hxk).below hbw hg1
        obtain ⟨d0, d1, d2, d3, d4⟩ := (hr2 k _ hxk).below hbw hg2
        exact ⟨⟨c0, c1, c2, c3, c4, d0, d1, d2, d3, d4⟩, hs1, hs2⟩
      clear hx1 hx2 hxk hr1 hr2
      go_wp2
      go_region_held3 (fun W => ((W.cell? ⟨g1, o1 + k * 5, none⟩ = some (.int .i64 x.kd) ∧ W.cell? ⟨g1, o1 + k * 5 + 1, none⟩ = some (.int .i64 x.tm) ∧ W.cell? ⟨g1, o1 + k * 5 + 2, none⟩ = some (.int .i64 x.ke) ∧ W.cell? ⟨g1, o1 + k * 5 + 3, none⟩ = some (.int .i64 x.va) ∧ W.cell? ⟨g1, o1 + k * 5 + 4, none⟩ = some (.int .i64 x.nn) ∧ W.cell? ⟨g2, o2 + k * 5, none⟩ = some (.int .i64 x.kd) ∧ W.cell? ⟨g2, o2 + k * 5 + 1, none⟩ = some (.int .i64 x.tm) ∧ W.cell? ⟨g2, o2 + k * 5 + 2, none⟩ = some (.int .i64 x.ke) ∧ W.cell? ⟨g2, o2 + k * 5 + 3, none⟩ = some (.int .i64 x.va) ∧ W.cell? ⟨g2, o2 + k * 5 + 4, none⟩ = some (.int .i64 x.nn)) ∧ g1 < W.heap.size ∧ g2 < W.heap.size)) ((first | ((repeat (first | (with_reducible assumption) | (with_reducible refine hd_5_5 ?_ (by with_reducible assumption)) | (with_reducible refine hd_5_5 ?_ (bel_drew (Below.refl _ _))) | (with_reducible exact hd_5_5_re (by with_reducible assumption) (sB) (sB)) | (with_reducible refine hd_5_5 ?_ (bel_one _ _)) | (with_reducible refine hd_5_5_set ?_ (sB) (sB) _))); done) | (refine ⟨⟨?_, ?_, ?_, ?_, ?_, ?_, ?_, ?_, ?_, ?_⟩, ?_, ?_⟩ <;> first | (go_keep; done) | (simp; done) | (simp; omega) | omega)))
        (first
        | (go_at_call 24; refine (eqIw_one _ _).mono ?_; rintro e w' ⟨rfl, hb⟩; obtain ⟨hc, hf, hs⟩ := bcell hb))
      go_wp2
      go_roundw
      case rel => exact ⟨k + 1, by omega, by go_num, (belB)⟩
      case measure => simp [intOf]; omega
    · go_wp2
      go_ret
      exact ⟨rfl, hbw⟩

set_option maxRecDepth 20000 in
set_option maxHeartbeats 1000000 in
theorem markIw_any (a : Option Addr) (n cap : Nat) (w : World) (h : WrIw w a n cap) (hn : n ≤ 1048576) : Calls Tryz.prog 11 #[.slice a n cap, .int .i64 1] w fun e w' => e = .returned (.int .i64 (1 + 5 * (n : Int))) ∧ MarkedIw w' a n ∧ w.grownBy w' (rowIw a n) := by
  by_cases h0 : n = 0
  · subst h0
    go_enter Tryz.func11, Tryz.ntmps11
    go_wp2
    go_loopw [1, 5] (fun kv i wr => kv = .int .i64 1 ∧ i = .int .i64 0 ∧ wr = w) (fun _ _ _ => 0)
    case atStart => exact ⟨rfl, rfl, rfl⟩
    case round =>
      obtain ⟨rfl, rfl, rfl⟩ := hrel
      go_wp2
      go_ret
      exact ⟨rfl, Or.inl rfl, grown0Iw (Below.refl _ _)⟩
  · obtain ⟨g, rfl, hB, hc⟩ := h.resolve_left h0
    rw [rowIw_pos h0]
    go_enter Tryz.func11, Tryz.ntmps11
    go_wp2
    go_loopw [1, 5] (fun kv i wr => ∃ j : Nat, j ≤ n ∧ kv = .int .i64 (1 + 5 * (j : Int)) ∧ i = .int .i64 j ∧ BlkIw wr g 40 cap ∧ (∀ i, i < j → IwRAt wr g (i * 5) (markIw i)) ∧ w.grownBy wr (some g)) (fun _ i _ => n - (intOf i).toNat)
    case atStart => exact ⟨0, Nat.zero_le _, rfl, rfl, hB, fun i hi => absurd hi (by omega), ⟨rfl, rfl, rfl, Nat.le_refl _, fun _ _ _ => rfl⟩⟩
    case round =>
      obtain ⟨j, hj, rfl, rfl, hBw, hM, hG⟩ := hrel
      have HM := hide hM
      clear hM
      by_cases hlt : j < n
      · obtain ⟨⟨u0, d0⟩, ⟨u1, d1⟩, ⟨u2, d2⟩, ⟨u3, d3⟩, ⟨u4, d4⟩⟩ := hBw.cells (k := j) (by omega)
        have f0 := hBw.frozen (i := j * 5)
        have f1 := hBw.frozen (i := j * 5 + 1)
        have f2 := hBw.frozen (i := j * 5 + 2)
        have f3 := hBw.frozen (i := j * 5 + 3)
        have f4 := hBw.frozen (i := j * 5 + 4)
        go_wp2
        go_roundw
        case rel =>
          obtain ⟨s1, s2, s3⟩ := markIw_step hBw (by omega) (unhide HM) hG
          exact ⟨j + 1, by omega, by go_num, by go_num, s1, s2, s3⟩
        case measure => simp [intOf]; omega
      · obtain rfl : j = n := by omega
        go_wp2
        go_ret
        exact ⟨rfl, Or.inr ⟨g, rfl, unhide HM⟩, hG⟩
end Go.Proofs.YtikidpcgnmffcaaGreat
