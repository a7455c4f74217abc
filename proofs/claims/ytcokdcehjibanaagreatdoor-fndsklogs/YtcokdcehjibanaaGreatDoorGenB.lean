/- Proved here, for any program: a slice of structs of five ints that came in, as a list of items in memory. -/
import Derived.Test.YtcokdcehjibanaaGreatDoorGenA
import Derived.Deep.Slices
import Derived.Lib.SmallJoins
namespace Go.Proofs.YtcokdcehjibanaaGreatDoor
open Go.ChangeShapes Go.WideShapes Go.ChangeAt Go.RowKit Go.Deep
set_option linter.unusedVariables false

/-- An item as five numbers. -/
structure It where
  q : Int
  t : Int
  k : Int
  v : Int
  n : Int

/-- Each number is an int. -/
def It.ok64 (x : It) : Prop := (-9223372036854775808 ≤ x.q ∧ x.q ≤ 9223372036854775807) ∧ (-9223372036854775808 ≤ x.t ∧ x.t ≤ 9223372036854775807) ∧ (-9223372036854775808 ≤ x.k ∧ x.k ≤ 9223372036854775807) ∧ (-9223372036854775808 ≤ x.v ∧ x.v ≤ 9223372036854775807) ∧ (-9223372036854775808 ≤ x.n ∧ x.n ≤ 9223372036854775807)

/-- An item lies in five cells. -/
def ItAt (W : World) (g o : Nat) (x : It) : Prop :=
  W.cell? ⟨g, o, none⟩ = some (.int .i64 x.q) ∧ W.cell? ⟨g, o + 1, none⟩ = some (.int .i64 x.t) ∧ W.cell? ⟨g, o + 2, none⟩ = some (.int .i64 x.k) ∧ W.cell? ⟨g, o + 3, none⟩ = some (.int .i64 x.v) ∧ W.cell? ⟨g, o + 4, none⟩ = some (.int .i64 x.n)

theorem ItAt.get {W : World} {g o : Nat} {q t k v n : Int} (h : ItAt W g o ⟨q, t, k, v, n⟩) :
    W.cell? ⟨g, o, none⟩ = some (.int .i64 q) ∧ W.cell? ⟨g, o + 1, none⟩ = some (.int .i64 t) ∧ W.cell? ⟨g, o + 2, none⟩ = some (.int .i64 k) ∧ W.cell? ⟨g, o + 3, none⟩ = some (.int .i64 v) ∧ W.cell? ⟨g, o + 4, none⟩ = some (.int .i64 n) := h

/-- Items lie one behind the other. -/
def ItsAt (W : World) (g o : Nat) (xs : List It) : Prop := ∀ i x, xs[i]? = some x → ItAt W g (o + i * 5) x

/-- A slice's value holds items. -/
def Its (W : World) (a : Option Addr) (len : Nat) (xs : List It) : Prop :=
  xs.length = len ∧ len ≤ maxLen ∧ (len = 0 ∨ ∃ g o, a = some ⟨g, o, none⟩ ∧ ItsAt W g o xs)

theorem ItsAt.lt {W : World} {g o : Nat} {xs : List It} (h : ItsAt W g o xs) (hp : 0 < xs.length) : g < W.heap.size := by
  obtain ⟨h0, _⟩ := h 0 xs[0] (List.getElem?_eq_getElem hp)
  rcases Nat.lt_or_ge g W.heap.size with hl | hg
  · exact hl
  · simp [World.cell?, Array.getElem?_eq_none hg] at h0

theorem ItAt.below {W W' : World} {B g o : Nat} {x : It} (h : ItAt W g o x) (hb : Below B W W') (hg : g < B) : ItAt W' g o x := by
  obtain ⟨h0, h1, h2, h3, h4⟩ := h
  exact ⟨(hb.cell (p := ⟨g, _, none⟩) hg).trans h0, (hb.cell (p := ⟨g, _, none⟩) hg).trans h1, (hb.cell (p := ⟨g, _, none⟩) hg).trans h2, (hb.cell (p := ⟨g, _, none⟩) hg).trans h3, (hb.cell (p := ⟨g, _, none⟩) hg).trans h4⟩

theorem ItsAt.below {W W' : World} {B g o : Nat} {xs : List It} (h : ItsAt W g o xs) (hb : Below B W W') (hg : 0 < xs.length → g < B) : ItsAt W' g o xs := by
  intro i x hx
  have hlt : i < xs.length := (List.getElem?_eq_some_iff.1 hx).1
  exact (h i x hx).below hb (hg (by omega))

theorem Its.below {W W' : World} {a : Option Addr} {len : Nat} {xs : List It} (h : Its W a len xs) (hb : Below W.heap.size W W') : Its W' a len xs := by
  obtain ⟨h1, h2, h3⟩ := h
  refine ⟨h1, h2, ?_⟩
  rcases h3 with h3 | ⟨g, o, ha, hr⟩
  · exact Or.inl h3
  · exact Or.inr ⟨g, o, ha, hr.below hb (fun hp => hr.lt hp)⟩

/-- An item is stored into five cells. -/
def set5 (W : World) (g o : Nat) (x : It) : World :=
  ((((W.setCell ⟨g, o, none⟩ (.int .i64 x.q)).setCell ⟨g, o + 1, none⟩ (.int .i64 x.t)).setCell ⟨g, o + 2, none⟩ (.int .i64 x.k)).setCell ⟨g, o + 3, none⟩ (.int .i64 x.v)).setCell ⟨g, o + 4, none⟩ (.int .i64 x.n)

/-- A block of items, known whole. -/
def Blk (W : World) (g ty len : Nat) : Prop := ∃ cur, W.heap[g]? = some (.cells cur ty (0, 0)) ∧ cur.size = len * 5

theorem Blk.set {W : World} {g ty len i : Nat} (h : Blk W g ty len) (v : Value) : Blk (W.setCell ⟨g, i, none⟩ v) g ty len := by
  obtain ⟨cur, h1, h2⟩ := h
  exact ⟨_, Joins.block_setCell h1 v, by simp [h2]⟩
theorem Blk.below {W W' : World} {g ty len B : Nat} (h : Blk W g ty len) (hb : Below B W W') (hg : g < B) : Blk W' g ty len := by
  obtain ⟨cur, h1, h2⟩ := h
  exact ⟨cur, (hb.block g hg).trans h1, h2⟩
theorem Blk.lt {W : World} {g ty len : Nat} (h : Blk W g ty len) : g < W.heap.size := by
  obtain ⟨cur, h1, h2⟩ := h
  exact (Array.getElem?_eq_some_iff.1 h1).1
theorem Blk.cell {W : World} {g ty len i : Nat} (h : Blk W g ty len) (hi : i < len * 5) : ∃ u, W.cell? ⟨g, i, none⟩ = some u := by
  obtain ⟨cur, h1, h2⟩ := h
  exact ⟨_, (Joins.cell_of_block h1 i).trans (Array.getElem?_eq_getElem (by omega))⟩
theorem Blk.frozen {W : World} {g ty len i : Nat} (h : Blk W g ty len) : W.frozen? ⟨g, i, none⟩ = false := by
  obtain ⟨cur, h1, h2⟩ := h
  exact Joins.unfrozen_of_block h1 i
theorem Blk.cells {W : World} {g ty len k : Nat} (h : Blk W g ty len) (hk : k < len) :
    (∃ u, W.cell? ⟨g, k * 5, none⟩ = some u) ∧ (∃ u, W.cell? ⟨g, k * 5 + 1, none⟩ = some u) ∧ (∃ u, W.cell? ⟨g, k * 5 + 2, none⟩ = some u) ∧ (∃ u, W.cell? ⟨g, k * 5 + 3, none⟩ = some u) ∧ (∃ u, W.cell? ⟨g, k * 5 + 4, none⟩ = some u) :=
  ⟨h.cell (by omega), h.cell (by omega), h.cell (by omega), h.cell (by omega), h.cell (by omega)⟩

theorem Blk.set5 {W : World} {g ty len o : Nat} (h : Blk W g ty len) (x : It) : Blk (set5 W g o x) g ty len := ((((h.set _).set _).set _).set _).set _
theorem below_set5 {B g o : Nat} {W W' : World} {x : It} (h : Below B W W') (hg : B ≤ g) : Below B W (set5 W' g o x) := ((((h.setCell hg _).setCell hg _).setCell hg _).setCell hg _).setCell hg _

theorem cell_other {W : World} {g i j : Nat} {v : Value} (h : i ≠ j) : (W.setCell ⟨g, i, none⟩ v).cell? ⟨g, j, none⟩ = W.cell? ⟨g, j, none⟩ := World.cell?_setCell_other _ _ _ _ (by intro e; injection e with e1 e2; exact h e2)
theorem cell_this {W : World} {g ty len i : Nat} {v : Value} (h : Blk W g ty len) (hi : i < len * 5) : (W.setCell ⟨g, i, none⟩ v).cell? ⟨g, i, none⟩ = some v := by
  obtain ⟨u, hu⟩ := h.cell hi
  exact World.cell?_setCell_same _ _ _ hu

theorem set5_this {W : World} {g ty len k : Nat} (h : Blk W g ty len) (hk : k < len) (x : It) : ItAt (set5 W g (k * 5) x) g (k * 5) x := by
  unfold Go.Proofs.YtcokdcehjibanaaGreatDoor.set5
  refine ⟨?_, ?_, ?_, ?_, ?_⟩
  · rw [cell_other (by omega), cell_other (by omega), cell_other (by omega), cell_other (by omega), cell_this h (by omega)]
  · rw [cell_other (by omega), cell_other (by omega), cell_other (by omega), cell_this (h.set _) (by omega)]
  · rw [cell_other (by omega), cell_other (by omega), cell_this ((h.set _).set _) (by omega)]
  · rw [cell_other (by omega), cell_this (((h.set _).set _).set _) (by omega)]
  · rw [cell_this ((((h.set _).set _).set _).set _) (by omega)]
theorem set5_other {W : World} {g i k : Nat} {x y : It} (h : ItAt W g (i * 5) y) (hk : i ≠ k) : ItAt (set5 W g (k * 5) x) g (i * 5) y := by
  unfold Go.Proofs.YtcokdcehjibanaaGreatDoor.set5
  obtain ⟨h0, h1, h2, h3, h4⟩ := h
  refine ⟨?_, ?_, ?_, ?_, ?_⟩
  · rw [cell_other (by omega), cell_other (by omega), cell_other (by omega), cell_other (by omega), cell_other (by omega)]; exact h0
  · rw [cell_other (by omega), cell_other (by omega), cell_other (by omega), cell_other (by omega), cell_other (by omega)]; exact h1
  · rw [cell_other (by omega), cell_other (by omega), cell_other (by omega), cell_other (by omega), cell_other (by omega)]; exact h2
  · rw [cell_other (by omega), cell_other (by omega), cell_other (by omega), cell_other (by omega), cell_other (by omega)]; exact h3
  · rw [cell_other (by omega), cell_other (by omega), cell_other (by omega), cell_other (by omega), cell_other (by omega)]; exact h4

/-- The slice that is being filled. -/
def Fill (W : World) (g ty len : Nat) (ys : List It) : Prop := Blk W g ty len ∧ ∀ i x, ys[i]? = some x → ItAt W g (i * 5) x
theorem Fill.step {wr w' : World} {g ty len k : Nat} {xs : List It} {x : It} (h : Fill wr g ty len (xs.take k)) (hb : Below wr.heap.size wr w') (hk : k < len) (hx : xs[k]? = some x) : Fill (set5 w' g (k * 5) x) g ty len (xs.take (k + 1)) := by
  have hB := h.1.below hb h.1.lt
  refine ⟨hB.set5 x, fun i y hy => ?_⟩
  have hik : i < k + 1 := by
    rcases Nat.lt_or_ge i (k + 1) with h' | h'
    · exact h'
    · rw [List.getElem?_eq_none (by simp; omega)] at hy; cases hy
  rw [List.getElem?_take_of_lt hik] at hy
  by_cases he : i = k
  · subst he
    rw [hx] at hy
    cases hy
    exact set5_this hB hk x
  · refine set5_other ?_ he
    exact (h.2 i y (by rw [List.getElem?_take_of_lt (by omega)]; exact hy)).below hb h.1.lt
theorem Fill.start {w : World} {ty len : Nat} {C : Array Value} (hC : C.size = len * 5) (xs : List It) : Fill (w.alloc (.cells C ty)) w.heap.size ty len (xs.take 0) :=
  ⟨⟨C, by show (w.heap.push _)[w.heap.size]? = _; simp, hC⟩, fun i x h => by simp at h⟩
theorem Fill.done {W : World} {g ty len k : Nat} {xs : List It} (h : Fill W g ty len (xs.take k)) (hk : xs.length ≤ k) : ItsAt W g 0 xs := by
  intro i x hx
  rw [List.take_of_length_le hk] at h
  simpa using h.2 i x hx

section
variable {H : Type} {enc : TypeId × Value → H} {P : Program} {w : World} {base : Nat} {spare : Nat → Bool} {held : Bool}

theorem cells_five {a : Addr} {cs : List Value} {zs : List Int} (h : w.cells? base a 5 = some cs) (hz : cs = zs.map (Value.int .i64)) (hl : zs.length = 5) (hw : ∀ z ∈ zs, (Lit.int .i64 z).wf = true) :
    a.spot = none ∧ ∃ x : It, ItAt w a.block a.off x ∧ x.ok64 := by
  obtain ⟨z0, z1, z2, z3, z4, rfl⟩ := list5 hl
  subst hz
  obtain ⟨_, hlen, hc⟩ := World.cells?_some h
  have c0 := hc 0 (by omega)
  have c1 := hc 1 (by omega)
  have c2 := hc 2 (by omega)
  have c3 := hc 3 (by omega)
  have c4 := hc 4 (by omega)
  obtain ⟨g, o, sp⟩ := a
  have ha0 : (⟨g, o, sp⟩ : Addr).add 0 = ⟨g, o, sp⟩ := by simp [Addr.add]
  have hsp : sp = none := World.cell?_spot (w := w) (a := ⟨g, o, sp⟩) (v := .int .i64 z0) (by rw [← ha0]; simpa using c0)
  subst hsp
  refine ⟨rfl, ⟨z0, z1, z2, z3, z4⟩, ⟨by simpa [Addr.add] using c0, by simpa [Addr.add] using c1, by simpa [Addr.add] using c2, by simpa [Addr.add] using c3, by simpa [Addr.add] using c4⟩, ?_⟩
  have b0 := bnd64 (hw z0 (by simp))
  have b1 := bnd64 (hw z1 (by simp))
  have b2 := bnd64 (hw z2 (by simp))
  have b3 := bnd64 (hw z3 (by simp))
  have b4 := bnd64 (hw z4 (by simp))
  exact ⟨b0, b1, b2, b3, b4⟩

theorem open_its {t e : TypeId} {fs : Array Field} {a : Option Addr} {len cap : Nat} {d : DataW H} {p : List MemPlace} (ht : P.underlying t = some (.slice e)) (hs : P.underlying e = some (.struct fs))
    (hone : oneCellFields P fs = true) (hint : intFields P fs = true) (hk : fs.size = 5) (hC : P.cellsOf e = 5)
    (h : DataW.Trod enc P w base spare held t (.slice a len cap) d p) : ∃ xs : List It, Its w a len xs ∧ ∀ x ∈ xs, x.ok64 := by
  obtain ⟨fuel, hf⟩ := h
  rcases open_slice ht hf with ⟨hcs, _⟩ | ⟨a', len', cap', m, n, D, Pl, hcs, _, hl, hm, hmm, _, hx⟩
  · simp [Value.cells] at hcs
    obtain ⟨rfl, rfl, rfl⟩ := hcs
    exact ⟨[], ⟨rfl, Nat.zero_le _, Or.inl rfl⟩, by simp⟩
  · simp [Value.cells] at hcs
    obtain ⟨rfl, rfl, rfl⟩ := hcs
    have hlm : len ≤ m := by rw [hmm]; split <;> omega
    have hall : ∀ i, i < len → ∃ x : It, (i = 0 → a'.spot = none) ∧ ItAt w a'.block (a'.off + i * 5) x ∧ x.ok64 := by
      intro i hi
      obtain ⟨cs', h1, h2⟩ := hx i (by omega)
      rw [hC] at h1
      obtain ⟨zs, hz, hzl, hzw⟩ := trod_ints_agg hs hone hint (by rw [hC, hk]) h2
      obtain ⟨hsp, x, hxa, hxo⟩ := cells_five h1 hz (by rw [hzl, hk]) hzw
      have hb : (a'.add (i * 5)).block = a'.block ∧ (a'.add (i * 5)).off = a'.off + i * 5 := by
        unfold Addr.add
        split
        · exact ⟨rfl, by omega⟩
        · exact ⟨rfl, rfl⟩
      rw [hb.1, hb.2] at hxa
      refine ⟨x, fun h0 => ?_, hxa, hxo⟩
      subst h0
      simpa [Addr.add] using hsp
    by_cases h0 : len = 0
    · subst h0
      exact ⟨[], ⟨rfl, Nat.zero_le _, Or.inl rfl⟩, by simp⟩
    have hinh : Inhabited It := ⟨⟨0, 0, 0, 0, 0⟩⟩
    obtain ⟨f, hf'⟩ := choose_lt hall
    have hsp := (hf' 0 (by omega)).1 rfl
    refine ⟨(List.range len).map f, ⟨by simp, by omega, Or.inr ⟨a'.block, a'.off, by cases a'; simp_all, ?_⟩⟩, ?_⟩
    · intro i x hix
      simp only [List.getElem?_map, Option.map_eq_some_iff] at hix
      obtain ⟨j, hj, rfl⟩ := hix
      have hil : i < len := by
        rcases Nat.lt_or_ge i len with h' | h'
        · exact h'
        · rw [List.getElem?_eq_none (by simpa using h')] at hj; cases hj
      rw [List.getElem?_eq_getElem (by simpa using hil)] at hj
      simp at hj
      subst hj
      exact (hf' i hil).2.1
    · intro x hxm
      simp only [List.mem_map, List.mem_range] at hxm
      obtain ⟨i, hi, rfl⟩ := hxm
      exact (hf' i hi).2.2
end
end Go.Proofs.YtcokdcehjibanaaGreatDoor
