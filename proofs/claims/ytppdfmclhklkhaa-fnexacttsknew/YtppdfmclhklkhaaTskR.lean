/- Proved here: channels of a task as a list in memory: a queue of items, a mark, and whether it is held. -/
import Derived.Test.YtppdfmclhklkhaaGenT
import Derived.Test.YtppdfmclhklkhaaRwaItm
import Derived.Test.YtppdfmclhklkhaaOpSt
namespace Go.Proofs.Ytppdfmclhklkhaa
open Go.ChangeShapes Go.WideShapes Go.ChangeAt Go.RowKit Go.Deep
set_option linter.unusedVariables false

/-- A channel. -/
structure TiD where
  q : List IwR
  ma : Int
  hd : Bool
/-- A channel lies in its cells, its items in a block that is not below B; channels lie one behind the other; a slice's value holds channels. -/
def TiAt (W : World) (B g o : Nat) (x : TiD) : Prop := ∃ a len cap, W.cell? ⟨g, o, none⟩ = some (.slice a len cap) ∧ W.cell? ⟨g, o + 1, none⟩ = some (.int .i64 x.ma) ∧ W.cell? ⟨g, o + 2, none⟩ = some (.bool x.hd) ∧ IwRs W a len x.q ∧ ∀ g' o', 0 < len → a = some ⟨g', o', none⟩ → B ≤ g'
def TiRs (W : World) (B : Nat) (a : Option Addr) (len : Nat) (xs : List TiD) : Prop := xs.length = len ∧ len ≤ maxLen ∧ (len = 0 ∨ ∃ g o, a = some ⟨g, o, none⟩ ∧ B ≤ g ∧ ∀ i x, xs[i]? = some x → TiAt W B g (o + i * 3) x)
theorem cell_lt {W : World} {g o : Nat} {v : Value} (h : W.cell? ⟨g, o, none⟩ = some v) : g < W.heap.size := by
  rcases Nat.lt_or_ge g W.heap.size with hl | hg
  · exact hl
  · simp [World.cell?, Array.getElem?_eq_none hg] at h
theorem TiAt.lt {W : World} {B g o : Nat} {x : TiD} (h : TiAt W B g o x) : g < W.heap.size := by
  obtain ⟨a, len, cap, h0, _⟩ := h
  exact cell_lt h0
theorem TiAt.below {W W' : World} {B g o : Nat} {x : TiD} (h : TiAt W B g o x) (hb : Below W.heap.size W W') : TiAt W' B g o x := by
  have hg := h.lt
  obtain ⟨a, len, cap, h0, h1, h2, h3, h4⟩ := h
  exact ⟨a, len, cap, (hb.cell (p := ⟨g, _, none⟩) hg).trans h0, (hb.cell (p := ⟨g, _, none⟩) hg).trans h1, (hb.cell (p := ⟨g, _, none⟩) hg).trans h2, h3.below hb, h4⟩
theorem TiAt.less {W : World} {B B' g o : Nat} {x : TiD} (h : TiAt W B g o x) (hB : B' ≤ B) : TiAt W B' g o x := by
  obtain ⟨a, len, cap, h0, h1, h2, h3, h4⟩ := h
  exact ⟨a, len, cap, h0, h1, h2, h3, fun g' o' hp ha => Nat.le_trans hB (h4 g' o' hp ha)⟩
theorem TiAt.set {W : World} {B g o : Nat} {p : Addr} {v : Value} {x : TiD} (h : TiAt W B g o x) (hg : p.block ≠ g) (hp : p.block < B) : TiAt (W.setCell p v) B g o x := by
  obtain ⟨a, len, cap, h0, h1, h2, h3, h4⟩ := h
  exact ⟨a, len, cap, (cell_set_ne hg).trans h0, (cell_set_ne hg).trans h1, (cell_set_ne hg).trans h2, h3.grown (grown_one p v) (fun g' o' hn ha => by have := h4 g' o' hn ha; simp; omega), h4⟩
theorem TiRs.below {W W' : World} {B : Nat} {a : Option Addr} {len : Nat} {xs : List TiD} (h : TiRs W B a len xs) (hb : Below W.heap.size W W') : TiRs W' B a len xs := by
  obtain ⟨h1, h2, h3⟩ := h
  refine ⟨h1, h2, ?_⟩
  rcases h3 with h3 | ⟨g, o, ha, hB, hr⟩
  · exact Or.inl h3
  · exact Or.inr ⟨g, o, ha, hB, fun i x hx => (hr i x hx).below hb⟩
theorem TiRs.less {W : World} {B B' : Nat} {a : Option Addr} {len : Nat} {xs : List TiD} (h : TiRs W B a len xs) (hB : B' ≤ B) : TiRs W B' a len xs := by
  obtain ⟨h1, h2, h3⟩ := h
  refine ⟨h1, h2, ?_⟩
  rcases h3 with h3 | ⟨g, o, ha, hb, hr⟩
  · exact Or.inl h3
  · exact Or.inr ⟨g, o, ha, Nat.le_trans hB hb, fun i x hx => (hr i x hx).less hB⟩
theorem TiRs.set {W : World} {B : Nat} {p : Addr} {v : Value} {a : Option Addr} {len : Nat} {xs : List TiD} (h : TiRs W B a len xs) (hp : p.block < B) : TiRs (W.setCell p v) B a len xs := by
  obtain ⟨h1, h2, h3⟩ := h
  refine ⟨h1, h2, ?_⟩
  rcases h3 with h3 | ⟨g, o, ha, hb, hr⟩
  · exact Or.inl h3
  · exact Or.inr ⟨g, o, ha, hb, fun i x hx => (hr i x hx).set (by omega) hp⟩

/-- A block of channels, known whole; one that is being filled. -/
def setTi (W : World) (g o : Nat) (v0 v1 v2 : Value) : World := (((W.setCell ⟨g, o, none⟩ v0).setCell ⟨g, o + 1, none⟩ v1).setCell ⟨g, o + 2, none⟩ v2)
def BlkTi (W : World) (g ty len : Nat) : Prop := ∃ cur, W.heap[g]? = some (.cells cur ty (0, 0)) ∧ cur.size = len * 3
theorem BlkTi.set {W : World} {g ty len i : Nat} (h : BlkTi W g ty len) (v : Value) : BlkTi (W.setCell ⟨g, i, none⟩ v) g ty len := by
  obtain ⟨cur, h1, h2⟩ := h
  exact ⟨_, Joins.block_setCell h1 v, by simp [h2]⟩
theorem BlkTi.below {W W' : World} {g ty len B : Nat} (h : BlkTi W g ty len) (hb : Below B W W') (hg : g < B) : BlkTi W' g ty len := by
  obtain ⟨cur, h1, h2⟩ := h
  exact ⟨cur, (hb.block g hg).trans h1, h2⟩
theorem BlkTi.lt {W : World} {g ty len : Nat} (h : BlkTi W g ty len) : g < W.heap.size := by
  obtain ⟨cur, h1, h2⟩ := h
  exact (Array.getElem?_eq_some_iff.1 h1).1
theorem BlkTi.cell {W : World} {g ty len i : Nat} (h : BlkTi W g ty len) (hi : i < len * 3) : ∃ u, W.cell? ⟨g, i, none⟩ = some u := by
  obtain ⟨cur, h1, h2⟩ := h
  exact ⟨_, (Joins.cell_of_block h1 i).trans (Array.getElem?_eq_getElem (by omega))⟩
theorem BlkTi.frozen {W : World} {g ty len i : Nat} (h : BlkTi W g ty len) : W.frozen? ⟨g, i, none⟩ = false := by
  obtain ⟨cur, h1, h2⟩ := h
  exact Joins.unfrozen_of_block h1 i
theorem BlkTi.cells {W : World} {g ty len k : Nat} (h : BlkTi W g ty len) (hk : k < len) : (∃ u, W.cell? ⟨g, k * 3, none⟩ = some u) ∧ (∃ u, W.cell? ⟨g, k * 3 + 1, none⟩ = some u) ∧ (∃ u, W.cell? ⟨g, k * 3 + 2, none⟩ = some u) := ⟨h.cell (by omega), h.cell (by omega), h.cell (by omega)⟩
theorem Ti_this {W : World} {g ty len i : Nat} {v : Value} (h : BlkTi W g ty len) (hi : i < len * 3) : (W.setCell ⟨g, i, none⟩ v).cell? ⟨g, i, none⟩ = some v := by
  obtain ⟨u, hu⟩ := h.cell hi
  exact World.cell?_setCell_same _ _ _ hu
theorem Ti_other {W : World} {g i j : Nat} {v : Value} (h : i ≠ j) : (W.setCell ⟨g, i, none⟩ v).cell? ⟨g, j, none⟩ = W.cell? ⟨g, j, none⟩ := World.cell?_setCell_other _ _ _ _ (by intro e; injection e with e1 e2; exact h e2)
theorem IwRs.setT {W : World} {g o : Nat} {v : Value} {a : Option Addr} {len : Nat} {q : List IwR} (h : IwRs W a len q) (h4 : ∀ g' o', 0 < len → a = some ⟨g', o', none⟩ → g < g') : IwRs (W.setCell ⟨g, o, none⟩ v) a len q := h.grown (grown_one _ v) (fun g' o' hn ha => by have := h4 g' o' hn ha; simp; omega)
theorem setTi_this {W : World} {g ty len k : Nat} {x : TiD} {a : Option Addr} {l c : Nat} (h : BlkTi W g ty len) (hk : k < len) (hq : IwRs W a l x.q) (h4 : ∀ g' o', 0 < l → a = some ⟨g', o', none⟩ → g + 1 ≤ g') : TiAt (setTi W g (k * 3) (.slice a l c) (.int .i64 x.ma) (.bool x.hd)) (g + 1) g (k * 3) x := by
  unfold setTi
  refine ⟨a, l, c, ?_, ?_, ?_, ((hq.setT h4).setT h4).setT h4, h4⟩
  · rw [Ti_other (by omega), Ti_other (by omega), Ti_this h (by omega)]
  · rw [Ti_other (by omega), Ti_this (h.set _) (by omega)]
  · rw [Ti_this ((h.set _).set _) (by omega)]
theorem setTi_ne {W : World} {g i k : Nat} {y : TiD} {v0 v1 v2 : Value} (h : TiAt W (g + 1) g (i * 3) y) (hk : i ≠ k) : TiAt (setTi W g (k * 3) v0 v1 v2) (g + 1) g (i * 3) y := by
  unfold setTi
  obtain ⟨a, len, cap, h0, h1, h2, h3, h4⟩ := h
  refine ⟨a, len, cap, ?_, ?_, ?_, ((h3.setT h4).setT h4).setT h4, h4⟩
  · rw [Ti_other (by omega), Ti_other (by omega), Ti_other (by omega)]; exact h0
  · rw [Ti_other (by omega), Ti_other (by omega), Ti_other (by omega)]; exact h1
  · rw [Ti_other (by omega), Ti_other (by omega), Ti_other (by omega)]; exact h2
def FillTi (W : World) (g ty len : Nat) (ys : List TiD) : Prop := BlkTi W g ty len ∧ ∀ i x, ys[i]? = some x → TiAt W (g + 1) g (i * 3) x
theorem FillTi.step {wr w' : World} {g ty len k : Nat} {xs : List TiD} {x : TiD} {a : Option Addr} {l c : Nat} (h : FillTi wr g ty len (xs.take k)) (hb : Below wr.heap.size wr w') (hk : k < len) (hx : xs[k]? = some x) (hq : IwRs w' a l x.q) (h4 : ∀ g' o', 0 < l → a = some ⟨g', o', none⟩ → g + 1 ≤ g') : FillTi (setTi w' g (k * 3) (.slice a l c) (.int .i64 x.ma) (.bool x.hd)) g ty len (xs.take (k + 1)) := by
  have hB := h.1.below hb h.1.lt
  refine ⟨((hB.set _).set _).set _, fun i y hy => ?_⟩
  have hik : i < k + 1 := by
    rcases Nat.lt_or_ge i (k + 1) with h' | h'
    · exact h'
    · rw [List.getElem?_eq_none (by simp; omega)] at hy; cases hy
  rw [List.getElem?_take_of_lt hik] at hy
  by_cases he : i = k
  · subst he
    rw [hx] at hy
    cases hy
    exact setTi_this hB hk hq h4
  · refine setTi_ne ?_ he
    exact (h.2 i y (by rw [List.getElem?_take_of_lt (by omega)]; exact hy)).below hb
theorem FillTi.start {w : World} {ty len : Nat} {C : Array Value} (hC : C.size = len * 3) (xs : List TiD) : FillTi (w.alloc (.cells C ty)) w.heap.size ty len (xs.take 0) :=
  ⟨⟨C, by show (w.heap.push _)[w.heap.size]? = _; simp, hC⟩, fun i x h => by simp at h⟩
theorem FillTi.done {W : World} {g ty len k : Nat} {xs : List TiD} (h : FillTi W g ty len (xs.take k)) (hk : xs.length ≤ k) (hl : xs.length = len) (hm : len ≤ maxLen) : TiRs W g (some ⟨g, 0, none⟩) len xs := by
  refine ⟨hl, hm, Or.inr ⟨g, 0, rfl, Nat.le_refl _, fun i x hx => ?_⟩⟩
  rw [List.take_of_length_le hk] at h
  have := (h.2 i x hx).less (B' := g) (by omega)
  simpa using this
theorem below_setTi {B g o : Nat} {W W' : World} {v0 v1 v2 : Value} (h : Below B W W') (hg : B ≤ g) : Below B W (setTi W' g o v0 v1 v2) := ((h.setCell hg _).setCell hg _).setCell hg _

section
variable {H : Type} {enc : TypeId × Value → H} {P : Program} {w : World} {base : Nat} {spare : Nat → Bool} {held : Bool}
def TiD.ok64 (x : TiD) : Prop := (-9223372036854775808 ≤ x.ma ∧ x.ma ≤ 9223372036854775807) ∧ ∀ y ∈ x.q, y.ok64
theorem cellsTi {a : Addr} {cs : List Value} {tq : TypeId} {e : TypeId} (htq : P.underlying tq = some (.slice e)) (hk2 : flatK P 5 e = some [false, false, false, false, false]) (hC2 : P.cellsOf e = 5) (h : w.cells? base a 3 = some cs) (f0 : FitsT enc P w base spare held cs [.s tq, .i, .b]) : a.spot = none ∧ ∃ x : TiD, TiAt w 0 a.block a.off x ∧ x.ok64 := by
  obtain ⟨qa, ql, qc, d, p, r0, rfl, y0, f1⟩ := fitT_s f0
  obtain ⟨z1, r1, rfl, y1, f2⟩ := fitT_i f1
  obtain ⟨z2, r2, rfl, f3⟩ := fitT_b f2
  obtain rfl := fitT_nil f3
  clear f0 f1 f2 f3
  obtain ⟨q, hq, hqo⟩ := openIw htq hk2 hC2 y0
  obtain ⟨_, hlen, hc⟩ := World.cells?_some h
  have c0 := hc 0 (by omega)
  have c1 := hc 1 (by omega)
  have c2 := hc 2 (by omega)
  obtain ⟨g, o, sp⟩ := a
  have ha0 : (⟨g, o, sp⟩ : Addr).add 0 = ⟨g, o, sp⟩ := by simp [Addr.add]
  have hsp : sp = none := World.cell?_spot (w := w) (a := ⟨g, o, sp⟩) (v := .slice qa ql qc) (by rw [← ha0]; simpa using c0)
  subst hsp
  exact ⟨rfl, ⟨q, z1, z2⟩, ⟨qa, ql, qc, by simpa [Addr.add] using c0, by simpa [Addr.add] using c1, by simpa [Addr.add] using c2, hq, fun _ _ _ _ => Nat.zero_le _⟩, bnd64 y1, hqo⟩
theorem openTi {t e tq eq : TypeId} {a : Option Addr} {len cap : Nat} {d : DataW H} {p : List MemPlace} (ht : P.underlying t = some (.slice e)) (hk : flatT P 5 e = some [.s tq, .i, .b]) (hC : P.cellsOf e = 3) (htq : P.underlying tq = some (.slice eq)) (hk2 : flatK P 5 eq = some [false, false, false, false, false]) (hC2 : P.cellsOf eq = 5)
    (h : DataW.Trod enc P w base spare held t (.slice a len cap) d p) : ∃ xs : List TiD, TiRs w 0 a len xs ∧ ∀ x ∈ xs, x.ok64 := by
  obtain ⟨fuel, hf⟩ := h
  rcases open_slice ht hf with ⟨hcs, _⟩ | ⟨a', len', cap', m, n, D, Pl, hcs, _, hl, hm, hmm, _, hx⟩
  · simp [Value.cells] at hcs
    obtain ⟨rfl, rfl, rfl⟩ := hcs
    exact ⟨[], ⟨rfl, Nat.zero_le _, Or.inl rfl⟩, by simp⟩
  · simp [Value.cells] at hcs
    obtain ⟨rfl, rfl, rfl⟩ := hcs
    have hlm : len ≤ m := by rw [hmm]; split <;> omega
    have hall : ∀ i, i < len → ∃ x : TiD, (i = 0 → a'.spot = none) ∧ TiAt w 0 a'.block (a'.off + i * 3) x ∧ x.ok64 := by
      intro i hi
      obtain ⟨cs', h1, h2⟩ := hx i (by omega)
      rw [hC] at h1
      obtain ⟨hsp, x, hxa, hxo⟩ := cellsTi htq hk2 hC2 h1 (fitsT_trod 5 hk h2)
      have hb : (a'.add (i * 3)).block = a'.block ∧ (a'.add (i * 3)).off = a'.off + i * 3 := by
        unfold Addr.add
        split
        · exact ⟨rfl, by omega⟩
        · exact ⟨rfl, rfl⟩
      rw [hb.1, hb.2] at hxa
      refine ⟨x, fun h0 => ?_, hxa, hxo⟩
      subst h0
      simpa [Addr.add] using hsp
    by_cases h0 : len = 0
    · subst h0
      exact ⟨[], ⟨rfl, Nat.zero_le _, Or.inl rfl⟩, by simp⟩
    have hinh : Inhabited TiD := ⟨⟨[], 0, false⟩⟩
    obtain ⟨f, hf'⟩ := choose_lt hall
    have hsp := (hf' 0 (by omega)).1 rfl
    refine ⟨(List.range len).map f, ⟨by simp, by omega, Or.inr ⟨a'.block, a'.off, by cases a'; simp_all, Nat.zero_le _, ?_⟩⟩, ?_⟩
    · intro i x hix
      simp only [List.getElem?_map, Option.map_eq_some_iff] at hix
      obtain ⟨j, hj, rfl⟩ := hix
      have hil : i < len := by
        rcases Nat.lt_or_ge i len with h' | h'
        · exact h'
        · rw [List.getElem?_eq_none (by simpa using h')] at hj; cases hj
      rw [List.getElem?_eq_getElem (by simpa using hil)] at hj
      simp at hj
      subst hj
      exact (hf' i hil).2.1
    · intro x hxm
      simp only [List.mem_map, List.mem_range] at hxm
      obtain ⟨i, hi, rfl⟩ := hxm
      exact (hf' i hi).2.2
end

/-- What counting answers: none is left, or so many, and all is short. -/
def SzP (L : Int) (ok : Prop) (e : Ending) : Prop := ∃ r : Int, e = .returned (.int .i64 r) ∧ (r = -1 ∨ (0 ≤ r ∧ r ≤ L ∧ ok))
theorem szIw_p (a : Option Addr) (len cap : Nat) (L : Int) (w : World) (h : len ≤ maxLen) (h0 : 0 ≤ L) (hL : L ≤ 1048576) : Calls Try.prog 105 #[.slice a len cap, .int .i64 L] w fun e w' => SzP L (len ≤ 1048576) e ∧ w' = w := by
  by_cases h1 : (len : Int) ≤ L
  · exact (szIw_le a len cap L w hL h1).mono fun e w' ⟨he, hw⟩ => ⟨⟨_, he, Or.inr ⟨by omega, by omega, by omega⟩⟩, hw⟩
  · exact (szIw_gt a len cap L w h h0 hL h1).mono fun e w' ⟨he, hw⟩ => ⟨⟨_, he, Or.inl rfl⟩, hw⟩

theorem szTi_one (x : TiD) (a : Option Addr) (len cap : Nat) (L : Int) (w : World) (h : len ≤ maxLen) (h0 : 0 ≤ L) (hL : L ≤ 1048576) : Calls Try.prog 74 #[.agg #[.slice a len cap, .int .i64 x.ma, .bool x.hd], .int .i64 L] w fun e w' => SzP L (len ≤ 1048576) e ∧ Below w.heap.size w w' := by
  go_enter Try.func74, Try.ntmps74
  go_wp2_with fail
  refine (szIw_p a len cap L _ h h0 hL).mono ?_
  rintro e w1 ⟨⟨r, rfl, hr⟩, hw⟩
  obtain rfl := hw.symm
  clear hw
  rcases hr with rfl | ⟨h2, h3, h4⟩
  · go_wp2
    go_ret
    exact ⟨⟨_, rfl, Or.inl rfl⟩, (by repeat (first | (with_reducible refine bel_set ?_ (by first | (simp; done) | (simp; omega)) _) | (with_reducible refine bel_alloc ?_ _) | (with_reducible exact Below.refl _ _) | (with_reducible assumption) | (with_reducible refine bel_drew ?_) | (with_reducible refine bel_drewN ?_ _) | (with_reducible refine bel_trans ?_ (by with_reducible assumption))))⟩
  · go_wp2
    go_ret
    exact ⟨⟨_, rfl, Or.inr ⟨h2, h3, h4⟩⟩, (by repeat (first | (with_reducible refine bel_set ?_ (by first | (simp; done) | (simp; omega)) _) | (with_reducible refine bel_alloc ?_ _) | (with_reducible exact Below.refl _ _) | (with_reducible assumption) | (with_reducible refine bel_drew ?_) | (with_reducible refine bel_drewN ?_ _) | (with_reducible refine bel_trans ?_ (by with_reducible assumption))))⟩

set_option maxRecDepth 20000 in
set_option maxHeartbeats 1000000 in
theorem szTi_any (a : Option Addr) (len cap : Nat) (xs : List TiD) (L : Int) (w : World) (h : TiRs w 0 a len xs) (h0 : 0 ≤ L) (hL : L ≤ 1048576) : Calls Try.prog 46 #[.slice a len cap, .int .i64 L] w fun e w' => SzP L (len ≤ 1048576 ∧ ∀ x ∈ xs, x.q.length ≤ 1048576) e ∧ Below w.heap.size w w' := by
  have hm := h.2.1
  unfold maxLen at hm
  by_cases h1 : (len : Int) ≤ L
  · go_enter Try.func46, Try.ntmps46
    go_wp2
    go_loopw [1, 5] (fun lv i wr => ∃ (k : Nat) (l : Int), k ≤ len ∧ i = .int .i64 k ∧ lv = .int .i64 l ∧ 0 ≤ l ∧ l ≤ L ∧ (∀ i x, i < k → xs[i]? = some x → x.q.length ≤ 1048576) ∧ Below w.heap.size w wr) (fun _ i _ => len - (intOf i).toNat)
    case atStart => exact ⟨0, _, Nat.zero_le _, rfl, rfl, by omega, by omega, fun i x hi => absurd hi (by omega), Below.refl _ _⟩
    case round =>
      obtain ⟨k, l, hk, rfl, rfl, hl0, hl1, hq, hbw⟩ := hrel
      by_cases hlt : k < len
      · obtain ⟨hxl, hml, hx⟩ := h
        obtain ⟨g, o, rfl, _, hr⟩ := hx.resolve_left (by omega)
        obtain ⟨x, hxk⟩ : ∃ x, xs[k]? = some x := ⟨_, List.getElem?_eq_getElem (by omega)⟩
        have hX := hide hxk
        have HQ := hide hq
        obtain ⟨qa, ql, qc, c0, c1, c2, hqi, _⟩ := (hr k _ hxk).below hbw
        have hqm := hqi.2.1
        have hql := hqi.1
        clear hx hxk hr hq hqi
        go_wp2_with fail
        refine (szTi_one x qa ql qc l _ hqm hl0 (by omega)).mono ?_
        rintro e w1 ⟨⟨r, rfl, hr⟩, hb⟩
        rcases hr with rfl | ⟨h2, h3, h4⟩
        · go_wp2
          go_ret
          exact ⟨⟨_, rfl, Or.inl rfl⟩, (by repeat (first | (with_reducible refine bel_set ?_ (by first | (simp; done) | (simp; omega)) _) | (with_reducible refine bel_alloc ?_ _) | (with_reducible exact Below.refl _ _) | (with_reducible assumption) | (with_reducible refine bel_drew ?_) | (with_reducible refine bel_drewN ?_ _) | (with_reducible refine bel_trans ?_ (by with_reducible assumption))))⟩
        · go_wp2
          go_roundw
          case rel =>
            refine ⟨k + 1, r, by omega, by go_num, rfl, h2, by omega, fun i y hi hy => ?_, (by repeat (first | (with_reducible refine bel_set ?_ (by first | (simp; done) | (simp; omega)) _) | (with_reducible refine bel_alloc ?_ _) | (with_reducible exact Below.refl _ _) | (with_reducible assumption) | (with_reducible refine bel_drew ?_) | (with_reducible refine bel_drewN ?_ _) | (with_reducible refine bel_trans ?_ (by with_reducible assumption))))⟩
            by_cases he : i = k
            · subst he
              rw [unhide hX] at hy
              cases hy
              omega
            · exact unhide HQ i y (by omega) hy
          case measure => simp [intOf]; omega
      · go_wp2
        go_ret
        refine ⟨⟨_, rfl, Or.inr ⟨hl0, hl1, by omega, fun x hx => ?_⟩⟩, hbw⟩
        obtain ⟨i, hi, rfl⟩ := List.getElem_of_mem hx
        exact hq i _ (by have := h.1; omega) (List.getElem?_eq_getElem hi)
  · go_enter Try.func46, Try.ntmps46
    go_wp2
    go_ret
    exact ⟨⟨_, rfl, Or.inl rfl⟩, Below.refl _ _⟩

set_option maxRecDepth 20000 in
set_option maxHeartbeats 1000000 in
theorem toTi_one (x : TiD) (a : Option Addr) (len cap : Nat) (w : World) (h : IwRs w a len x.q) (hl : len ≤ 1048576) : Calls Try.prog 77 #[.agg #[.slice a len cap, .int .i64 x.ma, .bool x.hd]] w fun e w' => ∃ a', e = .returned (.agg #[.slice a' len len, .int .i64 x.ma, .bool x.hd]) ∧ IwRs w' a' len x.q ∧ (∀ g o, 0 < len → a' = some ⟨g, o, none⟩ → w.heap.size ≤ g) ∧ Below w.heap.size w w' := by
  go_enter Try.func77, Try.ntmps77
  go_wp2_with (go_at_call 106; refine (toIw_any a len cap x.q _ (h.below (by repeat (first | (with_reducible refine bel_set ?_ (by first | (simp; done) | (simp; omega)) _) | (with_reducible refine bel_alloc ?_ _) | (with_reducible exact Below.refl _ _) | (with_reducible assumption) | (with_reducible refine bel_drew ?_) | (with_reducible refine bel_drewN ?_ _) | (with_reducible refine bel_trans ?_ (by with_reducible assumption))))) hl).mono ?_; rintro e' w' ⟨a', rfl, H, R, ge, hb⟩; obtain ⟨hc, hf, hs⟩ := bcell hb; have hz0 : w.heap.size + 1 < w'.heap.size := (by have h9 := hb.size; (try simp at h9); omega); have hz1 : w.heap.size + 1 + 1 < w'.heap.size := (by have h9 := hb.size; (try simp at h9); omega))
  have ge' : ∀ g o, 0 < len → a' = some ⟨g, o, none⟩ → w.heap.size + 1 + 1 < g := fun g o hp ha => by have := ge g o hp ha; simp at this; omega
  refine bodyPost_ret (v := .agg #[.slice a' len len, .int .i64 x.ma, .bool x.hd]) (by simp (maxDischargeDepth := 9) [results, Try.results77, go_sem, *]) rfl ⟨a', rfl, ?_, fun g o hp ha => by have := ge' g o hp ha; omega, ?_⟩
  · repeat (first | (with_reducible exact H) | with_reducible refine IwRs.setT ?_ (fun g o hp ha => by have := ge' g o hp ha; (try simp); omega))
  · exact (by repeat (first | (with_reducible refine bel_set ?_ (by first | (simp; done) | (simp; omega)) _) | (with_reducible refine bel_alloc ?_ _) | (with_reducible exact Below.refl _ _) | (with_reducible assumption) | (with_reducible refine bel_drew ?_) | (with_reducible refine bel_drewN ?_ _) | (with_reducible refine bel_trans ?_ (by with_reducible assumption))))

theorem Try.infoTi : (Try.prog.info? 70).map (fun i => (i.zero, i.size, i.bytes)) = some (some (.agg #[.slice none 0 0, .int .i64 0, .bool false]), 3, 40) := by kernel_rfl
theorem mkTi (len : Nat) (hl : len ≤ 1048576) : ∃ C : Array Value, C.size = len * 3 ∧ ∀ w : World, (Instr.makeSlice 29 (.int .i64 (len : Int)) (.int .i64 (len : Int))).run Try.prog w = .ok (.slice (some ⟨w.heap.size, 0, none⟩) len len) (w.alloc (.cells C 70)) := by
  obtain ⟨i0, hi, hz0, hz1, hz2⟩ := info_parts Try.infoTi
  refine ⟨madeCells (Value.agg #[.slice none 0 0, .int .i64 0, .bool false]).cells (len * i0.size), by rw [size_madeCells, hz1], fun w => ?_⟩
  have h := run_make (P := Try.prog) w 29 70 i0 _ Try.underlying29 hi hz0 .i64 .i64 len len (by omega) (Int.le_refl _) (by rw [hz2]; omega) (by omega)
  simpa using h

set_option maxRecDepth 20000 in
set_option maxHeartbeats 1000000 in
theorem toTi_any (a : Option Addr) (len cap : Nat) (xs : List TiD) (w : World) (h : TiRs w 0 a len xs) (hl : len ≤ 1048576) (hq : ∀ x ∈ xs, x.q.length ≤ 1048576) : Calls Try.prog 48 #[.slice a len cap] w fun e w' => ∃ a', e = .returned (.slice a' len len) ∧ TiRs w' w.heap.size a' len xs ∧ Below w.heap.size w w' := by
  obtain ⟨C, hC, hmk⟩ := mkTi len hl
  go_enter Try.func48, Try.ntmps48
  go_wp2
  go_loopw [4] (fun i wr => ∃ k : Nat, k ≤ len ∧ i = .int .i64 k ∧ FillTi wr w.heap.size 70 len (xs.take k) ∧ Below w.heap.size w wr) (fun i _ => len - (intOf i).toNat)
  case atStart => exact ⟨0, Nat.zero_le _, rfl, FillTi.start hC xs, bel_one _ _⟩
  case round =>
    obtain ⟨k, hk, rfl, hF, hbw⟩ := hrel
    by_cases hlt : k < len
    · obtain ⟨hxl, hml, hx⟩ := h
      obtain ⟨g, o, rfl, _, hr⟩ := hx.resolve_left (by omega)
      obtain ⟨x, hxk⟩ : ∃ x, xs[k]? = some x := ⟨_, List.getElem?_eq_getElem (by omega)⟩
      have hX := hide hxk
      have hqk := hq x (List.mem_of_getElem? hxk)
      obtain ⟨qa, ql, qc, c0, c1, c2, hqi, _⟩ := (hr k _ hxk).below hbw
      have hql : ql ≤ 1048576 := by have := hqi.1; omega
      obtain ⟨⟨u0, d0⟩, ⟨u1, d1⟩, ⟨u2, d2⟩⟩ := hF.1.cells hlt
      have f0 := hF.1.frozen (i := k * 3)
      have f1 := hF.1.frozen (i := k * 3 + 1)
      have f2 := hF.1.frozen (i := k * 3 + 2)
      have hz := hF.1.lt
      clear hx hxk hr
      go_wp2_with (go_at_call 77; refine (toTi_one x qa ql qc _ hqi hql).mono ?_; rintro e w' ⟨a', rfl, H, ge, hb⟩; obtain ⟨hc, hf, hs⟩ := bcell hb)
      go_roundw
      case rel => exact ⟨k + 1, by omega, by go_num, hF.step hb hlt (unhide hX) H (fun g' o' hp ha => by have := ge g' o' hp ha; omega), below_setTi (bel_trans hbw hb) (Nat.le_refl _)⟩
      case measure => simp [intOf]; omega
    · go_wp2
      go_ret
      exact ⟨_, rfl, hF.done (by have := h.1; omega) h.1 h.2.1, hbw⟩

theorem eqTi_one (x : TiD) (a1 a2 : Option Addr) (len cap1 cap2 : Nat) (w : World) (h1 : IwRs w a1 len x.q) (h2 : IwRs w a2 len x.q) : Calls Try.prog 63 #[.agg #[.slice a1 len cap1, .int .i64 x.ma, .bool x.hd], .agg #[.slice a2 len cap2, .int .i64 x.ma, .bool x.hd]] w fun e w' => e = .returned (.bool true) ∧ Below w.heap.size w w' := by
  go_enter Try.func63, Try.ntmps63
  go_wp2_with (go_at_call 100; refine (eqIw_any a1 a2 len cap1 cap2 x.q _ (h1.below (by repeat (first | (with_reducible refine bel_set ?_ (by first | (simp; done) | (simp; omega)) _) | (with_reducible refine bel_alloc ?_ _) | (with_reducible exact Below.refl _ _) | (with_reducible assumption) | (with_reducible refine bel_drew ?_) | (with_reducible refine bel_drewN ?_ _) | (with_reducible refine bel_trans ?_ (by with_reducible assumption))))) (h2.below (by repeat (first | (with_reducible refine bel_set ?_ (by first | (simp; done) | (simp; omega)) _) | (with_reducible refine bel_alloc ?_ _) | (with_reducible exact Below.refl _ _) | (with_reducible assumption) | (with_reducible refine bel_drew ?_) | (with_reducible refine bel_drewN ?_ _) | (with_reducible refine bel_trans ?_ (by with_reducible assumption)))))).mono ?_; rintro e' w' ⟨rfl, hb⟩; obtain ⟨hc, hf, hs⟩ := bcell hb; have hz0 : w.heap.size < w'.heap.size := (by have h9 := hb.size; (try simp at h9); omega); have hz1 : w.heap.size + 1 < w'.heap.size := (by have h9 := hb.size; (try simp at h9); omega))
  go_ret
  exact ⟨rfl, (by repeat (first | (with_reducible refine bel_set ?_ (by first | (simp; done) | (simp; omega)) _) | (with_reducible refine bel_alloc ?_ _) | (with_reducible exact Below.refl _ _) | (with_reducible assumption) | (with_reducible refine bel_drew ?_) | (with_reducible refine bel_drewN ?_ _) | (with_reducible refine bel_trans ?_ (by with_reducible assumption))))⟩

theorem hd_3_3 {b0 b1 o0x0 o0x1 o0x2 o1x0 o1x1 o1x2 : Nat} {v0x0 v0x1 v0x2 v1x0 v1x1 v1x2 : Value} {W W' : World} (h : ((W.cell? ⟨b0, o0x0, none⟩ = some (v0x0) ∧ W.cell? ⟨b0, o0x1, none⟩ = some (v0x1) ∧ W.cell? ⟨b0, o0x2, none⟩ = some (v0x2) ∧ W.cell? ⟨b1, o1x0, none⟩ = some (v1x0) ∧ W.cell? ⟨b1, o1x1, none⟩ = some (v1x1) ∧ W.cell? ⟨b1, o1x2, none⟩ = some (v1x2)) ∧ b0 < W.heap.size ∧ b1 < W.heap.size)) (hb : Below W.heap.size W W') : ((W'.cell? ⟨b0, o0x0, none⟩ = some (v0x0) ∧ W'.cell? ⟨b0, o0x1, none⟩ = some (v0x1) ∧ W'.cell? ⟨b0, o0x2, none⟩ = some (v0x2) ∧ W'.cell? ⟨b1, o1x0, none⟩ = some (v1x0) ∧ W'.cell? ⟨b1, o1x1, none⟩ = some (v1x1) ∧ W'.cell? ⟨b1, o1x2, none⟩ = some (v1x2)) ∧ b0 < W'.heap.size ∧ b1 < W'.heap.size) := by
  obtain ⟨⟨h0, h1, h2, h3, h4, h5⟩, s0, s1⟩ := h
  refine ⟨⟨?_, ?_, ?_, ?_, ?_, ?_⟩, Nat.lt_of_lt_of_le s0 hb.size, Nat.lt_of_lt_of_le s1 hb.size⟩
  · rw [hb.cell s0]; exact h0
  · rw [hb.cell s0]; exact h1
  · rw [hb.cell s0]; exact h2
  · rw [hb.cell s1]; exact h3
  · rw [hb.cell s1]; exact h4
  · rw [hb.cell s1]; exact h5

theorem hd_3_3_set {b0 b1 o0x0 o0x1 o0x2 o1x0 o1x1 o1x2 : Nat} {v0x0 v0x1 v0x2 v1x0 v1x1 v1x2 : Value} {W : World} {p : Addr} (h : ((W.cell? ⟨b0, o0x0, none⟩ = some (v0x0) ∧ W.cell? ⟨b0, o0x1, none⟩ = some (v0x1) ∧ W.cell? ⟨b0, o0x2, none⟩ = some (v0x2) ∧ W.cell? ⟨b1, o1x0, none⟩ = some (v1x0) ∧ W.cell? ⟨b1, o1x1, none⟩ = some (v1x1) ∧ W.cell? ⟨b1, o1x2, none⟩ = some (v1x2)) ∧ b0 < W.heap.size ∧ b1 < W.heap.size)) (p0 : p.block ≠ b0) (p1 : p.block ≠ b1) (u : Value) : (((W.setCell p u).cell? ⟨b0, o0x0, none⟩ = some (v0x0) ∧ (W.setCell p u).cell? ⟨b0, o0x1, none⟩ = some (v0x1) ∧ (W.setCell p u).cell? ⟨b0, o0x2, none⟩ = some (v0x2) ∧ (W.setCell p u).cell? ⟨b1, o1x0, none⟩ = some (v1x0) ∧ (W.setCell p u).cell? ⟨b1, o1x1, none⟩ = some (v1x1) ∧ (W.setCell p u).cell? ⟨b1, o1x2, none⟩ = some (v1x2)) ∧ b0 < (W.setCell p u).heap.size ∧ b1 < (W.setCell p u).heap.size) := by
  obtain ⟨⟨h0, h1, h2, h3, h4, h5⟩, s0, s1⟩ := h
  have hb : W.heap.size ≤ (W.setCell p u).heap.size := by simp [World.setCell]
  refine ⟨⟨?_, ?_, ?_, ?_, ?_, ?_⟩, Nat.lt_of_lt_of_le s0 hb, Nat.lt_of_lt_of_le s1 hb⟩
  · rw [cell_set_ne p0]; exact h0
  · rw [cell_set_ne p0]; exact h1
  · rw [cell_set_ne p0]; exact h2
  · rw [cell_set_ne p1]; exact h3
  · rw [cell_set_ne p1]; exact h4
  · rw [cell_set_ne p1]; exact h5

theorem hd_3_3_re {b0 b1 o0x0 o0x1 o0x2 o1x0 o1x1 o1x2 : Nat} {v0x0 v0x1 v0x2 v1x0 v1x1 v1x2 : Value} {W : World} {o o' : Obj} (h : (((W.alloc o).cell? ⟨b0, o0x0, none⟩ = some (v0x0) ∧ (W.alloc o).cell? ⟨b0, o0x1, none⟩ = some (v0x1) ∧ (W.alloc o).cell? ⟨b0, o0x2, none⟩ = some (v0x2) ∧ (W.alloc o).cell? ⟨b1, o1x0, none⟩ = some (v1x0) ∧ (W.alloc o).cell? ⟨b1, o1x1, none⟩ = some (v1x1) ∧ (W.alloc o).cell? ⟨b1, o1x2, none⟩ = some (v1x2)) ∧ b0 < (W.alloc o).heap.size ∧ b1 < (W.alloc o).heap.size)) (p0 : b0 < W.heap.size) (p1 : b1 < W.heap.size) : (((W.alloc o').cell? ⟨b0, o0x0, none⟩ = some (v0x0) ∧ (W.alloc o').cell? ⟨b0, o0x1, none⟩ = some (v0x1) ∧ (W.alloc o').cell? ⟨b0, o0x2, none⟩ = some (v0x2) ∧ (W.alloc o').cell? ⟨b1, o1x0, none⟩ = some (v1x0) ∧ (W.alloc o').cell? ⟨b1, o1x1, none⟩ = some (v1x1) ∧ (W.alloc o').cell? ⟨b1, o1x2, none⟩ = some (v1x2)) ∧ b0 < (W.alloc o').heap.size ∧ b1 < (W.alloc o').heap.size) := by
  obtain ⟨⟨h0, h1, h2, h3, h4, h5⟩, s0, s1⟩ := h
  have hb : Below W.heap.size (W.alloc o) (W.alloc o') := bel_re W o o'
  refine ⟨⟨?_, ?_, ?_, ?_, ?_, ?_⟩, Nat.lt_of_lt_of_le s0 hb.size, Nat.lt_of_lt_of_le s1 hb.size⟩
  · rw [hb.cell p0]; exact h0
  · rw [hb.cell p0]; exact h1
  · rw [hb.cell p0]; exact h2
  · rw [hb.cell p1]; exact h3
  · rw [hb.cell p1]; exact h4
  · rw [hb.cell p1]; exact h5

set_option maxRecDepth 20000 in
set_option maxHeartbeats 1000000 in
theorem eqTi_any (B1 B2 : Nat) (a1 a2 : Option Addr) (len cap1 cap2 : Nat) (xs : List TiD) (w : World) (h1 : TiRs w B1 a1 len xs) (h2 : TiRs w B2 a2 len xs) : Calls Try.prog 37 #[.slice a1 len cap1, .slice a2 len cap2] w fun e w' => e = .returned (.bool true) ∧ Below w.heap.size w w' := by
  have hm := h1.2.1
  unfold maxLen at hm
  go_enter Try.func37, Try.ntmps37
  go_wp2
  go_loopw [5] (fun i wr => ∃ k : Nat, k ≤ len ∧ i = .int .i64 k ∧ Below w.heap.size w wr) (fun i _ => len - (intOf i).toNat)
  case atStart => exact ⟨0, Nat.zero_le _, rfl, Below.refl _ _⟩
  case round =>
    obtain ⟨k, hk, rfl, hbw⟩ := hrel
    by_cases hlt : k < len
    · obtain ⟨hl1, _, hx1⟩ := h1
      obtain ⟨hl2, _, hx2⟩ := h2
      obtain ⟨g1, o1, rfl, _, hr1⟩ := hx1.resolve_left (by omega)
      obtain ⟨g2, o2, rfl, _, hr2⟩ := hx2.resolve_left (by omega)
      obtain ⟨x, hxk⟩ : ∃ x, xs[k]? = some x := ⟨_, List.getElem?_eq_getElem (by omega)⟩
      have t1 := (hr1 k _ hxk).below hbw
      have t2 := (hr2 k _ hxk).below hbw
      have hs1 := t1.lt
      have hs2 := t2.lt
      obtain ⟨qa1, ql, qc1, c0, c1, c2, q1, _⟩ := t1
      obtain ⟨qa2, ql2, qc2, d0, d1, d2, q2, _⟩ := t2
      obtain rfl : ql2 = ql := by have e1 := q1.1; have e2 := q2.1; omega
      have hS : ((wr.cell? ⟨g1, o1 + k * 3, none⟩ = some (.slice qa1 ql2 qc1) ∧ wr.cell? ⟨g1, o1 + k * 3 + 1, none⟩ = some (.int .i64 x.ma) ∧ wr.cell? ⟨g1, o1 + k * 3 + 2, none⟩ = some (.bool x.hd) ∧ wr.cell? ⟨g2, o2 + k * 3, none⟩ = some (.slice qa2 ql2 qc2) ∧ wr.cell? ⟨g2, o2 + k * 3 + 1, none⟩ = some (.int .i64 x.ma) ∧ wr.cell? ⟨g2, o2 + k * 3 + 2, none⟩ = some (.bool x.hd)) ∧ g1 < wr.heap.size ∧ g2 < wr.heap.size) := ⟨⟨c0, c1, c2, d0, d1, d2⟩, hs1, hs2⟩
      clear hx1 hx2 hxk hr1 hr2
      go_wp2
      go_region_held3 (fun W => ((W.cell? ⟨g1, o1 + k * 3, none⟩ = some (.slice qa1 ql2 qc1) ∧ W.cell? ⟨g1, o1 + k * 3 + 1, none⟩ = some (.int .i64 x.ma) ∧ W.cell? ⟨g1, o1 + k * 3 + 2, none⟩ = some (.bool x.hd) ∧ W.cell? ⟨g2, o2 + k * 3, none⟩ = some (.slice qa2 ql2 qc2) ∧ W.cell? ⟨g2, o2 + k * 3 + 1, none⟩ = some (.int .i64 x.ma) ∧ W.cell? ⟨g2, o2 + k * 3 + 2, none⟩ = some (.bool x.hd)) ∧ g1 < W.heap.size ∧ g2 < W.heap.size)) ((first | ((repeat (first | (with_reducible assumption) | (with_reducible refine hd_3_3 ?_ (by with_reducible assumption)) | (with_reducible refine hd_3_3 ?_ (bel_drew (Below.refl _ _))) | (with_reducible exact hd_3_3_re (by with_reducible assumption) (by first | omega | (simp; done) | (simp; omega)) (by first | omega | (simp; done) | (simp; omega))) | (with_reducible refine hd_3_3 ?_ (bel_one _ _)) | (with_reducible refine hd_3_3_set ?_ (by first | omega | (simp; done) | (simp; omega)) (by first | omega | (simp; done) | (simp; omega)) _))); done) | (refine ⟨⟨?_, ?_, ?_, ?_, ?_, ?_⟩, ?_, ?_⟩ <;> first | (go_keep; done) | (simp; done) | (simp; omega) | omega)))
        (first
        | (go_at_call 63; refine (eqTi_one x qa1 qa2 ql2 qc1 qc2 _ (q1.below (by repeat (first | (with_reducible exact Below.refl _ _) | (with_reducible assumption) | (with_reducible refine bel_set ?_ (by first | (simp; done) | (simp; omega)) _) | (with_reducible refine bel_alloc ?_ _) | (with_reducible refine bel_drew ?_) | (with_reducible refine bel_drewN ?_ _) | (with_reducible refine bel_trans ?_ (by with_reducible assumption))))) (q2.below (by repeat (first | (with_reducible exact Below.refl _ _) | (with_reducible assumption) | (with_reducible refine bel_set ?_ (by first | (simp; done) | (simp; omega)) _) | (with_reducible refine bel_alloc ?_ _) | (with_reducible refine bel_drew ?_) | (with_reducible refine bel_drewN ?_ _) | (with_reducible refine bel_trans ?_ (by with_reducible assumption)))))).mono ?_; rintro e w' ⟨rfl, hb⟩; obtain ⟨hc, hf, hs⟩ := bcell hb))
      go_wp2
      go_roundw
      case rel => exact ⟨k + 1, by omega, by go_num, (by repeat (first | (with_reducible refine bel_set ?_ (by first | (simp; done) | (simp; omega)) _) | (with_reducible refine bel_alloc ?_ _) | (with_reducible exact Below.refl _ _) | (with_reducible assumption) | (with_reducible refine bel_drew ?_) | (with_reducible refine bel_drewN ?_ _) | (with_reducible refine bel_trans ?_ (by with_reducible assumption))))⟩
      case measure => simp [intOf]; omega
    · go_wp2
      go_ret
      exact ⟨rfl, hbw⟩
end Go.Proofs.Ytppdfmclhklkhaa
