/- Laid together: what the claim needs of the texts that were built one by one. -/
import Derived.Test.YtbjhpiannjepkaaGreatPsBase
import Derived.Test.YtbjhpiannjepkaaGreatPsRwInt
import Derived.Test.YtbjhpiannjepkaaGreatPsRwBoo
import Derived.Deep.RegionHeld3
namespace Go.Proofs.YtbjhpiannjepkaaGreat
open Go.ChangeShapes Go.WideShapes Go.ChangeAt Go.RowKit Go.Deep
set_option linter.unusedVariables false

/-- Such rows, in a block that is not below B. -/
def OrB (W : World) (B : Nat) (a : Option Addr) (n : Nat) (xs : List OrR) : Prop := OrRs W a n xs ∧ ∀ g o, 0 < n → a = some ⟨g, o, none⟩ → B ≤ g

theorem OrB.below {W W' : World} {B : Nat} {a : Option Addr} {n : Nat} {xs : List OrR} (h : OrB W B a n xs) (hb : Below W.heap.size W W') : OrB W' B a n xs := ⟨h.1.below hb, h.2⟩

theorem OrB.less {W : World} {B B' : Nat} {a : Option Addr} {n : Nat} {xs : List OrR} (h : OrB W B a n xs) (hB : B' ≤ B) : OrB W B' a n xs := ⟨h.1, fun g o hn ha => Nat.le_trans hB (h.2 g o hn ha)⟩

theorem OrB.len {W : World} {B : Nat} {a : Option Addr} {n : Nat} {xs : List OrR} (h : OrB W B a n xs) : xs.length = n ∧ n ≤ maxLen := ⟨h.1.1, h.1.2.1⟩

theorem OrB.set {W : World} {B : Nat} {p : Addr} {v : Value} {a : Option Addr} {n : Nat} {xs : List OrR} (h : OrB W B a n xs) (hp : p.block < B) : OrB (W.setCell p v) B a n xs := ⟨h.1.grown (grown_one p v) (fun g o hn ha => by have := h.2 g o hn ha; simp; omega), h.2⟩

/-- Such rows, in a block that is not below B. -/
def InB (W : World) (B : Nat) (a : Option Addr) (n : Nat) (xs : List Int) : Prop := InRs W a n xs ∧ ∀ g o, 0 < n → a = some ⟨g, o, none⟩ → B ≤ g

theorem InB.below {W W' : World} {B : Nat} {a : Option Addr} {n : Nat} {xs : List Int} (h : InB W B a n xs) (hb : Below W.heap.size W W') : InB W' B a n xs := ⟨h.1.below hb, h.2⟩

theorem InB.less {W : World} {B B' : Nat} {a : Option Addr} {n : Nat} {xs : List Int} (h : InB W B a n xs) (hB : B' ≤ B) : InB W B' a n xs := ⟨h.1, fun g o hn ha => Nat.le_trans hB (h.2 g o hn ha)⟩

theorem InB.len {W : World} {B : Nat} {a : Option Addr} {n : Nat} {xs : List Int} (h : InB W B a n xs) : xs.length = n ∧ n ≤ maxLen := ⟨h.1.1, h.1.2.1⟩

theorem InB.set {W : World} {B : Nat} {p : Addr} {v : Value} {a : Option Addr} {n : Nat} {xs : List Int} (h : InB W B a n xs) (hp : p.block < B) : InB (W.setCell p v) B a n xs := ⟨h.1.keepB (S := fun b => b = p.block) (Kept.set (S := fun b => b = p.block) (p := p) (Kept.refl _ W) rfl v) (fun g o hn ha => by have := h.2 g o hn ha; omega), h.2⟩

/-- Such rows, in a block that is not below B. -/
def BoB (W : World) (B : Nat) (a : Option Addr) (n : Nat) (xs : List Bool) : Prop := BoRs W a n xs ∧ ∀ g o, 0 < n → a = some ⟨g, o, none⟩ → B ≤ g

theorem BoB.below {W W' : World} {B : Nat} {a : Option Addr} {n : Nat} {xs : List Bool} (h : BoB W B a n xs) (hb : Below W.heap.size W W') : BoB W' B a n xs := ⟨h.1.below hb, h.2⟩

theorem BoB.less {W : World} {B B' : Nat} {a : Option Addr} {n : Nat} {xs : List Bool} (h : BoB W B a n xs) (hB : B' ≤ B) : BoB W B' a n xs := ⟨h.1, fun g o hn ha => Nat.le_trans hB (h.2 g o hn ha)⟩

theorem BoB.len {W : World} {B : Nat} {a : Option Addr} {n : Nat} {xs : List Bool} (h : BoB W B a n xs) : xs.length = n ∧ n ≤ maxLen := ⟨h.1.1, h.1.2.1⟩

theorem BoB.set {W : World} {B : Nat} {p : Addr} {v : Value} {a : Option Addr} {n : Nat} {xs : List Bool} (h : BoB W B a n xs) (hp : p.block < B) : BoB (W.setCell p v) B a n xs := ⟨h.1.keepB (S := fun b => b = p.block) (Kept.set (S := fun b => b = p.block) (p := p) (Kept.refl _ W) rfl v) (fun g o hn ha => by have := h.2 g o hn ha; omega), h.2⟩

theorem eqIn_b (B1 B2 : Nat) (a1 a2 : Option Addr) (n c1 c2 : Nat) (xs : List Int) (w : World) (h1 : InB w B1 a1 n xs) (h2 : InB w B2 a2 n xs) : Calls Tryz.prog 32 #[.slice a1 n c1, .slice a2 n c2] w fun e w' => e = .returned (.bool true) ∧ Below w.heap.size w w' := eqIn_any a1 a2 n c1 c2 xs w h1.1 h2.1

theorem eqBo_b (B1 B2 : Nat) (a1 a2 : Option Addr) (n c1 c2 : Nat) (xs : List Bool) (w : World) (h1 : BoB w B1 a1 n xs) (h2 : BoB w B2 a2 n xs) : Calls Tryz.prog 33 #[.slice a1 n c1, .slice a2 n c2] w fun e w' => e = .returned (.bool true) ∧ Below w.heap.size w w' := eqBo_any a1 a2 n c1 c2 xs w h1.1 h2.1

theorem szIn_p (a : Option Addr) (len cap : Nat) (L : Int) (w : World) (h : len ≤ maxLen) (h0 : 0 ≤ L) (hL : L ≤ 1048576) : Calls Tryz.prog 15 #[.slice a len cap, .int .i64 L] w fun e w' => SzP L (len ≤ 1048576) e ∧ w' = w := by
  unfold maxLen at h
  by_cases h1 : (len : Int) ≤ L
  · go_enter Tryz.func15, Tryz.ntmps15
    go_wp2
    go_ret
    exact ⟨⟨_, rfl, Or.inr ⟨by omega, by omega, by omega⟩⟩, rfl⟩
  · go_enter Tryz.func15, Tryz.ntmps15
    go_wp2
    go_ret
    exact ⟨⟨_, rfl, Or.inl rfl⟩, rfl⟩

theorem szBo_p (a : Option Addr) (len cap : Nat) (L : Int) (w : World) (h : len ≤ maxLen) (h0 : 0 ≤ L) (hL : L ≤ 1048576) : Calls Tryz.prog 16 #[.slice a len cap, .int .i64 L] w fun e w' => SzP L (len ≤ 1048576) e ∧ w' = w := by
  unfold maxLen at h
  by_cases h1 : (len : Int) ≤ L
  · go_enter Tryz.func16, Tryz.ntmps16
    go_wp2
    go_ret
    exact ⟨⟨_, rfl, Or.inr ⟨by omega, by omega, by omega⟩⟩, rfl⟩
  · go_enter Tryz.func16, Tryz.ntmps16
    go_wp2
    go_ret
    exact ⟨⟨_, rfl, Or.inl rfl⟩, rfl⟩

theorem szOr_p (a : Option Addr) (len cap : Nat) (L : Int) (w : World) (h : len ≤ maxLen) (h0 : 0 ≤ L) (hL : L ≤ 1048576) : Calls Tryz.prog 83 #[.slice a len cap, .int .i64 L] w fun e w' => SzP L (len ≤ 1048576) e ∧ w' = w := by
  by_cases h1 : (len : Int) ≤ L
  · exact (szOr_le a len cap L w hL h1).mono fun e w' ⟨he, hw⟩ => ⟨⟨_, he, Or.inr ⟨by omega, by omega, by omega⟩⟩, hw⟩
  · exact (szOr_gt a len cap L w h h0 hL h1).mono fun e w' ⟨he, hw⟩ => ⟨⟨_, he, Or.inl rfl⟩, hw⟩

theorem szSt_p (m : Int) (a : Option Addr) (len cap : Nat) (L : Int) (w : World) (h : len ≤ maxLen) (h0 : 0 ≤ L) (hL : L ≤ 1048576) : Calls Tryz.prog 66 #[.agg #[.int .i64 m, .slice a len cap], .int .i64 L] w fun e w' => SzP L (len ≤ 1048576) e ∧ Below w.heap.size w w' := by
  go_enter Tryz.func66, Tryz.ntmps66
  go_wp2_with fail
  refine (szOr_p a len cap L _ h h0 hL).mono ?_
  rintro e w1 ⟨⟨r, rfl, hr⟩, hw⟩
  obtain rfl := hw.symm
  clear hw
  rcases hr with rfl | ⟨h2, h3, h4⟩
  · go_wp2
    go_ret
    exact ⟨⟨_, rfl, Or.inl rfl⟩, (belB)⟩
  · go_wp2
    go_ret
    exact ⟨⟨_, rfl, Or.inr ⟨h2, h3, h4⟩⟩, (belB)⟩

theorem eqSt_b (B1 B2 : Nat) (m : Int) (a1 a2 : Option Addr) (n c1 c2 : Nat) (xs : List OrR) (w : World) (h1 : OrB w B1 a1 n xs) (h2 : OrB w B2 a2 n xs) : Calls Tryz.prog 82 #[.agg #[.int .i64 m, .slice a1 n c1], .agg #[.int .i64 m, .slice a2 n c2]] w fun e w' => e = .returned (.bool true) ∧ Below w.heap.size w w' := eqSt_any m a1 a2 n c1 c2 xs w h1.1 h2.1

/-- What is kept of a task. -/
structure SnD where
  ma : Int
  rows : List OrR
  marks : List Int

def SnAt (W : World) (B g o : Nat) (x : SnD) : Prop := ∃ (a1 : Option Addr) (l1 c1 : Nat) (a2 : Option Addr) (l2 c2 : Nat), (W.cell? ⟨g, o, none⟩ = some (.int .i64 x.ma) ∧ W.cell? ⟨g, o + 1, none⟩ = some (.slice a1 l1 c1) ∧ W.cell? ⟨g, o + 2, none⟩ = some (.slice a2 l2 c2)) ∧ OrB W B a1 l1 x.rows ∧ InB W B a2 l2 x.marks

def SnB (W : World) (B : Nat) (a : Option Addr) (len : Nat) (xs : List SnD) : Prop := xs.length = len ∧ len ≤ maxLen ∧ (len = 0 ∨ ∃ g o, a = some ⟨g, o, none⟩ ∧ B ≤ g ∧ ∀ (i : Nat) (x : SnD), xs[i]? = some x → SnAt W B g (o + i * 3) x)

theorem SnAt.lt {W : World} {B g o : Nat} {x : SnD} (h : SnAt W B g o x) : g < W.heap.size := by
  obtain ⟨a1, l1, c1, a2, l2, c2, ⟨h0, h1, h2⟩, k1, k2⟩ := h
  exact cell_lt h0

theorem SnAt.below {W W' : World} {B g o : Nat} {x : SnD} (h : SnAt W B g o x) (hb : Below W.heap.size W W') : SnAt W' B g o x := by
  have hg := h.lt
  obtain ⟨a1, l1, c1, a2, l2, c2, ⟨h0, h1, h2⟩, k1, k2⟩ := h
  exact ⟨a1, l1, c1, a2, l2, c2, ⟨(hb.cell (p := ⟨g, _, none⟩) hg).trans h0, (hb.cell (p := ⟨g, _, none⟩) hg).trans h1, (hb.cell (p := ⟨g, _, none⟩) hg).trans h2⟩, k1.below hb, k2.below hb⟩

theorem SnAt.less {W : World} {B B' g o : Nat} {x : SnD} (h : SnAt W B g o x) (hB : B' ≤ B) : SnAt W B' g o x := by
  obtain ⟨a1, l1, c1, a2, l2, c2, ⟨h0, h1, h2⟩, k1, k2⟩ := h
  exact ⟨a1, l1, c1, a2, l2, c2, ⟨h0, h1, h2⟩, k1.less hB, k2.less hB⟩

theorem SnAt.set {W : World} {B g o : Nat} {p : Addr} {v : Value} {x : SnD} (h : SnAt W B g o x) (hg : p.block ≠ g) (hp : p.block < B) : SnAt (W.setCell p v) B g o x := by
  obtain ⟨a1, l1, c1, a2, l2, c2, ⟨h0, h1, h2⟩, k1, k2⟩ := h
  exact ⟨a1, l1, c1, a2, l2, c2, ⟨(cell_set_ne hg).trans h0, (cell_set_ne hg).trans h1, (cell_set_ne hg).trans h2⟩, k1.set hp, k2.set hp⟩

theorem SnB.below {W W' : World} {B : Nat} {a : Option Addr} {len : Nat} {xs : List SnD} (h : SnB W B a len xs) (hb : Below W.heap.size W W') : SnB W' B a len xs := by
  obtain ⟨h1, h2, h3⟩ := h
  refine ⟨h1, h2, ?_⟩
  rcases h3 with h3 | ⟨g, o, ha, hB9, hr⟩
  · exact Or.inl h3
  · exact Or.inr ⟨g, o, ha, hB9, fun i x hx => (hr i x hx).below hb⟩

theorem SnB.less {W : World} {B B' : Nat} {a : Option Addr} {len : Nat} {xs : List SnD} (h : SnB W B a len xs) (hB : B' ≤ B) : SnB W B' a len xs := by
  obtain ⟨h1, h2, h3⟩ := h
  refine ⟨h1, h2, ?_⟩
  rcases h3 with h3 | ⟨g, o, ha, hB9, hr⟩
  · exact Or.inl h3
  · exact Or.inr ⟨g, o, ha, Nat.le_trans hB hB9, fun i x hx => (hr i x hx).less hB⟩

theorem SnB.set {W : World} {B : Nat} {p : Addr} {v : Value} {a : Option Addr} {len : Nat} {xs : List SnD} (h : SnB W B a len xs) (hp : p.block < B) : SnB (W.setCell p v) B a len xs := by
  obtain ⟨h1, h2, h3⟩ := h
  refine ⟨h1, h2, ?_⟩
  rcases h3 with h3 | ⟨g, o, ha, hB9, hr⟩
  · exact Or.inl h3
  · exact Or.inr ⟨g, o, ha, hB9, fun i x hx => (hr i x hx).set (by omega) hp⟩

theorem SnB.len {W : World} {B : Nat} {a : Option Addr} {len : Nat} {xs : List SnD} (h : SnB W B a len xs) : xs.length = len ∧ len ≤ maxLen := ⟨h.1, h.2.1⟩

/-- A block of such, known whole; one that is being filled. -/
def setSn (W : World) (g o : Nat) (v0 v1 v2 : Value) : World := (((W.setCell ⟨g, o, none⟩ v0).setCell ⟨g, o + 1, none⟩ v1).setCell ⟨g, o + 2, none⟩ v2)

def BlkSn (W : World) (g ty len : Nat) : Prop := ∃ cur, W.heap[g]? = some (.cells cur ty (0, 0)) ∧ cur.size = len * 3

theorem BlkSn.set {W : World} {g ty len i : Nat} (h : BlkSn W g ty len) (v : Value) : BlkSn (W.setCell ⟨g, i, none⟩ v) g ty len := by
  obtain ⟨cur, h1, h2⟩ := h
  exact ⟨_, Joins.block_setCell h1 v, by simp [h2]⟩

theorem BlkSn.below {W W' : World} {g ty len B : Nat} (h : BlkSn W g ty len) (hb : Below B W W') (hg : g < B) : BlkSn W' g ty len := by
  obtain ⟨cur, h1, h2⟩ := h
  exact ⟨cur, (hb.block g hg).trans h1, h2⟩

theorem BlkSn.lt {W : World} {g ty len : Nat} (h : BlkSn W g ty len) : g < W.heap.size := by
  obtain ⟨cur, h1, h2⟩ := h
  exact (Array.getElem?_eq_some_iff.1 h1).1

theorem BlkSn.cell {W : World} {g ty len i : Nat} (h : BlkSn W g ty len) (hi : i < len * 3) : ∃ u, W.cell? ⟨g, i, none⟩ = some u := by
  obtain ⟨cur, h1, h2⟩ := h
  exact ⟨_, (Joins.cell_of_block h1 i).trans (Array.getElem?_eq_getElem (by omega))⟩

theorem BlkSn.frozen {W : World} {g ty len i : Nat} (h : BlkSn W g ty len) : W.frozen? ⟨g, i, none⟩ = false := by
  obtain ⟨cur, h1, h2⟩ := h
  exact Joins.unfrozen_of_block h1 i

theorem Sn_this {W : World} {g ty len i : Nat} {v : Value} (h : BlkSn W g ty len) (hi : i < len * 3) : (W.setCell ⟨g, i, none⟩ v).cell? ⟨g, i, none⟩ = some v := by
  obtain ⟨u, hu⟩ := h.cell hi
  exact World.cell?_setCell_same _ _ _ hu

theorem setSn_this {W : World} {g ty len k : Nat} {x : SnD} {a1 : Option Addr} {l1 c1 : Nat} {a2 : Option Addr} {l2 c2 : Nat} (h : BlkSn W g ty len) (hk : k < len) (k1 : OrB W (g + 1) a1 l1 x.rows) (k2 : InB W (g + 1) a2 l2 x.marks) : SnAt (setSn W g (k * 3) (.int .i64 x.ma) (.slice a1 l1 c1) (.slice a2 l2 c2)) (g + 1) g (k * 3) x := by
  unfold setSn
  refine ⟨a1, l1, c1, a2, l2, c2, ⟨?_, ?_, ?_⟩, (((k1.set (by simp)).set (by simp)).set (by simp)), (((k2.set (by simp)).set (by simp)).set (by simp))⟩
  · rw [Ti_other (by omega), Ti_other (by omega), Sn_this h (by omega)]
  · rw [Ti_other (by omega), Sn_this (h.set _) (by omega)]
  · rw [Sn_this ((h.set _).set _) (by omega)]

theorem setSn_ne {W : World} {g i k : Nat} {x : SnD} {v0 v1 v2 : Value} (h : SnAt W (g + 1) g (i * 3) x) (hk : i ≠ k) : SnAt (setSn W g (k * 3) v0 v1 v2) (g + 1) g (i * 3) x := by
  unfold setSn
  obtain ⟨a1, l1, c1, a2, l2, c2, ⟨h0, h1, h2⟩, k1, k2⟩ := h
  refine ⟨a1, l1, c1, a2, l2, c2, ⟨?_, ?_, ?_⟩, (((k1.set (by simp)).set (by simp)).set (by simp)), (((k2.set (by simp)).set (by simp)).set (by simp))⟩
  · rw [Ti_other (by omega), Ti_other (by omega), Ti_other (by omega)]; exact h0
  · rw [Ti_other (by omega), Ti_other (by omega), Ti_other (by omega)]; exact h1
  · rw [Ti_other (by omega), Ti_other (by omega), Ti_other (by omega)]; exact h2

def FillSn (W : World) (g ty len : Nat) (ys : List SnD) : Prop := BlkSn W g ty len ∧ ∀ (i : Nat) (x : SnD), ys[i]? = some x → SnAt W (g + 1) g (i * 3) x

theorem FillSn.step {wr w' : World} {g ty len k : Nat} {xs : List SnD} {x : SnD} {a1 : Option Addr} {l1 c1 : Nat} {a2 : Option Addr} {l2 c2 : Nat} (h : FillSn wr g ty len (xs.take k)) (hb : Below wr.heap.size wr w') (hk : k < len) (hx : xs[k]? = some x) (k1 : OrB w' (g + 1) a1 l1 x.rows) (k2 : InB w' (g + 1) a2 l2 x.marks) : FillSn (setSn w' g (k * 3) (.int .i64 x.ma) (.slice a1 l1 c1) (.slice a2 l2 c2)) g ty len (xs.take (k + 1)) := by
  have hB := h.1.below hb h.1.lt
  refine ⟨(((hB.set _).set _).set _), fun i y hy => ?_⟩
  have hik : i < k + 1 := by
    rcases Nat.lt_or_ge i (k + 1) with h' | h'
    · exact h'
    · rw [List.getElem?_eq_none (by simp; omega)] at hy; cases hy
  rw [List.getElem?_take_of_lt hik] at hy
  by_cases he : i = k
  · subst he
    rw [hx] at hy
    cases hy
    exact setSn_this hB hk k1 k2
  · refine setSn_ne ?_ he
    exact (h.2 i y (by rw [List.getElem?_take_of_lt (by omega)]; exact hy)).below hb

theorem FillSn.start {w : World} {ty len : Nat} {C : Array Value} (hC : C.size = len * 3) (xs : List SnD) : FillSn (w.alloc (.cells C ty)) w.heap.size ty len (xs.take 0) :=
  ⟨⟨C, by show (w.heap.push _)[w.heap.size]? = _; simp, hC⟩, fun i x h => by simp at h⟩

theorem FillSn.done {W : World} {g ty len k : Nat} {xs : List SnD} (h : FillSn W g ty len (xs.take k)) (hk : xs.length ≤ k) (hl : xs.length = len) (hm : len ≤ maxLen) : SnB W g (some ⟨g, 0, none⟩) len xs := by
  refine ⟨hl, hm, Or.inr ⟨g, 0, rfl, Nat.le_refl _, fun i x hx => ?_⟩⟩
  rw [List.take_of_length_le hk] at h
  have := (h.2 i x hx).less (B' := g) (by omega)
  simpa using this

section
variable {H : Type} {enc : TypeId × Value → H} {P : Program} {w : World} {base : Nat} {spare : Nat → Bool} {held : Bool}
def SnD.ok64 (x : SnD) : Prop := (-9223372036854775808 ≤ x.ma ∧ x.ma ≤ 9223372036854775807) ∧ (∀ y ∈ x.rows, y.ok64) ∧ ∀ y ∈ x.marks, -9223372036854775808 ≤ y ∧ y ≤ 9223372036854775807
theorem cellsSn {a : Addr} {cs : List Value} {t1 e1 : TypeId} {t2 e2 : TypeId} (u1 : P.underlying t1 = some (.slice e1)) (u2 : flatK P 5 e1 = some [false, false, false, false, false, false, false, false, false, false, false, false, true]) (u3 : P.cellsOf e1 = 13) (u4 : P.underlying t2 = some (.slice e2)) (u5 : P.underlying e2 = some (.int .i64)) (u6 : P.cellsOf e2 = 1) (h : w.cells? base a 3 = some cs) (f0 : FitsT enc P w base spare held cs [.i, .s t1, .s t2]) : a.spot = none ∧ ∃ x : SnD, SnAt w 0 a.block a.off x ∧ x.ok64 := by
  obtain ⟨z0, r0, rfl, y0, f1⟩ := fitT_i f0
  obtain ⟨a1, l1, c1, d1, p1, r1, rfl, y1, f2⟩ := fitT_s f1
  obtain ⟨a2, l2, c2, d2, p2, r2, rfl, y2, f3⟩ := fitT_s f2
  obtain rfl := fitT_nil f3
  clear f0 f1 f2 f3
  obtain ⟨x1, q1, o1⟩ := openOr u1 u2 u3 y1
  obtain ⟨x2, q2, o2⟩ := openIn u4 u5 u6 y2
  obtain ⟨_, hlen, hc⟩ := World.cells?_some h
  have b0 := hc 0 (by omega)
  have b1 := hc 1 (by omega)
  have b2 := hc 2 (by omega)
  obtain ⟨g, o, sp⟩ := a
  have ha0 : (⟨g, o, sp⟩ : Addr).add 0 = ⟨g, o, sp⟩ := by simp [Addr.add]
  have hsp : sp = none := World.cell?_spot (w := w) (a := ⟨g, o, sp⟩) (v := .int .i64 z0) (by rw [← ha0]; simpa using b0)
  subst hsp
  exact ⟨rfl, ⟨z0, x1, x2⟩, ⟨a1, l1, c1, a2, l2, c2, ⟨by simpa [Addr.add] using b0, by simpa [Addr.add] using b1, by simpa [Addr.add] using b2⟩, ⟨q1, fun _ _ _ _ => Nat.zero_le _⟩, ⟨q2, fun _ _ _ _ => Nat.zero_le _⟩⟩, bnd64 y0, o1, o2⟩
theorem openSn {t e : TypeId} {t1 e1 : TypeId} {t2 e2 : TypeId} {a : Option Addr} {len cap : Nat} {d : DataW H} {p : List MemPlace} (ht : P.underlying t = some (.slice e)) (hk : flatT P 5 e = some [.i, .s t1, .s t2]) (hC : P.cellsOf e = 3) (u1 : P.underlying t1 = some (.slice e1)) (u2 : flatK P 5 e1 = some [false, false, false, false, false, false, false, false, false, false, false, false, true]) (u3 : P.cellsOf e1 = 13) (u4 : P.underlying t2 = some (.slice e2)) (u5 : P.underlying e2 = some (.int .i64)) (u6 : P.cellsOf e2 = 1)
    (h : DataW.Trod enc P w base spare held t (.slice a len cap) d p) : ∃ xs : List SnD, SnB w 0 a len xs ∧ ∀ x ∈ xs, x.ok64 := by
  obtain ⟨fuel, hf⟩ := h
  rcases open_slice ht hf with ⟨hcs, _⟩ | ⟨a', len', cap', m, n, D, Pl, hcs, _, hl, hm, hmm, _, hx⟩
  · simp [Value.cells] at hcs
    obtain ⟨rfl, rfl, rfl⟩ := hcs
    exact ⟨[], ⟨rfl, Nat.zero_le _, Or.inl rfl⟩, by simp⟩
  · simp [Value.cells] at hcs
    obtain ⟨rfl, rfl, rfl⟩ := hcs
    have hlm : len ≤ m := by rw [hmm]; split <;> omega
    have hall : ∀ i, i < len → ∃ x : SnD, (i = 0 → a'.spot = none) ∧ SnAt w 0 a'.block (a'.off + i * 3) x ∧ x.ok64 := by
      intro i hi
      obtain ⟨cs', h1, h2⟩ := hx i (by omega)
      rw [hC] at h1
      obtain ⟨hsp, x, hxa, hxo⟩ := cellsSn u1 u2 u3 u4 u5 u6 h1 (fitsT_trod 5 hk h2)
      have hb : (a'.add (i * 3)).block = a'.block ∧ (a'.add (i * 3)).off = a'.off + i * 3 := by
        unfold Addr.add
        split
        · exact ⟨rfl, by omega⟩
        · exact ⟨rfl, rfl⟩
      rw [hb.1, hb.2] at hxa
      refine ⟨x, fun h0 => ?_, hxa, hxo⟩
      subst h0
      simpa [Addr.add] using hsp
    by_cases h0 : len = 0
    · subst h0
      exact ⟨[], ⟨rfl, Nat.zero_le _, Or.inl rfl⟩, by simp⟩
    have hinh : Inhabited SnD := ⟨⟨0, [], []⟩⟩
    obtain ⟨f, hf'⟩ := choose_lt hall
    have hsp := (hf' 0 (by omega)).1 rfl
    refine ⟨(List.range len).map f, ⟨by simp, by omega, Or.inr ⟨a'.block, a'.off, by cases a'; simp_all, Nat.zero_le _, ?_⟩⟩, ?_⟩
    · intro i x hix
      simp only [List.getElem?_map, Option.map_eq_some_iff] at hix
      obtain ⟨j, hj, rfl⟩ := hix
      have hil : i < len := by
        rcases Nat.lt_or_ge i len with h' | h'
        · exact h'
        · rw [List.getElem?_eq_none (by simpa using h')] at hj; cases hj
      rw [List.getElem?_eq_getElem (by simpa using hil)] at hj
      simp at hj
      subst hj
      exact (hf' i hil).2.1
    · intro x hxm
      simp only [List.mem_map, List.mem_range] at hxm
      obtain ⟨i, hi, rfl⟩ := hxm
      exact (hf' i hi).2.2
end


def SnD.sm (x : SnD) : Prop := x.rows.length ≤ 1048576 ∧ x.marks.length ≤ 1048576

theorem smSn_of (x : SnD) {l1 l2 : Nat} (h1 : x.rows.length = l1) (h2 : x.marks.length = l2) (h : l1 ≤ 1048576 ∧ l2 ≤ 1048576) : x.sm := ⟨by omega, by omega⟩

theorem of_smSn (x : SnD) {l1 l2 : Nat} (h1 : x.rows.length = l1) (h2 : x.marks.length = l2) (h : x.sm) : l1 ≤ 1048576 ∧ l2 ≤ 1048576 := by obtain ⟨h3, h4⟩ := h; exact ⟨by omega, by omega⟩

set_option maxRecDepth 20000 in
set_option maxHeartbeats 1000000 in
theorem szSn_one (x : SnD) (a1 : Option Addr) (l1 c1 : Nat) (a2 : Option Addr) (l2 c2 : Nat) (L : Int) (w : World) (h1 : OrB w 0 a1 l1 x.rows) (h2 : InB w 0 a2 l2 x.marks) (h0L : 0 ≤ L) (hL : L ≤ 1048576) : Calls Tryz.prog 44 #[.agg #[.int .i64 x.ma, .slice a1 l1 c1, .slice a2 l2 c2], .int .i64 L] w fun e w' => SzP L (l1 ≤ 1048576 ∧ l2 ≤ 1048576) e ∧ Below w.heap.size w w' := by
  go_enter Tryz.func44, Tryz.ntmps44
  go_wp2_with fail
  refine (szSt_p x.ma a1 l1 c1 L _ h1.len.2 (by omega) (by omega)).mono ?_
  rintro e y0 ⟨⟨r0, rfl, hr⟩, hb0⟩
  obtain ⟨hc0, hf0, hs0⟩ := bcell hb0
  have hz0 : w.heap.size < y0.heap.size := by have h9 := hb0.size; (try simp at h9); omega
  rcases hr with rfl | ⟨p0, q0, s0⟩
  · go_wp2
    go_ret
    exact ⟨⟨_, rfl, Or.inl rfl⟩, (belB)⟩
  go_wp2_with fail
  refine (szIn_p a2 l2 c2 r0 _ h2.len.2 (by omega) (by omega)).mono ?_
  rintro e w1x ⟨⟨r1, rfl, hr⟩, hw⟩
  obtain rfl := hw.symm
  clear hw
  rcases hr with rfl | ⟨p1, q1, s1⟩
  · go_wp2
    go_ret
    exact ⟨⟨_, rfl, Or.inl rfl⟩, (belB)⟩
  go_wp2
  go_ret
  exact ⟨⟨_, rfl, Or.inr ⟨p1, by omega, s0, s1⟩⟩, (belB)⟩

set_option maxRecDepth 20000 in
set_option maxHeartbeats 1000000 in
theorem eqSn_one (B1 B2 : Nat) (x : SnD) (a1x a1y : Option Addr) (l1 c1x c1y : Nat) (a2x a2y : Option Addr) (l2 c2x c2y : Nat) (w : World) (h1x : OrB w B1 a1x l1 x.rows) (h1y : OrB w B2 a1y l1 x.rows) (h2x : InB w B1 a2x l2 x.marks) (h2y : InB w B2 a2y l2 x.marks) : Calls Tryz.prog 63 #[.agg #[.int .i64 x.ma, .slice a1x l1 c1x, .slice a2x l2 c2x], .agg #[.int .i64 x.ma, .slice a1y l1 c1y, .slice a2y l2 c2y]] w fun e w' => e = .returned (.bool true) ∧ Below w.heap.size w w' := by
  go_enter Tryz.func63, Tryz.ntmps63
  go_wp2_with (first
    | (go_at_call 82; refine (eqSt_b B1 B2 x.ma a1x a1y l1 c1x c1y x.rows _ (h1x.below (belB)) (h1y.below (belB))).mono ?_; rintro e' w0 ⟨rfl, hb0⟩; obtain ⟨hc0, hf0, hs0⟩ := bcell hb0; have hz00 : w.heap.size < w0.heap.size := (by have h9 := hb0.size; (try simp at h9); omega); have hz01 : w.heap.size + 1 < w0.heap.size := (by have h9 := hb0.size; (try simp at h9); omega))
    | (go_at_call 32; refine (eqIn_b B1 B2 a2x a2y l2 c2x c2y x.marks _ (h2x.below (belB)) (h2y.below (belB))).mono ?_; rintro e' w1 ⟨rfl, hb1⟩; obtain ⟨hc1, hf1, hs1⟩ := bcell hb1; have hz10 : w.heap.size < w1.heap.size := (by have h9 := hb1.size; (try simp at h9); omega); have hz11 : w.heap.size + 1 < w1.heap.size := (by have h9 := hb1.size; (try simp at h9); omega)))
  go_ret
  exact ⟨rfl, (belB)⟩

set_option maxRecDepth 20000 in
set_option maxHeartbeats 1000000 in
theorem szSn_p (a : Option Addr) (len cap : Nat) (xs : List SnD) (L : Int) (w : World) (h : SnB w 0 a len xs) (h0 : 0 ≤ L) (hL : L ≤ 1048576) : Calls Tryz.prog 17 #[.slice a len cap, .int .i64 L] w fun e w' => SzP L (len ≤ 1048576 ∧ ∀ x ∈ xs, x.sm) e ∧ Below w.heap.size w w' := by
  have hm := h.2.1
  unfold maxLen at hm
  by_cases h1 : (len : Int) ≤ L
  · go_enter Tryz.func17, Tryz.ntmps17
    go_wp2
    go_loopw [1, 5] (fun lv i wr => ∃ (k : Nat) (l : Int), k ≤ len ∧ i = .int .i64 k ∧ lv = .int .i64 l ∧ 0 ≤ l ∧ l ≤ L ∧ (∀ (i : Nat) (x : SnD), i < k → xs[i]? = some x → x.sm) ∧ Below w.heap.size w wr) (fun _ i _ => len - (intOf i).toNat)
    case atStart => exact ⟨0, _, Nat.zero_le _, rfl, rfl, by omega, by omega, fun i x hi => absurd hi (by omega), Below.refl _ _⟩
    case round =>
      obtain ⟨k, l, hk, rfl, rfl, hl0, hl1, hq, hbw⟩ := hrel
      by_cases hlt : k < len
      · obtain ⟨hxl, hml, hx⟩ := h
        obtain ⟨g, o, rfl, _, hr⟩ := hx.resolve_left (by omega)
        obtain ⟨x, hxk⟩ : ∃ x, xs[k]? = some x := ⟨_, List.getElem?_eq_getElem (by omega)⟩
        have hX := hide hxk
        have HQ := hide hq
        obtain ⟨a1, l1, c1, a2, l2, c2, ⟨c0z, c1z, c2z⟩, k1, k2⟩ := (hr k _ hxk).below hbw
        have hsm := hide (smSn_of x k1.len.1 k2.len.1)
        clear hx hxk hr hq
        go_wp2_with fail
        refine (szSn_one x a1 l1 c1 a2 l2 c2 l _ k1 k2 hl0 (by omega)).mono ?_
        rintro e w1 ⟨⟨r, rfl, hr⟩, hb⟩
        rcases hr with rfl | ⟨h2, h3, h4⟩
        · go_wp2
          go_ret
          exact ⟨⟨_, rfl, Or.inl rfl⟩, (belB)⟩
        · have HS := hide (unhide hsm h4)
          clear h4 hsm
          go_wp2
          go_roundw
          case rel =>
            refine ⟨k + 1, r, by omega, by go_num, rfl, h2, by omega, fun i y hi hy => ?_, (belB)⟩
            by_cases he : i = k
            · subst he
              rw [unhide hX] at hy
              cases hy
              exact unhide HS
            · exact unhide HQ i y (by omega) hy
          case measure => simp [intOf]; omega
      · go_wp2
        go_ret
        refine ⟨⟨_, rfl, Or.inr ⟨hl0, hl1, by omega, fun x hx => ?_⟩⟩, hbw⟩
        obtain ⟨i, hi, rfl⟩ := List.getElem_of_mem hx
        exact hq i _ (by have := h.1; omega) (List.getElem?_eq_getElem hi)
  · go_enter Tryz.func17, Tryz.ntmps17
    go_wp2
    go_ret
    exact ⟨⟨_, rfl, Or.inl rfl⟩, Below.refl _ _⟩

theorem Tryz.infoSn : (Tryz.prog.info? 80).map (fun i => (i.zero, i.size, i.bytes)) = some (some (.agg #[.int .i64 0, .slice none 0 0, .slice none 0 0]), 3, 56) := by kernel_rfl

theorem mkSn (len : Nat) (hl : len ≤ 1048576) : ∃ C : Array Value, C.size = len * 3 ∧ ∀ w : World, (Instr.makeSlice 32 (.int .i64 (len : Int)) (.int .i64 (len : Int))).run Tryz.prog w = .ok (.slice (some ⟨w.heap.size, 0, none⟩) len len) (w.alloc (.cells C 80)) := by
  obtain ⟨i0, hi, hz0, hz1, hz2⟩ := info_parts Tryz.infoSn
  refine ⟨madeCells (Value.agg #[.int .i64 0, .slice none 0 0, .slice none 0 0]).cells (len * i0.size), by rw [size_madeCells, hz1], fun w => ?_⟩
  have h := run_make (P := Tryz.prog) w 32 80 i0 _ Tryz.underlying32 hi hz0 .i64 .i64 len len (by omega) (Int.le_refl _) (by rw [hz2]; omega) (by omega)
  simpa using h

theorem hd_3_3 {b0 b1 o0x0 o0x1 o0x2 o1x0 o1x1 o1x2 : Nat} {v0x0 v0x1 v0x2 v1x0 v1x1 v1x2 : Value} {W W' : World} (h : ((W.cell? ⟨b0, o0x0, none⟩ = some (v0x0) ∧ W.cell? ⟨b0, o0x1, none⟩ = some (v0x1) ∧ W.cell? ⟨b0, o0x2, none⟩ = some (v0x2) ∧ W.cell? ⟨b1, o1x0, none⟩ = some (v1x0) ∧ W.cell? ⟨b1, o1x1, none⟩ = some (v1x1) ∧ W.cell? ⟨b1, o1x2, none⟩ = some (v1x2)) ∧ b0 < W.heap.size ∧ b1 < W.heap.size)) (hb : Below W.heap.size W W') : ((W'.cell? ⟨b0, o0x0, none⟩ = some (v0x0) ∧ W'.cell? ⟨b0, o0x1, none⟩ = some (v0x1) ∧ W'.cell? ⟨b0, o0x2, none⟩ = some (v0x2) ∧ W'.cell? ⟨b1, o1x0, none⟩ = some (v1x0) ∧ W'.cell? ⟨b1, o1x1, none⟩ = some (v1x1) ∧ W'.cell? ⟨b1, o1x2, none⟩ = some (v1x2)) ∧ b0 < W'.heap.size ∧ b1 < W'.heap.size) := by
  obtain ⟨⟨h0, h1, h2, h3, h4, h5⟩, s0, s1⟩ := h
  refine ⟨⟨?_, ?_, ?_, ?_, ?_, ?_⟩, Nat.lt_of_lt_of_le s0 hb.size, Nat.lt_of_lt_of_le s1 hb.size⟩
  · rw [hb.cell s0]; exact h0
  · rw [hb.cell s0]; exact h1
  · rw [hb.cell s0]; exact h2
  · rw [hb.cell s1]; exact h3
  · rw [hb.cell s1]; exact h4
  · rw [hb.cell s1]; exact h5

theorem hd_3_3_set {b0 b1 o0x0 o0x1 o0x2 o1x0 o1x1 o1x2 : Nat} {v0x0 v0x1 v0x2 v1x0 v1x1 v1x2 : Value} {W : World} {p : Addr} (h : ((W.cell? ⟨b0, o0x0, none⟩ = some (v0x0) ∧ W.cell? ⟨b0, o0x1, none⟩ = some (v0x1) ∧ W.cell? ⟨b0, o0x2, none⟩ = some (v0x2) ∧ W.cell? ⟨b1, o1x0, none⟩ = some (v1x0) ∧ W.cell? ⟨b1, o1x1, none⟩ = some (v1x1) ∧ W.cell? ⟨b1, o1x2, none⟩ = some (v1x2)) ∧ b0 < W.heap.size ∧ b1 < W.heap.size)) (p0 : p.block ≠ b0) (p1 : p.block ≠ b1) (u : Value) : (((W.setCell p u).cell? ⟨b0, o0x0, none⟩ = some (v0x0) ∧ (W.setCell p u).cell? ⟨b0, o0x1, none⟩ = some (v0x1) ∧ (W.setCell p u).cell? ⟨b0, o0x2, none⟩ = some (v0x2) ∧ (W.setCell p u).cell? ⟨b1, o1x0, none⟩ = some (v1x0) ∧ (W.setCell p u).cell? ⟨b1, o1x1, none⟩ = some (v1x1) ∧ (W.setCell p u).cell? ⟨b1, o1x2, none⟩ = some (v1x2)) ∧ b0 < (W.setCell p u).heap.size ∧ b1 < (W.setCell p u).heap.size) := by
  obtain ⟨⟨h0, h1, h2, h3, h4, h5⟩, s0, s1⟩ := h
  have hb : W.heap.size ≤ (W.setCell p u).heap.size := by simp [World.setCell]
  refine ⟨⟨?_, ?_, ?_, ?_, ?_, ?_⟩, Nat.lt_of_lt_of_le s0 hb, Nat.lt_of_lt_of_le s1 hb⟩
  · rw [cell_set_ne p0]; exact h0
  · rw [cell_set_ne p0]; exact h1
  · rw [cell_set_ne p0]; exact h2
  · rw [cell_set_ne p1]; exact h3
  · rw [cell_set_ne p1]; exact h4
  · rw [cell_set_ne p1]; exact h5

theorem hd_3_3_re {b0 b1 o0x0 o0x1 o0x2 o1x0 o1x1 o1x2 : Nat} {v0x0 v0x1 v0x2 v1x0 v1x1 v1x2 : Value} {W : World} {o o' : Obj} (h : (((W.alloc o).cell? ⟨b0, o0x0, none⟩ = some (v0x0) ∧ (W.alloc o).cell? ⟨b0, o0x1, none⟩ = some (v0x1) ∧ (W.alloc o).cell? ⟨b0, o0x2, none⟩ = some (v0x2) ∧ (W.alloc o).cell? ⟨b1, o1x0, none⟩ = some (v1x0) ∧ (W.alloc o).cell? ⟨b1, o1x1, none⟩ = some (v1x1) ∧ (W.alloc o).cell? ⟨b1, o1x2, none⟩ = some (v1x2)) ∧ b0 < (W.alloc o).heap.size ∧ b1 < (W.alloc o).heap.size)) (p0 : b0 < W.heap.size) (p1 : b1 < W.heap.size) : (((W.alloc o').cell? ⟨b0, o0x0, none⟩ = some (v0x0) ∧ (W.alloc o').cell? ⟨b0, o0x1, none⟩ = some (v0x1) ∧ (W.alloc o').cell? ⟨b0, o0x2, none⟩ = some (v0x2) ∧ (W.alloc o').cell? ⟨b1, o1x0, none⟩ = some (v1x0) ∧ (W.alloc o').cell? ⟨b1, o1x1, none⟩ = some (v1x1) ∧ (W.alloc o').cell? ⟨b1, o1x2, none⟩ = some (v1x2)) ∧ b0 < (W.alloc o').heap.size ∧ b1 < (W.alloc o').heap.size) := by
  obtain ⟨⟨h0, h1, h2, h3, h4, h5⟩, s0, s1⟩ := h
  have hb : Below W.heap.size (W.alloc o) (W.alloc o') := bel_re W o o'
  refine ⟨⟨?_, ?_, ?_, ?_, ?_, ?_⟩, Nat.lt_of_lt_of_le s0 hb.size, Nat.lt_of_lt_of_le s1 hb.size⟩
  · rw [hb.cell p0]; exact h0
  · rw [hb.cell p0]; exact h1
  · rw [hb.cell p0]; exact h2
  · rw [hb.cell p1]; exact h3
  · rw [hb.cell p1]; exact h4
  · rw [hb.cell p1]; exact h5

set_option maxRecDepth 20000 in
set_option maxHeartbeats 1000000 in
theorem eqSn_b (B1 B2 : Nat) (a1 a2 : Option Addr) (len cap1 cap2 : Nat) (xs : List SnD) (w : World) (h1 : SnB w B1 a1 len xs) (h2 : SnB w B2 a2 len xs) : Calls Tryz.prog 34 #[.slice a1 len cap1, .slice a2 len cap2] w fun e w' => e = .returned (.bool true) ∧ Below w.heap.size w w' := by
  have hm := h1.2.1
  unfold maxLen at hm
  go_enter Tryz.func34, Tryz.ntmps34
  go_wp2
  go_loopw [5] (fun i wr => ∃ k : Nat, k ≤ len ∧ i = .int .i64 k ∧ Below w.heap.size w wr) (fun i _ => len - (intOf i).toNat)
  case atStart => exact ⟨0, Nat.zero_le _, rfl, Below.refl _ _⟩
  case round =>
    obtain ⟨k, hk, rfl, hbw⟩ := hrel
    by_cases hlt : k < len
    · obtain ⟨hl1, _, hx1⟩ := h1
      obtain ⟨hl2, _, hx2⟩ := h2
      obtain ⟨g1, o1, rfl, _, hr1⟩ := hx1.resolve_left (by omega)
      obtain ⟨g2, o2, rfl, _, hr2⟩ := hx2.resolve_left (by omega)
      obtain ⟨x, hxk⟩ : ∃ x, xs[k]? = some x := ⟨_, List.getElem?_eq_getElem (by omega)⟩
      have t1 := (hr1 k _ hxk).below hbw
      have t2 := (hr2 k _ hxk).below hbw
      have hs1 := t1.lt
      have hs2 := t2.lt
      obtain ⟨a1x, l1, c1x, a2x, l2, c2x, ⟨c0z, c1z, c2z⟩, k1x, k2x⟩ := t1
      obtain ⟨a1y, l1y, c1y, a2y, l2y, c2y, ⟨d0z, d1z, d2z⟩, k1y, k2y⟩ := t2
      obtain rfl : l1 = l1y := by have e1 := k1x.len.1; have e2 := k1y.len.1; omega
      obtain rfl : l2 = l2y := by have e1 := k2x.len.1; have e2 := k2y.len.1; omega
      have hS : ((wr.cell? ⟨g1, o1 + k * 3, none⟩ = some (.int .i64 x.ma) ∧ wr.cell? ⟨g1, o1 + k * 3 + 1, none⟩ = some (.slice a1x l1 c1x) ∧ wr.cell? ⟨g1, o1 + k * 3 + 2, none⟩ = some (.slice a2x l2 c2x) ∧ wr.cell? ⟨g2, o2 + k * 3, none⟩ = some (.int .i64 x.ma) ∧ wr.cell? ⟨g2, o2 + k * 3 + 1, none⟩ = some (.slice a1y l1 c1y) ∧ wr.cell? ⟨g2, o2 + k * 3 + 2, none⟩ = some (.slice a2y l2 c2y)) ∧ g1 < wr.heap.size ∧ g2 < wr.heap.size) := ⟨⟨c0z, c1z, c2z, d0z, d1z, d2z⟩, hs1, hs2⟩
      clear hx1 hx2 hxk hr1 hr2
      go_wp2
      go_region_held3 (fun W => ((W.cell? ⟨g1, o1 + k * 3, none⟩ = some (.int .i64 x.ma) ∧ W.cell? ⟨g1, o1 + k * 3 + 1, none⟩ = some (.slice a1x l1 c1x) ∧ W.cell? ⟨g1, o1 + k * 3 + 2, none⟩ = some (.slice a2x l2 c2x) ∧ W.cell? ⟨g2, o2 + k * 3, none⟩ = some (.int .i64 x.ma) ∧ W.cell? ⟨g2, o2 + k * 3 + 1, none⟩ = some (.slice a1y l1 c1y) ∧ W.cell? ⟨g2, o2 + k * 3 + 2, none⟩ = some (.slice a2y l2 c2y)) ∧ g1 < W.heap.size ∧ g2 < W.heap.size)) ((first | ((repeat (first | (with_reducible assumption) | (with_reducible refine hd_3_3 ?_ (by with_reducible assumption)) | (with_reducible refine hd_3_3 ?_ (bel_drew (Below.refl _ _))) | (with_reducible exact hd_3_3_re (by with_reducible assumption) (sB) (sB)) | (with_reducible refine hd_3_3 ?_ (bel_one _ _)) | (with_reducible refine hd_3_3_set ?_ (sB) (sB) _))); done) | (refine ⟨⟨?_, ?_, ?_, ?_, ?_, ?_⟩, ?_, ?_⟩ <;> first | (go_keep; done) | (simp; done) | (simp; omega) | omega)))
        (first
        | (go_at_call 63; refine (eqSn_one B1 B2 x a1x a1y l1 c1x c1y a2x a2y l2 c2x c2y _ (k1x.below (belA)) (k1y.below (belA)) (k2x.below (belA)) (k2y.below (belA))).mono ?_; rintro e w' ⟨rfl, hb⟩; obtain ⟨hc, hf, hs⟩ := bcell hb))
      go_wp2
      go_roundw
      case rel => exact ⟨k + 1, by omega, by go_num, (belA)⟩
      case measure => simp [intOf]; omega
    · go_wp2
      go_ret
      exact ⟨rfl, hbw⟩
end Go.Proofs.YtbjhpiannjepkaaGreat
