/- Proved here, for any program: a slice of texts as a list of rows in memory: kept, filled, owned, told to be the same, marked and found again. -/
import Derived.Test.YtcokdcehjibanaaGreatDoorDig
import Derived.Deep.Slices
import Derived.Lib.SmallJoins
import Derived.OwnWalk
import Derived.WalkSpells
import Derived.Deep.RegionHeld3
namespace Go.Proofs.YtcokdcehjibanaaGreatDoor
open Go.ChangeShapes Go.WideShapes Go.ChangeAt Go.RowKit
set_option linter.unusedVariables false

/-- A text. -/
structure StR where
  s : ByteArray

/-- A row lies in its cells; rows lie one behind the other; a slice's value holds rows. -/
def StRAt (W : World) (g o : Nat) (x : StR) : Prop := W.cell? ⟨g, o, none⟩ = some (.string x.s)

def StRsAt (W : World) (g o : Nat) (xs : List StR) : Prop := ∀ i x, xs[i]? = some x → StRAt W g (o + i * 1) x

def StRs (W : World) (a : Option Addr) (len : Nat) (xs : List StR) : Prop := xs.length = len ∧ len ≤ maxLen ∧ (len = 0 ∨ ∃ g o, a = some ⟨g, o, none⟩ ∧ StRsAt W g o xs)

theorem StRAt.lt {W : World} {g o : Nat} {x : StR} (h : StRAt W g o x) : g < W.heap.size := by
  have h0 := h
  unfold StRAt at h0
  rcases Nat.lt_or_ge g W.heap.size with hl | hg
  · exact hl
  · simp [World.cell?, Array.getElem?_eq_none hg] at h0

theorem StRsAt.lt {W : World} {g o : Nat} {xs : List StR} (h : StRsAt W g o xs) (hp : 0 < xs.length) : g < W.heap.size := (h 0 xs[0] (List.getElem?_eq_getElem hp)).lt

theorem StRAt.below {W W' : World} {B g o : Nat} {x : StR} (h : StRAt W g o x) (hb : Below B W W') (hg : g < B) : StRAt W' g o x := by
  have h0 := h
  exact (hb.cell (p := ⟨g, _, none⟩) hg).trans h0

theorem StRsAt.below {W W' : World} {B g o : Nat} {xs : List StR} (h : StRsAt W g o xs) (hb : Below B W W') (hg : 0 < xs.length → g < B) : StRsAt W' g o xs := by
  intro i x hx
  have hlt : i < xs.length := (List.getElem?_eq_some_iff.1 hx).1
  exact (h i x hx).below hb (hg (by omega))

theorem StRs.below {W W' : World} {a : Option Addr} {len : Nat} {xs : List StR} (h : StRs W a len xs) (hb : Below W.heap.size W W') : StRs W' a len xs := by
  obtain ⟨h1, h2, h3⟩ := h
  refine ⟨h1, h2, ?_⟩
  rcases h3 with h3 | ⟨g, o, ha, hr⟩
  · exact Or.inl h3
  · exact Or.inr ⟨g, o, ha, hr.below hb (fun hp => hr.lt hp)⟩

theorem StRAt.grown {W W' : World} {row : Option Nat} {g o : Nat} {x : StR} (h : StRAt W g o x) (hg : W.grownBy W' row) (hne : some g ≠ row) : StRAt W' g o x := by
  have hbk := hg.block g h.lt hne
  have h0 := h
  exact (World.cell?_of_block (w := W) hbk).trans h0

theorem StRs.grown {W W' : World} {row : Option Nat} {a : Option Addr} {n : Nat} {xs : List StR} (h : StRs W a n xs) (hg : W.grownBy W' row) (hne : ∀ g o, 0 < n → a = some ⟨g, o, none⟩ → some g ≠ row) : StRs W' a n xs := by
  obtain ⟨h1, h2, h3⟩ := h
  refine ⟨h1, h2, ?_⟩
  rcases h3 with h3 | ⟨g, o, ha, hr⟩
  · exact Or.inl h3
  · refine Or.inr ⟨g, o, ha, fun i x hx => (hr i x hx).grown hg (hne g o ?_ ha)⟩
    have hlt : i < xs.length := (List.getElem?_eq_some_iff.1 hx).1
    omega

theorem StRs.lt {W : World} {g o n : Nat} {xs : List StR} (h : StRs W (some ⟨g, o, none⟩) n xs) (hp : 0 < n) : g < W.heap.size := by
  obtain ⟨h1, h2, h3⟩ := h
  obtain ⟨g', o', ha, hr⟩ := h3.resolve_left (by omega)
  simp at ha
  have := hr.lt (by omega)
  omega

/-- A row is stored; a block of rows, known whole. -/
def setSt (W : World) (g o : Nat) (x : StR) : World := (W.setCell ⟨g, o, none⟩ (.string x.s))

def BlkSt (W : World) (g ty len : Nat) : Prop := ∃ cur, W.heap[g]? = some (.cells cur ty (0, 0)) ∧ cur.size = len * 1

theorem BlkSt.set {W : World} {g ty len i : Nat} (h : BlkSt W g ty len) (v : Value) : BlkSt (W.setCell ⟨g, i, none⟩ v) g ty len := by
  obtain ⟨cur, h1, h2⟩ := h
  exact ⟨_, Joins.block_setCell h1 v, by simp [h2]⟩

theorem BlkSt.below {W W' : World} {g ty len B : Nat} (h : BlkSt W g ty len) (hb : Below B W W') (hg : g < B) : BlkSt W' g ty len := by
  obtain ⟨cur, h1, h2⟩ := h
  exact ⟨cur, (hb.block g hg).trans h1, h2⟩

theorem BlkSt.lt {W : World} {g ty len : Nat} (h : BlkSt W g ty len) : g < W.heap.size := by
  obtain ⟨cur, h1, h2⟩ := h
  exact (Array.getElem?_eq_some_iff.1 h1).1

theorem BlkSt.cell {W : World} {g ty len i : Nat} (h : BlkSt W g ty len) (hi : i < len * 1) : ∃ u, W.cell? ⟨g, i, none⟩ = some u := by
  obtain ⟨cur, h1, h2⟩ := h
  exact ⟨_, (Joins.cell_of_block h1 i).trans (Array.getElem?_eq_getElem (by omega))⟩

theorem BlkSt.frozen {W : World} {g ty len i : Nat} (h : BlkSt W g ty len) : W.frozen? ⟨g, i, none⟩ = false := by
  obtain ⟨cur, h1, h2⟩ := h
  exact Joins.unfrozen_of_block h1 i

theorem BlkSt.cells {W : World} {g ty len k : Nat} (h : BlkSt W g ty len) (hk : k < len) : (∃ u, W.cell? ⟨g, k * 1, none⟩ = some u) := h.cell (by omega)

theorem BlkSt.sets {W : World} {g ty len o : Nat} (h : BlkSt W g ty len) (x : StR) : BlkSt (setSt W g o x) g ty len := (h.set _)

theorem St_other {W : World} {g i j : Nat} {v : Value} (h : i ≠ j) : (W.setCell ⟨g, i, none⟩ v).cell? ⟨g, j, none⟩ = W.cell? ⟨g, j, none⟩ := World.cell?_setCell_other _ _ _ _ (by intro e; injection e with e1 e2; exact h e2)

theorem St_this {W : World} {g ty len i : Nat} {v : Value} (h : BlkSt W g ty len) (hi : i < len * 1) : (W.setCell ⟨g, i, none⟩ v).cell? ⟨g, i, none⟩ = some v := by
  obtain ⟨u, hu⟩ := h.cell hi
  exact World.cell?_setCell_same _ _ _ hu

theorem setSt_this {W : World} {g ty len k : Nat} (h : BlkSt W g ty len) (hk : k < len) (x : StR) : StRAt (setSt W g (k * 1) x) g (k * 1) x := by
  unfold setSt StRAt at *
  refine ?_
  · rw [St_this h (by omega)]

theorem setSt_ne {W : World} {g i k : Nat} {x y : StR} (h : StRAt W g (i * 1) y) (hk : i ≠ k) : StRAt (setSt W g (k * 1) x) g (i * 1) y := by
  unfold setSt StRAt at *
  have h0 := h
  refine ?_
  · rw [St_other (by omega)]; exact h0

theorem grown_setSt {W W' : World} {g o : Nat} {x : StR} (h : W.grownBy W' (some g)) : W.grownBy (setSt W' g o x) (some g) := by
  have hs : ∀ (X : World) (i : Nat) (v : Value), W.grownBy X (some g) → W.grownBy (X.setCell ⟨g, i, none⟩ v) (some g) := by
    intro X i v hX
    exact ⟨hX.os, hX.tape, hX.output, by simp [World.setCell]; exact hX.size, fun k hk hne => (Below.heap_setCell X _ v k (fun e => hne (by rw [e]))).trans (hX.block k hk hne)⟩
  exact hs _ _ _ (h)

/-- The cells of rows; a slice of the call's own that holds rows. -/
def StR.cells (x : StR) : List Value := [.string x.s]

def flatSt (xs : List StR) : List Value := xs.flatMap StR.cells

theorem flatSt_snoc (xs : List StR) (x : StR) : flatSt (xs ++ [x]) = flatSt xs ++ x.cells := by simp [flatSt]

theorem flatSt_len (xs : List StR) : (flatSt xs).length = xs.length * 1 := by
  induction xs with
  | nil => rfl
  | cons x r ih => show (x.cells ++ flatSt r).length = _; rw [List.length_append, ih]; simp [StR.cells]; omega

theorem flatSt_get {xs : List StR} {i : Nat} {x : StR} (h : xs[i]? = some x) : (flatSt xs)[i * 1]? = some (.string x.s) := by
  induction xs generalizing i with
  | nil => simp at h
  | cons y r ih =>
    have hf : flatSt (y :: r) = y.cells ++ flatSt r := rfl
    cases i with
    | zero =>
      simp at h
      subst h
      rw [hf]
      exact rfl
    | succ i =>
      simp at h
      obtain h0 := ih h
      have hl : y.cells.length = 1 := rfl
      rw [hf]
      refine ?_
      · rw [List.getElem?_append_right (by omega), hl, show (i + 1) * 1 - 1 = i * 1 by omega]; exact h0

def OwnSt (W : World) (B : Nat) (v : Value) (ys : List StR) : Prop := W.ownsRow B 9 1 v ys.length (flatSt ys)

theorem ownSt_ge {W : World} {B : Nat} {v : Value} {ys : List StR} (h : OwnSt W B v ys) : ∀ k, v.ownBlock = some k → B ≤ k := by
  intro k hk
  rcases h.2 with ⟨rfl, _⟩ | ⟨g, cap, cur, rfl, hg, _⟩
  · cases hk
  · simp [Value.ownBlock] at hk; omega

theorem ownSt_snoc {w1 : World} {B : Nat} {v' : Value} {ys : List StR} {x : StR} (ho : w1.ownsRow B 9 1 v' (ys.length + 1) (flatSt ys ++ x.cells)) : OwnSt w1 B v' (ys ++ [x]) := by
  unfold OwnSt
  rw [flatSt_snoc]
  simpa using ho

theorem cells_newSt (w : World) (s : ByteArray) (ty : Nat) : ∀ j u, ([.string s] : List Value)[j]? = some u → (w.alloc (.cells #[.string s] ty)).cell? ((⟨w.heap.size, 0, none⟩ : Addr).add j) = some u := by
  intro j u hj
  have e : ((⟨w.heap.size, 0, none⟩ : Addr).add j) = ⟨w.heap.size, j, none⟩ := by
    unfold Addr.add
    split
    · rename_i h0; rw [h0]
    · simp
  rw [e]
  simpa [go_sem] using hj

theorem cells_atSt (w : World) (s : ByteArray) (ty : Nat) {g : Nat} (hg : g = w.heap.size) : ∀ j u, ([.string s] : List Value)[j]? = some u → (w.alloc (.cells #[.string s] ty)).cell? ((⟨g, 0, none⟩ : Addr).add j) = some u := by
  subst hg
  exact cells_newSt w s ty

/-- The block of a slice's rows, if there are any; what may be written; what has been marked. -/
def rowSt (a : Option Addr) (n : Nat) : Option Nat := if n = 0 then none else a.map (·.block)

theorem rowSt_zero (a : Option Addr) : rowSt a 0 = none := rfl

theorem rowSt_pos {n : Nat} (h : n ≠ 0) (g o : Nat) : rowSt (some ⟨g, o, none⟩) n = some g := by unfold rowSt; rw [if_neg h]; rfl

def mkTxt (k : Nat) : ByteArray := ⟨#[109]⟩ ++ ⟨(Lib.decDigits k).toArray⟩

def markSt (i : Nat) : StR := ⟨mkTxt (i + 1)⟩

def WrSt (W : World) (a : Option Addr) (n cap : Nat) : Prop := n = 0 ∨ ∃ g, a = some ⟨g, 0, none⟩ ∧ BlkSt W g 9 cap ∧ n ≤ cap

def MarkedSt (W : World) (a : Option Addr) (n : Nat) : Prop := n = 0 ∨ ∃ g, a = some ⟨g, 0, none⟩ ∧ ∀ i, i < n → StRAt W g (i * 1) (markSt i)

theorem grown0St {W W' : World} (h : Below W.heap.size W W') : W.grownBy W' none := ⟨h.os, h.tape, h.output, h.size, fun k hk _ => h.block k hk⟩

theorem growSt {w W W' : World} {row : Option Nat} (h : Below w.heap.size w W) (hg : W.grownBy W' row) (hr : ∀ k, row = some k → w.heap.size ≤ k) : Below w.heap.size w W' := h.grown hg h.size hr

theorem MarkedSt.below {W W' : World} {a : Option Addr} {n : Nat} (h : MarkedSt W a n) (hb : Below W.heap.size W W') : MarkedSt W' a n := by
  rcases h with h | ⟨g, ha, hM⟩
  · exact Or.inl h
  · exact Or.inr ⟨g, ha, fun i hi => (hM i hi).below hb (hM i hi).lt⟩

theorem holdSt {W : World} {B : Nat} {v : Value} {ys : List StR} (h : OwnSt W B v ys) (hl : ys.length ≤ 1048576) :
    ∃ a cap, v = .slice a ys.length cap ∧ StRs W a ys.length ys ∧ WrSt W a ys.length cap ∧ ∀ g o, 0 < ys.length → a = some ⟨g, o, none⟩ → B ≤ g := by
  have hm : ys.length ≤ maxLen := by unfold maxLen; omega
  obtain ⟨hlen, h | ⟨g, cap, cur, rfl, hB, hblk, hnc, hcm, hsz, htk⟩⟩ := h
  · obtain ⟨rfl, h0⟩ := h
    rw [h0]
    exact ⟨none, 0, rfl, ⟨h0, Nat.zero_le _, Or.inl rfl⟩, Or.inl rfl, fun _ _ hp => by omega⟩
  · refine ⟨_, cap, rfl, ⟨rfl, hm, Or.inr ⟨g, 0, rfl, ?_⟩⟩, Or.inr ⟨g, rfl, ⟨cur, hblk, hsz⟩, hnc⟩, fun g' o' _ e => by simp at e; omega⟩
    intro i x hx
    have hi : i < ys.length := (List.getElem?_eq_some_iff.1 hx).1
    have hcell : ∀ j u, j < ys.length * 1 → (flatSt ys)[j]? = some u → W.cell? ⟨g, j, none⟩ = some u := by
      intro j u hj hu
      rw [Joins.cell_of_block hblk j, ← Array.getElem?_toList]
      rw [← htk, List.getElem?_take_of_lt hj] at hu
      exact hu
    obtain f0 := flatSt_get hx
    rw [Nat.zero_add]
    exact hcell _ _ (by omega) f0

theorem WrSt.below {W W' : World} {a : Option Addr} {n cap : Nat} (h : WrSt W a n cap) (hb : Below W.heap.size W W') : WrSt W' a n cap := by
  rcases h with h | ⟨g, ha, hB, hc⟩
  · exact Or.inl h
  · exact Or.inr ⟨g, ha, hB.below hb hB.lt, hc⟩

theorem WrSt.grown {W W' : World} {row : Option Nat} {a : Option Addr} {n cap : Nat} (h : WrSt W a n cap) (hg : W.grownBy W' row) (hne : ∀ g o, 0 < n → a = some ⟨g, o, none⟩ → some g ≠ row) : WrSt W' a n cap := by
  rcases h with h | ⟨g, ha, hB, hc⟩
  · exact Or.inl h
  · by_cases h0 : n = 0
    · exact Or.inl h0
    · obtain ⟨cur, c1, c2⟩ := hB
      exact Or.inr ⟨g, ha, ⟨cur, (hg.block g (Array.getElem?_eq_some_iff.1 c1).1 (hne g 0 (by omega) ha)).trans c1, c2⟩, hc⟩

theorem WrSt.shape {W : World} {a : Option Addr} {n cap : Nat} (h : WrSt W a n cap) : n = 0 ∨ ∃ g', a = some ⟨g', 0, none⟩ := by
  rcases h with h | ⟨g, ha, _⟩
  · exact Or.inl h
  · exact Or.inr ⟨g, ha⟩

theorem rowSt_ne {a : Option Addr} {n g : Nat} (h : ∀ g' o', 0 < n → a = some ⟨g', o', none⟩ → g ≠ g') (hs : n = 0 ∨ ∃ g', a = some ⟨g', 0, none⟩) : some g ≠ rowSt a n := by
  rcases hs with rfl | ⟨g', rfl⟩
  · simp [rowSt_zero]
  · by_cases h0 : n = 0
    · subst h0; simp [rowSt_zero]
    · rw [rowSt_pos h0]
      have := h g' 0 (by omega) rfl
      simpa using this

theorem rowSt_ge {a : Option Addr} {n B : Nat} (h : ∀ g' o', 0 < n → a = some ⟨g', o', none⟩ → B ≤ g') (hs : n = 0 ∨ ∃ g', a = some ⟨g', 0, none⟩) : ∀ k, rowSt a n = some k → B ≤ k := by
  intro k hk
  rcases hs with rfl | ⟨g', rfl⟩
  · simp [rowSt_zero] at hk
  · by_cases h0 : n = 0
    · subst h0; simp [rowSt_zero] at hk
    · rw [rowSt_pos h0] at hk
      have := h g' 0 (by omega) rfl
      simp at hk
      omega

theorem markSt_step {w wr : World} {g ty cap j : Nat} (hB : BlkSt wr g ty cap) (hj : j < cap) (hM : ∀ i, i < j → StRAt wr g (i * 1) (markSt i)) (hG : w.grownBy wr (some g)) :
    BlkSt (setSt wr g (j * 1) (markSt j)) g ty cap ∧ (∀ i, i < j + 1 → StRAt (setSt wr g (j * 1) (markSt j)) g (i * 1) (markSt i)) ∧ w.grownBy (setSt wr g (j * 1) (markSt j)) (some g) := by
  refine ⟨hB.sets _, fun i hi => ?_, grown_setSt hG⟩
  by_cases he : i = j
  · subst he
    exact setSt_this hB hj (markSt i)
  · exact setSt_ne (hM i (by omega)) he

theorem ret_st {a b : ByteArray} (h : a = b) : Ending.returned (.string a) = .returned (.string b) := by rw [h]

theorem mkTxt_size (k : Nat) (h : k ≤ 99999999) : (mkTxt k).size ≤ 22 := by
  unfold mkTxt
  rw [ByteArray.size_append]
  have := dec_len k h
  have e : (⟨#[109]⟩ : ByteArray).size = 1 := rfl
  have e2 : (⟨(Lib.decDigits k).toArray⟩ : ByteArray).size = (Lib.decDigits k).length := by show (Lib.decDigits k).toArray.size = _; simp
  omega

/-- The digits of what is left. -/
def digL (u : Nat) : List UInt8 := if u = 0 then [] else Lib.decDigits u

theorem digL_0 : digL 0 = [] := rfl

theorem digL_p {u : Nat} (h : u ≠ 0) : digL u = Lib.decDigits u := if_neg h

theorem digL_step {u : Nat} (h : u ≠ 0) : digL u = digL (u / 10) ++ [UInt8.ofNat (48 + u % 10)] := by
  rw [digL_p h]
  by_cases h1 : u < 10
  · rw [dec_lt h1, show u / 10 = 0 by omega, digL_0, show u % 10 = u by omega]; rfl
  · rw [dec_ge h1, digL_p (by omega)]

end Go.Proofs.YtcokdcehjibanaaGreatDoor
