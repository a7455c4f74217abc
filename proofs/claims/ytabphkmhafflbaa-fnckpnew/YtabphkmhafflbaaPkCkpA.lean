/- Laid together: what the claim needs of the texts that were built one by one. -/
import Derived.Test.YtabphkmhafflbaaPkCkpTo
import Derived.Test.YtabphkmhafflbaaPkBase
namespace Go.Proofs.Ytabphkmhafflbaa
open Go.ChangeShapes Go.WideShapes Go.ChangeAt Go.RowKit Go.Deep
set_option linter.unusedVariables false

theorem rowOr_own {a : Option Addr} {n cap b : Nat} (h : rowOr a n = some b) : (Value.slice a n cap).ownBlock = some b := by
  unfold rowOr at h
  split at h
  · cases h
  · cases a with
    | none => cases h
    | some q => exact h

theorem ne_own {u v : Value} {b : Nat} (h : u.ownBlock = none ∨ u.ownBlock ≠ v.ownBlock) (e : u.ownBlock = some b) : v.ownBlock ≠ some b := fun e' => by
  rcases h with h | h
  · rw [h] at e; cases e
  · exact h (e.trans e'.symm)

theorem get_map2 {l : List (Int × SnV)} {i : Nat} {v : SnV} (h : (l.map (·.2))[i]? = some v) : ∃ p, l[i]? = some p ∧ p.2 = v := by
  rw [List.getElem?_map, Option.map_eq_some_iff] at h
  exact h

theorem copS_wr {W : World} {B : Nat} {v : Value} {l : List (Int × SnV)} {xs : List SnD} (ho : OwnSn W B v l) (hc : CopS W B l xs) (hl : xs.length ≤ 1048576) (hm : ∀ y ∈ xs, y.rows.length ≤ 1048576 ∧ y.marks.length ≤ 1048576) : ∃ a cap, v = .slice a xs.length cap ∧ SnB W B a xs.length xs ∧ WrSn W a xs.length cap (l.map (·.2)) ∧ ∀ b, SnS a xs.length (l.map (·.2)) b → B ≤ b ∧ (v.ownBlock = some b ∨ ∃ (i : Nat) (p : Int × SnV), l[i]? = some p ∧ ((Value.slice p.2.a1 p.2.l1 p.2.c1).ownBlock = some b ∨ (Value.slice p.2.a2 p.2.l2 p.2.c2).ownBlock = some b)) := by
  have at_ : ∀ (i : Nat) (p : Int × SnV), l[i]? = some p → ∃ x, xs[i]? = some x ∧ x ∈ xs := fun i p hp => by
    have hi : i < xs.length := by have := (List.getElem?_eq_some_iff.1 hp).1; have := hc.len; omega
    exact ⟨xs[i], List.getElem?_eq_getElem hi, List.getElem_mem hi⟩
  have orw : ∀ (i : Nat) (p : Int × SnV) (x : SnD), l[i]? = some p → xs[i]? = some x → OrB W B p.2.a1 p.2.l1 x.rows ∧ WrOr W p.2.a1 p.2.l1 p.2.c1 := fun i p x hp hx => by
    have h1 := hc.r1 i p x hp hx
    have h2 := (hc.at_ i p x hp hx).2.1
    have hs := (hm x (List.mem_of_getElem? hx)).1
    have h3 : OwnOr W B (.slice p.2.a1 p.2.l1 p.2.c1) x.rows := by unfold OwnOr; rw [← h2]; exact h1
    obtain ⟨a, cap, e, hr, hw, hg⟩ := holdOr h3 hs
    simp only [Value.slice.injEq] at e
    obtain ⟨rfl, e2, rfl⟩ := e
    rw [e2]
    exact ⟨⟨hr, hg⟩, hw⟩
  have inw : ∀ (i : Nat) (p : Int × SnV) (x : SnD), l[i]? = some p → xs[i]? = some x → InB W B p.2.a2 p.2.l2 x.marks ∧ WrC W 3 p.2.a2 p.2.l2 p.2.c2 := fun i p x hp hx => by
    have h1 := hc.r2 i p x hp hx
    have h2 := (hc.at_ i p x hp hx).2.2
    have hs := (hm x (List.mem_of_getElem? hx)).2
    obtain ⟨a, cap, e, hr, hw, hg⟩ := ownIn_of h1 h2.symm (by omega)
    simp only [Value.slice.injEq, true_and] at e
    obtain ⟨rfl, rfl⟩ := e
    exact ⟨hr, hw⟩
  obtain ⟨a, cap, rfl, hB, hblk, hrow⟩ := ownSn_of (n := xs.length) (xs := xs) (l := l) ho hc.len rfl hl (fun i p x hp hx => ⟨(hc.at_ i p x hp hx).1.symm, (orw i p x hp hx).1, (inw i p x hp hx).1⟩)
  refine ⟨a, cap, rfl, hB, ⟨by rw [List.length_map, hc.len], hblk, fun i u hu => ?_, fun i u hu => ?_, fun i u hu => ?_, fun i u b hu hb => ?_, fun i u b hu hb => ?_, fun i j u t b hu ht hij hb hb2 => ?_⟩, fun b hb => ?_⟩
  · obtain ⟨p, hp, rfl⟩ := get_map2 hu
    obtain ⟨x, hx, _⟩ := at_ i p hp
    exact (orw i p x hp hx).2
  · obtain ⟨p, hp, rfl⟩ := get_map2 hu
    obtain ⟨x, hx, _⟩ := at_ i p hp
    exact (inw i p x hp hx).2
  · obtain ⟨p, hp, rfl⟩ := get_map2 hu
    obtain ⟨x, hx, hxm⟩ := at_ i p hp
    obtain ⟨_, h2, h3⟩ := hc.at_ i p x hp hx
    have := hm x hxm
    omega
  · obtain ⟨p, hp, rfl⟩ := get_map2 hu
    obtain ⟨x, hx, _⟩ := at_ i p hp
    intro hr
    have hv := (hrow b hr).1
    rcases hb with hb | hb
    · exact ne_own (own_ne (hc.r1 i p x hp hx) ho (by decide)) (rowOr_own hb) hv
    · exact ne_own (own_ne (hc.r2 i p x hp hx) ho (by decide)) (rowC_own hb) hv
  · obtain ⟨p, hp, rfl⟩ := get_map2 hu
    obtain ⟨x, hx, _⟩ := at_ i p hp
    intro hr
    exact ne_own (own_ne (hc.r1 i p x hp hx) (hc.r2 i p x hp hx) (by decide)) (rowOr_own hb) (rowC_own hr)
  · obtain ⟨p, hp, rfl⟩ := get_map2 hu
    obtain ⟨q, hq, rfl⟩ := get_map2 ht
    obtain ⟨x, hx, _⟩ := at_ i p hp
    obtain ⟨y, hy, _⟩ := at_ j q hq
    rcases hb with hb | hb <;> rcases hb2 with hb2 | hb2
    · exact hc.d1 i j p q hp hq hij b (rowOr_own hb) (rowOr_own hb2)
    · exact ne_own (own_ne (hc.r1 i p x hp hx) (hc.r2 j q y hq hy) (by decide)) (rowOr_own hb) (rowC_own hb2)
    · exact ne_own (own_ne (hc.r2 i p x hp hx) (hc.r1 j q y hq hy) (by decide)) (rowC_own hb) (rowOr_own hb2)
    · exact hc.d2 i j p q hp hq hij b (rowC_own hb) (rowC_own hb2)
  · rcases hb with hb | ⟨i, u, hu, hb⟩
    · exact ⟨(hrow b hb).2, Or.inl (hrow b hb).1⟩
    · obtain ⟨p, hp, rfl⟩ := get_map2 hu
      rcases hb with hb | hb
      · have h9 : (Value.slice p.2.a1 p.2.l1 p.2.c1).ownBlock = some b := rowOr_own hb
        exact ⟨(hc.rngs i p hp b (Or.inl h9)).1, Or.inr ⟨i, p, hp, Or.inl h9⟩⟩
      · have h9 : (Value.slice p.2.a2 p.2.l2 p.2.c2).ownBlock = some b := rowC_own hb
        exact ⟨(hc.rngs i p hp b (Or.inr h9)).1, Or.inr ⟨i, p, hp, Or.inr h9⟩⟩

/-- What is asked of checkpoints' sizes. -/
def CkLim (D : CkD) : Prop := D.src.length ≤ 1048576 ∧ D.tsk.length ≤ 1048576 ∧ (D.sn.length ≤ 1048576 ∧ ∀ y ∈ D.sn, y.rows.length ≤ 1048576 ∧ y.marks.length ≤ 1048576) ∧ D.at_.length ≤ 1048576 ∧ (D.ssn.length ≤ 1048576 ∧ ∀ y ∈ D.ssn, y.rows.length ≤ 1048576 ∧ y.marks.length ≤ 1048576)

/-- Checkpoints that were made, in memory of their own. -/
def NewK (w : World) (D : CkD) (e : Ending) (w' : World) : Prop := ∃ (a2 : Option Addr) (c2 : Nat) (a3 : Option Addr) (c3 : Nat) (a4 : Option Addr) (c4 : Nat) (a6 : Option Addr) (c6 : Nat) (a7 : Option Addr) (c7 : Nat) (v4 v7 : List SnV), e = .returned (.agg #[.int .i64 D.n, .bool D.op, .slice a2 D.src.length c2, .slice a3 D.tsk.length c3, .slice a4 D.sn.length c4, .int .i64 D.sfn, .slice a6 D.at_.length c6, .slice a7 D.ssn.length c7]) ∧ CkM w' w.heap.size a2 a3 a4 a6 a7 D ∧ WrCk w' a2 D.src.length c2 a3 D.tsk.length c3 a4 D.sn.length c4 a6 D.at_.length c6 a7 D.ssn.length c7 v4 v7 ∧ (∀ b, CkS a2 D.src.length a3 D.tsk.length a4 D.sn.length a6 D.at_.length a7 D.ssn.length v4 v7 b → w.heap.size ≤ b) ∧ Below w.heap.size w w'

theorem CkDis.newk {w W : World} {D : CkD} {v2 v3 v4 v6 v7 : Value} {l4 l7 : List (Int × SnV)} (h : CkDis W w.heap.size D.src D.tsk D.sn D.at_ D.ssn v2 v3 v4 v6 v7 l4 l7) (hL : CkLim D) (hb : Below w.heap.size w W) : NewK w D (.returned (.agg #[.int .i64 D.n, .bool D.op, v2, v3, v4, .int .i64 D.sfn, v6, v7])) W := by
  obtain ⟨L2, L3, ⟨L4, M4⟩, L6, ⟨L7, M7⟩⟩ := hL
  have n23 := own_ne h.o2 h.o3 (by decide)
  have n24 := own_ne h.o2 h.o4 (by decide)
  have n27 := own_ne h.o2 h.o7 (by decide)
  have n34 := own_ne h.o3 h.o4 (by decide)
  have n36 := own_ne h.o3 h.o6 (by decide)
  have n37 := own_ne h.o3 h.o7 (by decide)
  have n46 := own_ne h.o4 h.o6 (by decide)
  have n67 := own_ne h.o6 h.o7 (by decide)
  obtain ⟨a4, c4, e4, i4, R4, S4⟩ := copS_wr h.o4 h.k4 L4 M4
  obtain ⟨a7, c7, e7, i7, R7, S7⟩ := copS_wr h.o7 h.k7 L7 M7
  obtain ⟨a2, c2, e2, i2, w2, b2⟩ := ownIn_of h.o2 rfl L2
  obtain ⟨a3, c3, e3, i3, w3, b3⟩ := ownBo_of h.o3 rfl L3
  obtain ⟨a6, c6, e6, i6, w6, b6⟩ := ownIn_of h.o6 rfl L6
  have pr4 : ∀ (i : Nat) (p : Int × SnV), l4[i]? = some p → ∃ x, D.sn[i]? = some x := fun i p hp => ⟨_, List.getElem?_eq_getElem (by have := (List.getElem?_eq_some_iff.1 hp).1; have := h.k4.len; omega)⟩
  have pr7 : ∀ (i : Nat) (p : Int × SnV), l7[i]? = some p → ∃ x, D.ssn[i]? = some x := fun i p hp => ⟨_, List.getElem?_eq_getElem (by have := (List.getElem?_eq_some_iff.1 hp).1; have := h.k7.len; omega)⟩
  have i4n : ∀ {u : Value} {ty : TypeId} {size n : Nat} {xs : List Value} (hu : W.ownsRow w.heap.size ty size u n xs) (h1 : ty ≠ 82) (h2 : ty ≠ 48) (h3 : ty ≠ 3 ∨ ∀ (i : Nat) (p : Int × SnV), l4[i]? = some p ∨ l7[i]? = some p → ∀ b, (Value.slice p.2.a2 p.2.l2 p.2.c2).ownBlock = some b → u.ownBlock ≠ some b) (b : Nat) (hb : u.ownBlock = some b), ¬ SnS a4 D.sn.length (l4.map (·.2)) b ∧ ¬ SnS a7 D.ssn.length (l7.map (·.2)) b := by
    intro u ty size n xs hu h1 h2 h3 b hb'
    constructor
    · intro hs
      rcases (S4 b hs).2 with k | ⟨i, p, hp, k | k⟩
      · exact ne_own (own_ne hu h.o4 h2) hb' k
      · obtain ⟨x, hx⟩ := pr4 i p hp
        exact ne_own (own_ne hu (h.k4.r1 i p x hp hx) h1) hb' k
      · obtain ⟨x, hx⟩ := pr4 i p hp
        rcases h3 with h3 | h3
        · exact ne_own (own_ne hu (h.k4.r2 i p x hp hx) h3) hb' k
        · exact h3 i p (Or.inl hp) b k hb'
    · intro hs
      rcases (S7 b hs).2 with k | ⟨i, p, hp, k | k⟩
      · exact ne_own (own_ne hu h.o7 h2) hb' k
      · obtain ⟨x, hx⟩ := pr7 i p hp
        exact ne_own (own_ne hu (h.k7.r1 i p x hp hx) h1) hb' k
      · obtain ⟨x, hx⟩ := pr7 i p hp
        rcases h3 with h3 | h3
        · exact ne_own (own_ne hu (h.k7.r2 i p x hp hx) h3) hb' k
        · exact h3 i p (Or.inr hp) b k hb'
  have N2 := i4n h.o2 (by decide) (by decide) (Or.inr (fun i p hp b hb' => (h.dm i p hp b hb').1))
  have N3 := i4n h.o3 (by decide) (by decide) (Or.inl (by decide))
  have N6 := i4n h.o6 (by decide) (by decide) (Or.inr (fun i p hp b hb' => (h.dm i p hp b hb').2))
  have N47 : ∀ b, SnS a4 D.sn.length (l4.map (·.2)) b → ¬ SnS a7 D.ssn.length (l7.map (·.2)) b := by
    intro b hs4 hs7
    rcases (S4 b hs4).2 with k | ⟨i, p, hp, k | k⟩ <;> rcases (S7 b hs7).2 with k' | ⟨j, q, hq, k' | k'⟩
    · exact h.d47 b k k'
    · obtain ⟨x, hx⟩ := pr7 j q hq
      exact ne_own (own_ne h.o4 (h.k7.r1 j q x hq hx) (by decide)) k k'
    · obtain ⟨x, hx⟩ := pr7 j q hq
      exact ne_own (own_ne h.o4 (h.k7.r2 j q x hq hx) (by decide)) k k'
    · obtain ⟨x, hx⟩ := pr4 i p hp
      exact ne_own (own_ne (h.k4.r1 i p x hp hx) h.o7 (by decide)) k k'
    · exact h.dr i j p q hp hq b k k'
    · obtain ⟨x, hx⟩ := pr4 i p hp
      obtain ⟨y, hy⟩ := pr7 j q hq
      exact ne_own (own_ne (h.k4.r1 i p x hp hx) (h.k7.r2 j q y hq hy) (by decide)) k k'
    · obtain ⟨x, hx⟩ := pr4 i p hp
      exact ne_own (own_ne (h.k4.r2 i p x hp hx) h.o7 (by decide)) k k'
    · obtain ⟨x, hx⟩ := pr4 i p hp
      obtain ⟨y, hy⟩ := pr7 j q hq
      exact ne_own (own_ne (h.k4.r2 i p x hp hx) (h.k7.r1 j q y hq hy) (by decide)) k k'
    · exact h.dk i j p q hp hq b k k'
  subst e2 e3 e4 e6 e7
  refine ⟨a2, c2, a3, c3, a4, c4, a6, c6, a7, c7, _, _, rfl, ⟨i2, i3, i4, i6, i7⟩, ⟨w2, w3, R4, w6, R7, ⟨L2, L3, L4, L6, L7⟩, ?_, ?_, ?_, ?_⟩, ?_, hb⟩
  · intro b k
    have k' := rowC_own (cap := c2) k
    rintro (q | q | q | q)
    · exact ne_own n23 k' (rowC_own q)
    · exact (N2 b k').1 q
    · exact h.d26 b k' (rowC_own q)
    · exact (N2 b k').2 q
  · intro b k
    have k' := rowC_own (cap := c3) k
    rintro (q | q | q)
    · exact (N3 b k').1 q
    · exact ne_own n36 k' (rowC_own q)
    · exact (N3 b k').2 q
  · intro b k
    rintro (q | q)
    · exact (N6 b (rowC_own q)).1 k
    · exact N47 b k q
  · intro b k q
    exact (N6 b (rowC_own k)).2 q
  · rintro b (k | k | k | k | k)
    · exact b2 b k
    · exact b3 b k
    · exact (S4 b k).1
    · exact b6 b k
    · exact (S7 b k).1
end Go.Proofs.Ytabphkmhafflbaa
