/- Proved here: logs in slices of one's own, each apart from the others; marked, and found so. -/
import Derived.Test.YtcokdcehjibanaaDoorLogOwn
import Derived.Test.YtcokdcehjibanaaDoorOwnB
import Derived.Test.YtcokdcehjibanaaDoorRkItm
namespace Go.Proofs.YtcokdcehjibanaaDoor
open Go.ChangeShapes Go.WideShapes Go.ChangeAt Go.RowKit
set_option linter.unusedVariables false
set_option linter.unusedSimpArgs false

/-- Rows of two types do not share a block. -/
theorem lg_ne {W : World} {B B' : Nat} {e e' : TypeId} {s s' n n' : Nat} {v v' : Value} {xs xs' : List Value} (h : W.ownsRow B e s v n xs) (h' : W.ownsRow B' e' s' v' n' xs') (he : e ≠ e') : v.ownBlock = none ∨ v.ownBlock ≠ v'.ownBlock := by
  rcases h with ⟨_, ⟨rfl, _⟩ | ⟨g, cap, cur, rfl, _, hb, _⟩⟩
  · exact Or.inl rfl
  · refine Or.inr fun hc => ?_
    rcases h' with ⟨_, ⟨rfl, _⟩ | ⟨g', cap', cur', rfl, _, hb', _⟩⟩
    · cases hc
    · have h1 : g = g' := Option.some.inj hc
      subst h1
      rw [hb] at hb'
      injection hb' with h2
      injection h2 with _ h3
      exact he h3

theorem lg_mono {W : World} {B B' size n : Nat} {e : TypeId} {v : Value} {ys : List Value} (h : W.ownsRow B e size v n ys) (hB : B' ≤ B) : W.ownsRow B' e size v n ys := by
  rcases h with ⟨hl, h | ⟨g, cap, cur, rfl, h1, h2⟩⟩
  · exact ⟨hl, Or.inl h⟩
  · exact ⟨hl, Or.inr ⟨g, cap, cur, rfl, by omega, h2⟩⟩
/-- Logs in memory of one's own: a row of slices, each of its own. -/
structure LgO (W : World) (B : Nat) (v : Value) (us : List Value) (Ls : List (List It)) : Prop where
  len : us.length = Ls.length
  row : W.ownsRow B 32 1 v Ls.length us
  own : ∀ (i : Nat) (u : Value) (l : List It), us[i]? = some u → Ls[i]? = some l → OwnIts W B u l
  ap : ∀ (i j : Nat) (u u' : Value) (b : Nat), us[i]? = some u → us[j]? = some u' → i ≠ j → u.ownBlock = some b → u'.ownBlock ≠ some b

theorem LgO.bel {W W' : World} {B : Nat} {v : Value} {us : List Value} {Ls : List (List It)} (h : LgO W B v us Ls) (hb : Below W.heap.size W W') : LgO W' B v us Ls :=
  ⟨h.len, ownBel h.row hb, fun i u l hu hl => ownBel (h.own i u l hu hl) hb, h.ap⟩

theorem LgO.lts {W : World} {B : Nat} {v : Value} {us : List Value} {Ls : List (List It)} (h : LgO W B v us Ls) {i : Nat} {u : Value} (hu : us[i]? = some u) {b : Nat} (hb : u.ownBlock = some b) : B ≤ b ∧ b < W.heap.size := by
  have hi := (List.getElem?_eq_some_iff.1 hu).1
  have hl := h.len
  exact (h.own i u Ls[i] hu (List.getElem?_eq_getElem (by omega))).lt b hb

theorem LgO.mono {W : World} {B B' : Nat} {v : Value} {us : List Value} {Ls : List (List It)} (h : LgO W B v us Ls) (hB : B' ≤ B) : LgO W B' v us Ls :=
  ⟨h.len, lg_mono h.row hB, fun i u l hu hl => lg_mono (h.own i u l hu hl) hB, h.ap⟩

/-- What is turned lies below it. -/
theorem LgO.low {W W' : World} {row : Option Nat} {B : Nat} {v : Value} {us : List Value} {Ls : List (List It)} (h : LgO W B v us Ls) (hg : W.grownBy W' row) (hr : ∀ k, row = some k → k < B) : LgO W' B v us Ls := by
  have key : ∀ {B2 s2 n2 : Nat} {e2 : TypeId} {u2 : Value} {xs2 : List Value}, W.ownsRow B2 e2 s2 u2 n2 xs2 → B ≤ B2 → W'.ownsRow B2 e2 s2 u2 n2 xs2 := fun h2 hB => h2.kept hg (by
    cases hv : (_ : Value).ownBlock with
    | none => exact Or.inl rfl
    | some b => exact Or.inr (fun e => by have h3 := (h2.lt b hv).1; have h4 := hr b e.symm; omega))
  exact ⟨h.len, key h.row (Nat.le_refl _), fun i u l hu hl => key (h.own i u l hu hl) (Nat.le_refl _), h.ap⟩

/-- The first: one empty log; none. -/
theorem LgO.nil0 {W : World} {B : Nat} {v : Value} (h : W.ownsRow B 32 1 v 0 []) : LgO W B v [] [] :=
  ⟨rfl, h, fun i u l hu => by simp at hu, fun i j u u' b hu => by simp at hu⟩
theorem LgO.one {W : World} {B : Nat} {v u : Value} (h : W.ownsRow B 32 1 v 1 [u]) (hu : OwnIts W B u []) : LgO W B v [u] [[]] := by
  refine ⟨rfl, h, fun i u' l hu' hl => ?_, fun i j u1 u2 b h1 h2 hij => ?_⟩
  · cases i with
    | zero => simp at hu' hl; subst hu'; subst hl; exact hu
    | succ i => simp at hu'
  · cases i with
    | zero => cases j with
      | zero => exact absurd rfl hij
      | succ j => simp at h2
    | succ i => simp at h1

theorem lg_get {α : Type} {l : List α} {a p : α} {i : Nat} (h : (l ++ [a])[i]? = some p) : l[i]? = some p ∧ i < l.length ∨ i = l.length ∧ p = a := by
  rcases Nat.lt_or_ge i l.length with hl | hl
  · rw [List.getElem?_append_left hl] at h
    exact Or.inl ⟨h, hl⟩
  · rw [List.getElem?_append_right hl] at h
    have h0 : i - l.length = 0 := by
      rcases Nat.eq_zero_or_pos (i - l.length) with h0 | h0
      · exact h0
      · rw [List.getElem?_eq_none (by simp; omega)] at h; cases h
    rw [h0] at h
    simp at h
    exact Or.inr ⟨by omega, h.symm⟩

/-- One log more, an empty one. -/
theorem LgO.push {W w1 : World} {o : Obj} {B : Nat} {v v' u : Value} {us : List Value} {Ls : List (List It)} (h : LgO W B v us Ls) (hu : OwnIts W B u []) (hap : ∀ (i : Nat) (u' : Value) (b : Nat), us[i]? = some u' → u'.ownBlock = some b → u.ownBlock ≠ some b)
    (hown : w1.ownsRow B 32 1 v' (Ls.length + 1) (us ++ [u])) (hg : (W.alloc o).grownBy w1 v.ownBlock) : LgO w1 B v' (us ++ [u]) (Ls ++ [[]]) := by
  have hl := h.len
  have kp : ∀ {u2 : Value} {l : List It}, OwnIts W B u2 l → OwnIts w1 B u2 l := fun h2 => (World.ownsRow.alloc h2 o).kept hg (lg_ne h2 h.row (by decide))
  refine ⟨by simp [hl], by simpa using hown, fun i u2 l hu2 hl2 => ?_, fun i j u1 u2 b h1 h2 hij hb hb2 => ?_⟩
  · rcases lg_get hu2 with ⟨a1, a2⟩ | ⟨a1, rfl⟩
    · rcases lg_get hl2 with ⟨b1, _⟩ | ⟨b1, _⟩
      · exact kp (h.own i u2 l a1 b1)
      · omega
    · rcases lg_get hl2 with ⟨_, b1⟩ | ⟨_, rfl⟩
      · omega
      · exact kp hu
  · rcases lg_get h1 with ⟨a1, a2⟩ | ⟨a1, rfl⟩
    · rcases lg_get h2 with ⟨c1, c2⟩ | ⟨c1, rfl⟩
      · exact h.ap i j u1 u2 b a1 c1 hij hb hb2
      · exact hap i u1 b a1 hb hb2
    · rcases lg_get h2 with ⟨c1, c2⟩ | ⟨c1, rfl⟩
      · exact hap j u2 b c1 hb2 hb
      · omega

/-- The last log has one item more. -/
theorem LgO.last {W w2 : World} {o : Obj} {B g cap : Nat} {u u' : Value} {us : List Value} {Ls : List (List It)} {k : Nat} {l : List It} {x : It} (h : LgO W B (.slice (some ⟨g, 0, none⟩) Ls.length cap) us Ls) (hB : B ≤ W.heap.size) (hk : us[k]? = some u) (hl : Ls[k]? = some l)
    (hown : w2.ownsRow B 34 5 u' (l.length + 1) (flat l ++ x.cells)) (hg : (W.alloc o).grownBy w2 u.ownBlock) (hn : u'.ownBlock = u.ownBlock ∨ u'.ownBlock = some (W.alloc o).heap.size) : LgO (w2.setCell ⟨g, k, none⟩ u') B (.slice (some ⟨g, 0, none⟩) Ls.length cap) (us.set k u') (Ls.set k (l ++ [x])) := by
  have hll := h.len
  have hki := (List.getElem?_eq_some_iff.1 hk).1
  have hu := h.own k u l hk hl
  have hr2 : w2.ownsRow B 32 1 (.slice (some ⟨g, 0, none⟩) Ls.length cap) Ls.length us := (World.ownsRow.alloc h.row o).kept hg (lg_ne h.row hu (by decide))
  have hn2 : ∀ b, u'.ownBlock = some b → ∀ j u2, us[j]? = some u2 → j ≠ k → u2.ownBlock ≠ some b := fun b hb j u2 h2 hj hb2 => by
    rcases hn with e | e
    · exact h.ap j k u2 u b h2 hk hj hb2 (by rw [← e]; exact hb)
    · have := (h.lts h2 hb2).2
      rw [hb] at e
      have e2 := Option.some.inj e
      simp at e2
      omega
  have hrow := World.ownsRow.stored hr2 k u'
  have kps : ∀ {u2 : Value} {l2 : List It}, OwnIts w2 B u2 l2 → OwnIts (w2.setCell ⟨g, k, none⟩ u') B u2 l2 := fun h2 => World.ownsRow.kept h2 hrow.2 (lg_ne h2 hr2 (by decide))
  refine ⟨by simp [hll], by simpa using hrow.1, fun i u2 l2 hu2 hl2 => ?_, fun i j u1 u2 b h1 h2 hij hb hb2 => ?_⟩
  · by_cases hi : i = k
    · subst hi
      rw [List.getElem?_set_self hki] at hu2
      rw [List.getElem?_set_self (by omega)] at hl2
      cases hu2
      cases hl2
      refine kps ?_
      unfold OwnIts
      rw [flat_snoc, List.length_append]
      exact hown
    · rw [List.getElem?_set_ne (fun e => hi e.symm)] at hu2 hl2
      have h3 := h.own i u2 l2 hu2 hl2
      refine kps ((World.ownsRow.alloc h3 o).kept hg ?_)
      cases hv : u2.ownBlock with
      | none => exact Or.inl rfl
      | some b => exact Or.inr (fun e => h.ap i k u2 u b hu2 hk hi hv e.symm)
  · by_cases hi : i = k
    · subst hi
      rw [List.getElem?_set_self hki] at h1
      cases h1
      rw [List.getElem?_set_ne hij] at h2
      exact hn2 b hb j u2 h2 (fun e => hij e.symm) hb2
    · rw [List.getElem?_set_ne (fun e => hi e.symm)] at h1
      by_cases hj : j = k
      · subst hj
        rw [List.getElem?_set_self hki] at h2
        cases h2
        exact hn2 b hb2 i u1 h1 hi hb
      · rw [List.getElem?_set_ne (fun e => hj e.symm)] at h2
        exact h.ap i j u1 u2 b h1 h2 hij hb hb2

/-- What stands at a place of the row. -/
theorem LgO.shape {W : World} {B : Nat} {v : Value} {us : List Value} {Ls : List (List It)} (h : LgO W B v us Ls) (hp : 0 < Ls.length) : ∃ g cap, v = .slice (some ⟨g, 0, none⟩) Ls.length cap ∧ B ≤ g ∧ g < W.heap.size ∧ Ls.length ≤ cap := by
  rcases h.row.2 with ⟨_, h0⟩ | ⟨g, cap, cur, rfl, hB, hblk, hc, _⟩
  · omega
  · exact ⟨g, cap, rfl, hB, (Array.getElem?_eq_some_iff.1 hblk).1, hc⟩
theorem LgO.slice {W : World} {B : Nat} {v : Value} {us : List Value} {Ls : List (List It)} (h : LgO W B v us Ls) : ∃ a cap, v = .slice a Ls.length cap := by
  rcases h.row.2 with ⟨rfl, h0⟩ | ⟨g, cap, cur, rfl, _⟩
  · exact ⟨_, 0, by rw [h0]⟩
  · exact ⟨_, _, rfl⟩
theorem LgO.at_ {W : World} {B g cap : Nat} {us : List Value} {Ls : List (List It)} (h : LgO W B (.slice (some ⟨g, 0, none⟩) Ls.length cap) us Ls) {k : Nat} {l : List It} (hk : Ls[k]? = some l) (hm : l.length ≤ maxLen) : ∃ a c, us[k]? = some (.slice a l.length c) ∧ W.cell? ⟨g, k, none⟩ = some (.slice a l.length c) ∧ Its W a l.length l := by
  have hi := (List.getElem?_eq_some_iff.1 hk).1
  have hl := h.len
  have hu : us[k]? = some us[k] := List.getElem?_eq_getElem (by omega)
  obtain ⟨a, c, e, hI⟩ := own_its (h.own k us[k] l hu hk) hm
  refine ⟨a, c, by rw [hu, e], ?_, hI⟩
  rw [World.ownsRow.cellAt h.row k (by omega), hu, e]
theorem LgO.frozen {W : World} {B g cap : Nat} {us : List Value} {Ls : List (List It)} (h : LgO W B (.slice (some ⟨g, 0, none⟩) Ls.length cap) us Ls) (k : Nat) : W.frozen? ⟨g, k, none⟩ = false := World.ownsRow.frozenAt h.row k

/-- The number behind marking. -/
def kLg (K : Int) (Ls : List (List It)) : Int := Ls.foldl (fun k l => k + 5 * (l.length : Int)) K
theorem kLg_snoc {K : Int} {Ls : List (List It)} {i : Nat} {l : List It} (h : Ls[i]? = some l) : kLg K (Ls.take (i + 1)) = kLg K (Ls.take i) + 5 * (l.length : Int) := by
  obtain ⟨hi, he⟩ := List.getElem?_eq_some_iff.1 h
  rw [List.take_succ_eq_append_getElem hi, he]
  simp [kLg, List.foldl_append]
theorem kLg_bd (K : Int) (Ls : List (List It)) (h : ∀ l ∈ Ls, l.length ≤ 1048576) : K ≤ kLg K Ls ∧ kLg K Ls ≤ K + 5242880 * (Ls.length : Int) := by
  induction Ls generalizing K with
  | nil => simp [kLg]
  | cons v r ih =>
    have h0 := h v (by simp)
    have h1 := ih (K + 5 * (v.length : Int)) (fun u hu => h u (by simp [hu]))
    show K ≤ kLg (K + 5 * (v.length : Int)) r ∧ kLg (K + 5 * (v.length : Int)) r ≤ _
    simp only [List.length_cons]
    omega
theorem kLg_at {Ls : List (List It)} (i : Nat) (h : ∀ l ∈ Ls, l.length ≤ 1048576) (hn : Ls.length ≤ 1048576) : 1 ≤ kLg 1 (Ls.take i) ∧ kLg 1 (Ls.take i) ≤ 5497558138881 := by
  have h1 := kLg_bd 1 (Ls.take i) (fun l hl => h l (List.mem_of_mem_take hl))
  have h2 : (Ls.take i).length ≤ Ls.length := by rw [List.length_take]; omega
  omega

/-- Marked from a number on. -/
structure MkLg (W : World) (B : Nat) (v : Value) (us : List Value) (Ls : List (List It)) : Prop where
  len : us.length = Ls.length
  row : W.ownsRow B 32 1 v Ls.length us
  mk_ : ∀ (i : Nat) (l : List It), Ls[i]? = some l → ∃ a c, us[i]? = some (.slice a l.length c) ∧ MarkedKIw W a l.length (kLg 1 (Ls.take i))
theorem MkLg.bel {W W' : World} {B : Nat} {v : Value} {us : List Value} {Ls : List (List It)} (h : MkLg W B v us Ls) (hb : Below W.heap.size W W') : MkLg W' B v us Ls :=
  ⟨h.len, ownBel h.row hb, fun i l hl => by obtain ⟨a, c, h1, h2⟩ := h.mk_ i l hl; exact ⟨a, c, h1, h2.below hb⟩⟩
theorem MkLg.slice {W : World} {B : Nat} {v : Value} {us : List Value} {Ls : List (List It)} (h : MkLg W B v us Ls) : ∃ a cap, v = .slice a Ls.length cap := by
  rcases h.row.2 with ⟨rfl, h0⟩ | ⟨g, cap, cur, rfl, _⟩
  · exact ⟨_, 0, by rw [h0]⟩
  · exact ⟨_, _, rfl⟩

theorem wr_of_own {W : World} {B : Nat} {a : Option Addr} {n c : Nat} {l : List It} (h : OwnIts W B (.slice a n c) l) (hn : l.length = n) : WrIw W a n c := by
  rcases h.2 with ⟨h0, h1⟩ | ⟨g, cap, cur, e, _, hblk, hc, _, hs, _⟩
  · exact Or.inl (by omega)
  · simp only [Value.slice.injEq] at e
    obtain ⟨rfl, rfl, rfl⟩ := e
    exact Or.inr ⟨g, rfl, ⟨cur, hblk, hs⟩, by omega⟩
theorem row_of_own {W : World} {B : Nat} {a : Option Addr} {n c : Nat} {l : List It} (h : OwnIts W B (.slice a n c) l) (hn : l.length = n) : ∀ b, rowIw a n = some b → (Value.slice a n c).ownBlock = some b := by
  intro b hb
  by_cases h0 : n = 0
  · subst h0; simp [rowIw] at hb
  · rcases h.2 with ⟨h1, h2⟩ | ⟨g, cap, cur, e, _⟩
    · omega
    · simp only [Value.slice.injEq] at e
      obtain ⟨rfl, _⟩ := e
      rw [rowIw_pos h0] at hb
      exact hb

/-- While they are being marked. -/
structure InvLg (w wr : World) (B : Nat) (v : Value) (us : List Value) (Ls : List (List It)) (j : Nat) : Prop where
  row : wr.ownsRow B 32 1 v Ls.length us
  mkd : ∀ (i : Nat) (l : List It), i < j → Ls[i]? = some l → ∃ a c, us[i]? = some (.slice a l.length c) ∧ MarkedKIw wr a l.length (kLg 1 (Ls.take i))
  un : ∀ (i : Nat) (u : Value) (l : List It), j ≤ i → us[i]? = some u → Ls[i]? = some l → OwnIts wr B u l
  bel : Below B w wr
theorem InvLg.start {w : World} {B : Nat} {v : Value} {us : List Value} {Ls : List (List It)} (h : LgO w B v us Ls) : InvLg w w B v us Ls 0 :=
  ⟨h.row, fun i l hi => absurd hi (by omega), fun i u l _ hu hl => h.own i u l hu hl, Below.refl _ _⟩
theorem InvLg.step {w wr w2 : World} {B : Nat} {v : Value} {us : List Value} {Ls : List (List It)} {j : Nat} {a : Option Addr} {c : Nat} {l : List It} (h0 : LgO w B v us Ls) (h : InvLg w wr B v us Ls j) (hB : B ≤ wr.heap.size) (hu : us[j]? = some (.slice a l.length c)) (hl : Ls[j]? = some l) (hm : MarkedKIw w2 a l.length (kLg 1 (Ls.take j))) (hg : wr.grownBy w2 (rowIw a l.length)) : InvLg w w2 B v us Ls (j + 1) := by
  have hO := h.un j _ l (Nat.le_refl _) hu hl
  have hR := row_of_own hO rfl
  have hne : ∀ {u2 : Value} {B2 s2 n2 : Nat} {e2 : TypeId} {xs2 : List Value}, wr.ownsRow B2 e2 s2 u2 n2 xs2 → (u2.ownBlock = none ∨ u2.ownBlock ≠ (Value.slice a l.length c).ownBlock) → w2.ownsRow B2 e2 s2 u2 n2 xs2 := fun h2 hn => h2.kept hg (by
    rcases hn with hn | hn
    · exact Or.inl hn
    · cases hr : rowIw a l.length with
      | none =>
        cases hv : (_ : Value).ownBlock with
        | none => exact Or.inl rfl
        | some b => exact Or.inr (by simp)
      | some b => rw [hR b hr] at hn; exact Or.inr hn)
  refine ⟨hne h.row (lg_ne h.row hO (by decide)), fun i l2 hi hl2 => ?_, fun i u2 l2 hi hu2 hl2 => ?_, h.bel.grown hg hB (fun k hk => (hO.lt k (hR k hk)).1)⟩
  · by_cases he : i = j
    · subst he
      rw [hl] at hl2
      cases hl2
      exact ⟨a, c, hu, hm⟩
    · obtain ⟨a2, c2, hu2, hM⟩ := h.mkd i l2 (by omega) hl2
      refine ⟨a2, c2, hu2, hM.keep (fun g o hp ha => ?_)⟩
      subst ha
      refine hg.block g ?_ (fun e => ?_)
      · rcases hM with h9 | ⟨g9, e9, hM9⟩
        · omega
        · cases e9; exact (hM9 0 hp).lt
      · exact h0.ap i j _ _ g hu2 hu he rfl (hR g e.symm)
  · refine hne (h.un i u2 l2 (by omega) hu2 hl2) ?_
    cases hv : u2.ownBlock with
    | none => exact Or.inl rfl
    | some b => exact Or.inr (fun e => h0.ap i j u2 _ b hu2 hu (by omega) hv e.symm)
theorem InvLg.done {w wr : World} {B : Nat} {v : Value} {us : List Value} {Ls : List (List It)} (h0 : us.length = Ls.length) (h : InvLg w wr B v us Ls Ls.length) : MkLg wr B v us Ls :=
  ⟨h0, h.row, fun i l hl => h.mkd i l (List.getElem?_eq_some_iff.1 hl).1 hl⟩
end Go.Proofs.YtcokdcehjibanaaDoor
