/- Proved here: what is known of values, added one by one, hangs on no order. -/
import Derived.Test.YtikhmgkoodoeoaaBoth2
import Derived.Test.YtikhmgkoodoeoaaDrawAnyB
namespace Go.Proofs.Ytikhmgkoodoeoaa
open Go.ChangeShapes Go.WideShapes Go.ChangeAt Go.RowKit
set_option linter.unusedVariables false

/-- What is known. -/
structure Ag where
  n : Int
  s : Int
  l : Int
  m : Int
def Ag.add (a : Ag) (v : Int) : Ag := ⟨bo a.n 1 a.n 1 (wrap64 (a.n + 1)), bo a.n 1 a.s v (wrap64 (a.s + v)), bo a.n 1 a.l v (loI a.l v), bo a.n 1 a.m v (hiI a.m v)⟩
def Ag.both (a b : Ag) : Ag := ⟨bo a.n b.n a.n b.n (wrap64 (a.n + b.n)), bo a.n b.n a.s b.s (wrap64 (a.s + b.s)), bo a.n b.n a.l b.l (loI a.l b.l), bo a.n b.n a.m b.m (hiI a.m b.m)⟩
/-- It is known of just these values. -/
structure IsAg (a : Ag) (vs : List Int) : Prop where
  n : a.n = vs.length
  s : a.s = vs.sum
  l : vs ≠ [] → a.l ∈ vs ∧ ∀ v ∈ vs, a.l ≤ v
  m : vs ≠ [] → a.m ∈ vs ∧ ∀ v ∈ vs, v ≤ a.m
  z : vs = [] → a.l = 0 ∧ a.m = 0
def Sm (vs : List Int) : Prop := vs.length ≤ 100 ∧ ∀ v ∈ vs, -2000 ≤ v ∧ v ≤ 2000
theorem sum_bd : ∀ (vs : List Int), (∀ v ∈ vs, -2000 ≤ v ∧ v ≤ 2000) → -2000 * (vs.length : Int) ≤ vs.sum ∧ vs.sum ≤ 2000 * (vs.length : Int)
  | [], _ => by simp
  | v :: r, h => by
    have h1 := h v (by simp)
    have h2 := sum_bd r (fun x hx => h x (by simp [hx]))
    simp only [List.sum_cons, List.length_cons]
    omega
theorem IsAg.nil : IsAg ⟨0, 0, 0, 0⟩ [] := ⟨rfl, rfl, fun h => absurd rfl h, fun h => absurd rfl h, fun _ => ⟨rfl, rfl⟩⟩
theorem wr_in {x : Int} (h1 : -9223372036854775808 ≤ x) (h2 : x ≤ 9223372036854775807) : wrap64 x = x := by unfold wrap64; omega
theorem lo_mem (a b : Int) : (loI a b = a ∨ loI a b = b) ∧ loI a b ≤ a ∧ loI a b ≤ b := by unfold loI; split <;> simp <;> omega
theorem hi_mem (a b : Int) : (hiI a b = a ∨ hiI a b = b) ∧ a ≤ hiI a b ∧ b ≤ hiI a b := by unfold hiI; split <;> simp <;> omega
theorem IsAg.join {a b : Ag} {xs ys : List Int} (ha : IsAg a xs) (hb : IsAg b ys) (hs : Sm (xs ++ ys)) : IsAg (a.both b) (xs ++ ys) := by
  have hbd := sum_bd _ hs.2
  have hl := hs.1
  simp only [List.length_append] at hl
  rw [List.sum_append] at hbd
  simp only [List.length_append] at hbd
  by_cases hx : xs = []
  · subst hx
    have h0 : a.n = 0 := by simpa using ha.n
    have e : a.both b = b := by
      unfold Ag.both
      rw [h0]
      simp only [bo_1]
    rw [e]
    exact hb
  · have hn : a.n ≠ 0 := by
      rw [ha.n]
      intro h
      exact hx (List.eq_nil_of_length_eq_zero (by omega))
    by_cases hy : ys = []
    · subst hy
      have h0 : b.n = 0 := by simpa using hb.n
      have e : a.both b = a := by
        unfold Ag.both
        rw [h0]
        simp only [bo_2 hn]
      rw [e, List.append_nil]
      exact ha
    · have hn' : b.n ≠ 0 := by
        rw [hb.n]
        intro h
        exact hy (List.eq_nil_of_length_eq_zero (by omega))
      have e : a.both b = ⟨a.n + b.n, a.s + b.s, loI a.l b.l, hiI a.m b.m⟩ := by
        unfold Ag.both
        simp only [bo_3 hn hn']
        rw [wr_in (by rw [ha.n, hb.n]; omega) (by rw [ha.n, hb.n]; omega), wr_in (by rw [ha.s, hb.s]; omega) (by rw [ha.s, hb.s]; omega)]
      rw [e]
      obtain ⟨l1, l2⟩ := ha.l hx
      obtain ⟨l3, l4⟩ := hb.l hy
      obtain ⟨m1, m2⟩ := ha.m hx
      obtain ⟨m3, m4⟩ := hb.m hy
      obtain ⟨q1, q2, q3⟩ := lo_mem a.l b.l
      obtain ⟨r1, r2, r3⟩ := hi_mem a.m b.m
      refine ⟨by simp [ha.n, hb.n], by simp [ha.s, hb.s, List.sum_append], fun _ => ⟨?_, fun v hv => ?_⟩, fun _ => ⟨?_, fun v hv => ?_⟩, fun h => absurd (List.append_eq_nil_iff.1 h).1 hx⟩
      · rcases q1 with h | h <;> rw [h] <;> simp [l1, l3]
      · rcases List.mem_append.1 hv with h | h
        · have := l2 v h; show loI a.l b.l ≤ v; omega
        · have := l4 v h; show loI a.l b.l ≤ v; omega
      · rcases r1 with h | h <;> rw [h] <;> simp [m1, m3]
      · rcases List.mem_append.1 hv with h | h
        · have := m2 v h; show v ≤ hiI a.m b.m; omega
        · have := m4 v h; show v ≤ hiI a.m b.m; omega
theorem IsAg.one (v : Int) : IsAg ⟨1, v, v, v⟩ [v] := ⟨rfl, by simp, fun _ => by simp, fun _ => by simp, fun h => by simp at h⟩
theorem IsAg.snoc {a : Ag} {xs : List Int} {v : Int} (ha : IsAg a xs) (hs : Sm (xs ++ [v])) : IsAg (a.add v) (xs ++ [v]) := ha.join (IsAg.one v) hs
/-- What is known of as many values with one sum, some the same as others, is one. -/
theorem IsAg.same {a b : Ag} {xs ys : List Int} (ha : IsAg a xs) (hb : IsAg b ys) (hl : xs.length = ys.length) (hs : xs.sum = ys.sum) (hm : ∀ v, v ∈ xs ↔ v ∈ ys) : a = b := by
  obtain ⟨n1, s1, l1, m1⟩ := a
  obtain ⟨n2, s2, l2, m2⟩ := b
  have h1 := ha.n
  have h2 := hb.n
  have h3 := ha.s
  have h4 := hb.s
  simp only at h1 h2 h3 h4
  have e1 : n1 = n2 := by omega
  have e2 : s1 = s2 := by omega
  by_cases hx : xs = []
  · have hy : ys = [] := List.eq_nil_of_length_eq_zero (by rw [← hl, hx]; rfl)
    have z1 := ha.z hx
    have z2 := hb.z hy
    simp only at z1 z2
    simp [e1, e2, z1, z2]
  · have hy : ys ≠ [] := fun h => hx (List.eq_nil_of_length_eq_zero (by rw [hl, h]; rfl))
    obtain ⟨p1, p2⟩ := ha.l hx
    obtain ⟨p3, p4⟩ := hb.l hy
    obtain ⟨q1, q2⟩ := ha.m hx
    obtain ⟨q3, q4⟩ := hb.m hy
    simp only at p1 p2 p3 p4 q1 q2 q3 q4
    have a1 := p2 l2 ((hm l2).2 p3)
    have a2 := p4 l1 ((hm l1).1 p1)
    have a3 := q2 m2 ((hm m2).2 q3)
    have a4 := q4 m1 ((hm m1).1 q1)
    simp [e1, e2]
    omega
theorem sum_rev (vs : List Int) : vs.reverse.sum = vs.sum := by
  induction vs with
  | nil => rfl
  | cons v r ih => rw [List.reverse_cons, List.sum_append, ih]; simp; omega
theorem IsAg.rev {a b : Ag} {vs : List Int} (ha : IsAg a vs) (hb : IsAg b vs.reverse) : a = b := ha.same hb (by simp) (sum_rev vs).symm (fun v => by simp)
theorem Sm.take {vs : List Int} (h : Sm vs) (k : Nat) : Sm (vs.take k) := ⟨Nat.le_trans (by simp; omega) h.1, fun v hv => h.2 v (List.mem_of_mem_take hv)⟩
theorem Sm.rev {vs : List Int} (h : Sm vs) : Sm vs.reverse := ⟨by simpa using h.1, fun v hv => h.2 v (by simpa using hv)⟩
theorem Sm.drop {vs : List Int} (h : Sm vs) (k : Nat) : Sm (vs.drop k) := ⟨Nat.le_trans (by simp) h.1, fun v hv => h.2 v (List.mem_of_mem_drop hv)⟩
theorem take_one {vs : List Int} {k : Nat} {v : Int} (h : vs[k]? = some v) : vs.take (k + 1) = vs.take k ++ [v] := by
  obtain ⟨hk, he⟩ := List.getElem?_eq_some_iff.1 h
  rw [List.take_succ_eq_append_getElem hk, he]
theorem IsAg.step {a : Ag} {vs : List Int} {k : Nat} {v : Int} (ha : IsAg a (vs.take k)) (h : vs[k]? = some v) (hs : Sm vs) : IsAg (a.add v) (vs.take (k + 1)) := by
  rw [take_one h]
  exact ha.snoc (by rw [← take_one h]; exact hs.take _)
theorem rev_at {vs : List Int} {k : Nat} (hk : k < vs.length) {v : Int} (h : vs[vs.length - 1 - k]? = some v) : vs.reverse[k]? = some v := by
  rw [List.getElem?_reverse hk]
  exact h
/-- A box of what is known. -/
def AgAt (W : World) (b : Nat) (a : Ag) : Prop := W.cell? ⟨b, 0, none⟩ = some (.int .i64 a.n) ∧ W.cell? ⟨b, 1, none⟩ = some (.int .i64 a.s) ∧ W.cell? ⟨b, 2, none⟩ = some (.int .i64 a.l) ∧ W.cell? ⟨b, 3, none⟩ = some (.int .i64 a.m)
def AgFr (W : World) (b : Nat) : Prop := W.frozen? ⟨b, 0, none⟩ = false ∧ W.frozen? ⟨b, 1, none⟩ = false ∧ W.frozen? ⟨b, 2, none⟩ = false ∧ W.frozen? ⟨b, 3, none⟩ = false
def setAg (W : World) (b : Nat) (a : Ag) : World := (((W.setCell ⟨b, 0, none⟩ (.int .i64 a.n)).setCell ⟨b, 1, none⟩ (.int .i64 a.s)).setCell ⟨b, 2, none⟩ (.int .i64 a.l)).setCell ⟨b, 3, none⟩ (.int .i64 a.m)
theorem AgAt.bel {W W' : World} {b B : Nat} {a : Ag} (h : AgAt W b a) (hb : Below B W W') (hB : b < B) : AgAt W' b a := ⟨(hb.cell (p := ⟨b, 0, none⟩) hB).trans h.1, (hb.cell (p := ⟨b, 1, none⟩) hB).trans h.2.1, (hb.cell (p := ⟨b, 2, none⟩) hB).trans h.2.2.1, (hb.cell (p := ⟨b, 3, none⟩) hB).trans h.2.2.2⟩
theorem AgFr.bel {W W' : World} {b B : Nat} (h : AgFr W b) (hb : Below B W W') (hB : b < B) : AgFr W' b := ⟨(hb.frozen (p := ⟨b, 0, none⟩) hB).trans h.1, (hb.frozen (p := ⟨b, 1, none⟩) hB).trans h.2.1, (hb.frozen (p := ⟨b, 2, none⟩) hB).trans h.2.2.1, (hb.frozen (p := ⟨b, 3, none⟩) hB).trans h.2.2.2⟩
theorem set_ne {W : World} {b o o' : Nat} {v : Value} (h : o ≠ o') : (W.setCell ⟨b, o, none⟩ v).cell? ⟨b, o', none⟩ = W.cell? ⟨b, o', none⟩ := World.cell?_setCell_other _ _ _ _ (by intro e; injection e with e1 e2; exact h e2)
theorem set_eq {W : World} {b o : Nat} {v u : Value} (h : W.cell? ⟨b, o, none⟩ = some u) : (W.setCell ⟨b, o, none⟩ v).cell? ⟨b, o, none⟩ = some v := World.cell?_setCell_same _ _ _ h
theorem setAg_this {W : World} {b : Nat} {a a' : Ag} (h : AgAt W b a) : AgAt (setAg W b a') b a' := by
  obtain ⟨h0, h1, h2, h3⟩ := h
  unfold setAg
  refine ⟨?_, ?_, ?_, ?_⟩
  · rw [set_ne (by omega), set_ne (by omega), set_ne (by omega)]; exact set_eq h0
  · rw [set_ne (by omega), set_ne (by omega)]; exact set_eq ((set_ne (by omega)).trans h1)
  · rw [set_ne (by omega)]; exact set_eq ((set_ne (by omega)).trans ((set_ne (by omega)).trans h2))
  · exact set_eq ((set_ne (by omega)).trans ((set_ne (by omega)).trans ((set_ne (by omega)).trans h3)))
theorem setAg_cell {W : World} {b : Nat} {a' : Ag} {b' o : Nat} (h : b ≠ b') : (setAg W b a').cell? ⟨b', o, none⟩ = W.cell? ⟨b', o, none⟩ := by
  unfold setAg
  rw [cell_set_ne h, cell_set_ne h, cell_set_ne h, cell_set_ne h]
theorem setAg_ne {W : World} {b b' : Nat} {a a' : Ag} (h : AgAt W b' a) (hn : b ≠ b') : AgAt (setAg W b a') b' a := ⟨(setAg_cell hn).trans h.1, (setAg_cell hn).trans h.2.1, (setAg_cell hn).trans h.2.2.1, (setAg_cell hn).trans h.2.2.2⟩
theorem setAg_fr {W : World} {b b' : Nat} {a' : Ag} (h : AgFr W b') : AgFr (setAg W b a') b' := by
  obtain ⟨h0, h1, h2, h3⟩ := h
  unfold setAg
  refine ⟨?_, ?_, ?_, ?_⟩ <;> simp [go_sem] <;> assumption
theorem setAg_below {B b : Nat} {W W' : World} {a : Ag} (h : Below B W W') (hb : B ≤ b) : Below B W (setAg W' b a) := (((h.setCell hb _).setCell hb _).setCell hb _).setCell hb _
theorem setAg_size (W : World) (b : Nat) (a : Ag) : (setAg W b a).heap.size = W.heap.size := by simp [setAg]
end Go.Proofs.Ytikhmgkoodoeoaa
