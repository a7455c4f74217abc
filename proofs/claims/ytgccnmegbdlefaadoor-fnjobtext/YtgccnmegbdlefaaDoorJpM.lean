/- Proved here: what a line of a job is read as; what the lines of a job are read as. -/
import Derived.Test.YtgccnmegbdlefaaDoorJpB
import Derived.Test.YtgccnmegbdlefaaDoorJpN
import Derived.Test.YtgccnmegbdlefaaDoorWordsS
namespace Go.Proofs.YtgccnmegbdlefaaDoor
open Go.ChangeShapes Go.WideShapes Go.ChangeAt Go.RowKit
set_option linter.unusedVariables false
set_option linter.unusedSimpArgs false

/-- Line i, from 0 on, has the number n. -/
def LnR (i : Nat) (s : ByteArray) (n : Int) : Prop := ∃ x, jNames[i]? = some x ∧ s.data.toList = x.data.toList ++ 32 :: Lib.itoa n ∧ (-9999999 ≤ n ∧ n ≤ 9999999) ∧ (i = 7 → 0 ≤ n ∧ n ≤ 1)
theorem itoa_no32 (n : Int) : (32 : UInt8) ∉ Lib.itoa n := by rw [itoa_decI']; exact no32 n
theorem itoa_inj {a b : Int} (ha : -9999999 ≤ a ∧ a ≤ 9999999) (hb : -9999999 ≤ b ∧ b ≤ 9999999) (h : Lib.itoa a = Lib.itoa b) : a = b := by
  have h1 := num_itoa ha.1 ha.2
  rw [h, num_itoa hb.1 hb.2] at h1
  exact (congrArg Prod.fst h1).symm
theorem LnR.same {i : Nat} {s : ByteArray} {a b : Int} (h : LnR i s a) (g : LnR i s b) : a = b := by
  obtain ⟨x, hx, h1, h2, _⟩ := h
  obtain ⟨y, hy, g1, g2, _⟩ := g
  rw [hx] at hy
  obtain rfl := Option.some.inj hy
  rw [h1] at g1
  have := List.append_cancel_left g1
  exact itoa_inj h2 g2 (List.cons.inj this).2
theorem jNames_no32 : ∀ x ∈ jNames, (32 : UInt8) ∉ x.data.toList := by
  intro x hx
  simp only [jNames, List.mem_cons, List.not_mem_nil, or_false] at hx
  rcases hx with rfl | rfl | rfl | rfl | rfl | rfl | rfl | rfl | rfl | rfl <;> decide
theorem itoa_len {n : Int} (h : -9999999 ≤ n ∧ n ≤ 9999999) : (Lib.itoa n).length ≤ 22 := by
  rw [itoa_decI']
  have := decI_size n (by omega) (by omega)
  simpa using this
theorem LnR.words {i : Nat} {s x : ByteArray} {n : Int} {L : List ByteArray} (h : LnR i s n) (hx : jNames[i]? = some x) (hw : s.size ≤ 100 → Wo (bl L) s.data.toList) : ∃ y, L = [x, y] ∧ y.data.toList = Lib.itoa n := by
  obtain ⟨x', hx', h1, h2, _⟩ := h
  rw [hx] at hx'
  obtain rfl := Option.some.inj hx'
  have hm := List.mem_of_getElem? hx
  have hs : s.size ≤ 100 := by
    have e : s.size = s.data.toList.length := by simp
    rw [e, h1, List.length_append, List.length_cons]
    have e2 : x.data.toList.length = x.size := by simp
    have := jNames_sz x hm
    have := itoa_len h2
    omega
  have hW := hw hs
  have hV : Wo (bl [x, ⟨(Lib.itoa n).toArray⟩]) s.data.toList := by
    refine ⟨by simp [bl], ?_, ?_⟩
    · intro y hy
      simp only [bl, List.map_cons, List.map_nil, List.mem_cons, List.not_mem_nil, or_false] at hy
      rcases hy with rfl | rfl
      · exact jNames_no32 x hm
      · simpa using itoa_no32 n
    · rw [h1]; simp [bl, joinW]
  have hL := wo_uniq _ hW hV
  exact ⟨_, bl_inj' hL, by simp⟩
theorem LnR.mk {i : Nat} {s x y : ByteArray} {n : Int} {L : List ByteArray} (hx : jNames[i]? = some x) (hL : L = [x, y]) (hs : s.size ≤ 100 → Wo (bl L) s.data.toList) (hn : ¬ s.size ≤ 100 → L = []) (h : num1 y.data.toList = (n, true)) (h7 : i = 7 → 0 ≤ n ∧ n ≤ 1) : LnR i s n := by
  have h1 : s.size ≤ 100 := by
    rcases Nat.lt_or_ge 100 s.size with h | h
    · have := hn (by omega); rw [hL] at this; cases this
    · exact h
  obtain ⟨e, b1, b2⟩ := num_form h
  have hW := (hs h1).2.2
  rw [hL] at hW
  refine ⟨x, hx, ?_, ⟨b1, b2⟩, h7⟩
  rw [← hW, ← e]; simp [bl, joinW]

/-- Lines that are all right, and their numbers. -/
def GoodJ (L : List ByteArray) (ns : List Int) : Prop := ns.length = L.length ∧ ∀ (i : Nat) (s : ByteArray), L[i]? = some s → ∃ n, ns[i]? = some n ∧ LnR i s n
theorem goodJ_nil : GoodJ [] [] := ⟨rfl, fun i s h => by simp at h⟩
theorem GoodJ.snoc {L : List ByteArray} {ns : List Int} {k : Nat} {s : ByteArray} {n : Int} (h : GoodJ (L.take k) ns) (hs : L[k]? = some s) (hn : LnR k s n) : GoodJ (L.take (k + 1)) (ns ++ [n]) := by
  have hk := (List.getElem?_eq_some_iff.1 hs).1
  have hl : (L.take k).length = k := by rw [List.length_take]; omega
  rw [List.take_add_one, hs]
  refine ⟨by rw [List.length_append, List.length_append, h.1]; rfl, fun i x hx => ?_⟩
  rcases Nat.lt_trichotomy i k with hi | hi | hi
  · rw [List.getElem?_append_left (by omega)] at hx
    obtain ⟨m, h1, h2⟩ := h.2 i x hx
    exact ⟨m, by rw [List.getElem?_append_left (by rw [h.1]; omega)]; exact h1, h2⟩
  · subst hi
    rw [List.getElem?_append_right (by omega), hl, Nat.sub_self] at hx
    have e : s = x := by simpa using hx
    subst e
    exact ⟨n, by rw [List.getElem?_append_right (by rw [h.1]; omega), h.1, hl, Nat.sub_self]; rfl, hn⟩
  · rw [List.getElem?_append_right (by omega), hl] at hx
    have : (i - k) ≠ 0 := by omega
    rw [List.getElem?_eq_none (by simp; omega)] at hx
    cases hx
theorem GoodJ.len {L : List ByteArray} {ns : List Int} (h : GoodJ L ns) : L.length ≤ 10 := by
  rcases Nat.lt_or_ge 10 L.length with hl | hl
  · obtain ⟨n, _, x, hx, _⟩ := h.2 10 L[10] (List.getElem?_eq_getElem hl)
    simp [jNames] at hx
  · exact hl
theorem GoodJ.same {L : List ByteArray} {ns ms : List Int} (h : GoodJ L ns) (g : GoodJ L ms) : ns = ms := by
  apply List.ext_getElem?
  intro i
  rcases Nat.lt_or_ge i L.length with hi | hi
  · obtain ⟨n, h1, h2⟩ := h.2 i L[i] (List.getElem?_eq_getElem hi)
    obtain ⟨m, g1, g2⟩ := g.2 i L[i] (List.getElem?_eq_getElem hi)
    rw [h1, g1, h2.same g2]
  · rw [List.getElem?_eq_none (by rw [h.1]; omega), List.getElem?_eq_none (by rw [g.1]; omega)]
/-- What lines are read as: the job and 0; or nothing and the first line that is wrong. -/
def JR (L : List ByteArray) (J : List Int) (b : Bool) (c : Int) : Prop :=
  (c = 0 ∧ ∃ s t k z p l e q v r : Int, GoodJ L [s, t, k, z, p, l, e, q, v, r] ∧ okJob s t k z p l e v r = true ∧ J = [s, t, k, z, p, l, e, v, r] ∧ b = decide (q = 1)) ∨
  (J = [0, 0, 0, 0, 0, 0, 0, 0, 0] ∧ b = false ∧ ∃ (i : Nat) (s : ByteArray) (ns : List Int), L[i]? = some s ∧ c = ((i + 1 : Nat) : Int) ∧ GoodJ (L.take i) ns ∧ ∀ n, ¬ LnR i s n) ∨
  (J = [0, 0, 0, 0, 0, 0, 0, 0, 0] ∧ b = false ∧ c = ((L.length + 1 : Nat) : Int) ∧ ∃ ns, GoodJ L ns ∧ (ns.length < 10 ∨ ∃ s t k z p l e q v r : Int, ns = [s, t, k, z, p, l, e, q, v, r] ∧ okJob s t k z p l e v r = false))
theorem good_cut {L : List ByteArray} {ns : List Int} {i : Nat} {s : ByteArray} (h : GoodJ L ns) (hs : L[i]? = some s) (hn : ∀ n, ¬ LnR i s n) : False := by
  obtain ⟨n, _, h2⟩ := h.2 i s hs
  exact hn n h2
theorem good_cut2 {L : List ByteArray} {ns : List Int} {i j : Nat} {s : ByteArray} (h : GoodJ (L.take j) ns) (hs : L[i]? = some s) (hi : i < j) (hn : ∀ n, ¬ LnR i s n) : False := by
  obtain ⟨n, _, h2⟩ := h.2 i s (by rw [List.getElem?_take_of_lt hi]; exact hs)
  exact hn n h2
theorem JR.same {L : List ByteArray} {J K : List Int} {b d : Bool} {c f : Int} (h : JR L J b c) (g : JR L K d f) : J = K ∧ b = d ∧ c = f := by
  rcases h with ⟨rfl, s, t, k, z, p, l, e, q, v, r, h1, h2, rfl, rfl⟩ | ⟨rfl, rfl, i, s, ns, h1, rfl, h2, h3⟩ | ⟨rfl, rfl, rfl, ns, h1, h2⟩ <;>
  rcases g with ⟨rfl, s', t', k', z', p', l', e', q', v', r', g1, g2, rfl, rfl⟩ | ⟨rfl, rfl, i', s', ns', g1, rfl, g2, g3⟩ | ⟨rfl, rfl, rfl, ns', g1, g2⟩
  · have := h1.same g1
    simp only [List.cons.injEq, and_true] at this
    obtain ⟨rfl, rfl, rfl, rfl, rfl, rfl, rfl, rfl, rfl, rfl⟩ := this
    exact ⟨rfl, rfl, rfl⟩
  · exact (good_cut h1 g1 g3).elim
  · have := h1.same g1
    subst this
    rcases g2 with g2 | ⟨s', t', k', z', p', l', e', q', v', r', g2, g3⟩
    · simp at g2
    · simp only [List.cons.injEq, and_true] at g2
      obtain ⟨rfl, rfl, rfl, rfl, rfl, rfl, rfl, rfl, rfl, rfl⟩ := g2
      rw [h2] at g3; cases g3
  · exact (good_cut g1 h1 h3).elim
  · refine ⟨rfl, rfl, ?_⟩
    rcases Nat.lt_trichotomy i i' with hi | hi | hi
    · exact (good_cut2 g2 h1 hi h3).elim
    · rw [hi]
    · exact (good_cut2 h2 g1 hi g3).elim
  · exact (good_cut g1 h1 h3).elim
  · have := h1.same g1
    subst this
    rcases h2 with h2 | ⟨s, t, k, z, p, l, e, q, v, r, h2, h3⟩
    · simp at h2
    · simp only [List.cons.injEq, and_true] at h2
      obtain ⟨rfl, rfl, rfl, rfl, rfl, rfl, rfl, rfl, rfl, rfl⟩ := h2
      rw [g2] at h3; cases h3
  · exact (good_cut h1 g1 g3).elim
  · exact ⟨rfl, rfl, rfl⟩
end Go.Proofs.YtgccnmegbdlefaaDoor
