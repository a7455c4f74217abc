/- Proved here: lines of a job that is ok are read as it; what is read with nothing wrong is what is written. -/
import Derived.Test.YtgccnmegbdlefaaDoorJpM
import Derived.Test.YtgccnmegbdlefaaDoorStrTo
namespace Go.Proofs.YtgccnmegbdlefaaDoor
open Go.ChangeShapes Go.WideShapes Go.ChangeAt Go.RowKit
set_option linter.unusedVariables false
set_option linter.unusedSimpArgs false

theorem Tryd.jnb (s t k z p l e : Int) (b : Bool) (v r : Int) (h : okJob s t k z p l e v r = true) : ∀ n ∈ jNums s t k z p l e b v r, -9999999 ≤ n ∧ n ≤ 9999999 := by
  intro n hn
  simp only [okJob, Bool.and_eq_true, inB_iff] at h
  obtain ⟨⟨⟨⟨⟨⟨⟨⟨h1, h2⟩, h3⟩, h4⟩, h5⟩, h6⟩, h7⟩, h8⟩, h9⟩ := h
  have hp : 0 ≤ p ∧ p ≤ 20 := by
    unfold stepB at h5
    split at h5
    · simp only [Bool.and_eq_true, inB_iff] at h5; omega
    · have : p = 0 := by simpa using h5
      omega
  simp only [jNums, List.mem_cons, List.not_mem_nil, or_false] at hn
  rcases hn with rfl | rfl | rfl | rfl | rfl | rfl | rfl | rfl | rfl | rfl
  case inr.inr.inr.inr.inr.inr.inr.inl => split <;> omega
  all_goals omega
theorem lineOf_l (x : ByteArray) (n : Int) : (lineOf x n).s.data.toList = x.data.toList ++ 32 :: Lib.itoa n := by
  rw [itoa_decI']; simp [lineOf]
theorem st_map (L : List ByteArray) (i : Nat) : (stL L)[i]? = L[i]?.map fun x => ⟨x⟩ := by simp [stL]
theorem lines_good {s t k z p l e : Int} {b : Bool} {v r : Int} {L : List ByteArray} (h : okJob s t k z p l e v r = true) (hL : jobLines s t k z p l e b v r = stL L) (hl : L.length = 10) : JR L [s, t, k, z, p, l, e, v, r] b 0 := by
  refine Or.inl ⟨rfl, s, t, k, z, p, l, e, if b = true then 1 else 0, v, r, ⟨by simp [hl], fun i x hx => ?_⟩, h, rfl, by cases b <;> rfl⟩
  have hi : i < 10 := by have := (List.getElem?_eq_some_iff.1 hx).1; omega
  obtain ⟨y, hy, _⟩ := jNames_at hi
  obtain ⟨n, hn⟩ := jNums_at s t k z p l e b v r hi
  refine ⟨n, hn, y, hy, ?_, Tryd.jnb s t k z p l e b v r h n (List.mem_of_getElem? hn), fun h7 => ?_⟩
  · have h9 := jLines_at hy hn
    rw [← jobLines_ok h, hL, st_map, hx] at h9
    have h8 : (⟨x⟩ : StR) = lineOf y n := Option.some.inj h9
    rw [← lineOf_l, ← h8]
  · subst h7
    have : n = if b = true then 1 else 0 := by
      have h9 : some (if b = true then (1 : Int) else 0) = some n := hn
      exact (Option.some.inj h9).symm
    rw [this]; split <;> omega
theorem good_lines {s t k z p l e q v r : Int} {L : List ByteArray} (h : okJob s t k z p l e v r = true) (hG : GoodJ L [s, t, k, z, p, l, e, q, v, r]) : jobLines s t k z p l e (decide (q = 1)) v r = stL L := by
  have hl : L.length = 10 := by rw [← hG.1]; rfl
  have hq : (if decide (q = 1) = true then (1 : Int) else 0) = q := by
    obtain ⟨n, h1, h2⟩ := hG.2 7 L[7] (List.getElem?_eq_getElem (by omega))
    obtain ⟨_, _, _, _, h7⟩ := h2
    have h9 : some q = some n := h1
    have := h7 rfl
    obtain rfl := Option.some.inj h9
    by_cases hq : q = 1
    · simp [hq]
    · simp [hq]; omega
  rw [jobLines_ok h]
  unfold jNums
  rw [hq]
  apply List.ext_getElem?
  intro i
  rcases Nat.lt_or_ge i 10 with hi | hi
  · obtain ⟨y, hy, _⟩ := jNames_at hi
    have hx : L[i]? = some (L[i]'(by omega)) := List.getElem?_eq_getElem (by omega)
    obtain ⟨n, hn, y', hy', h3, _⟩ := hG.2 i _ hx
    rw [hy] at hy'
    obtain rfl := Option.some.inj hy'
    rw [jLines_at hy hn, st_map, hx]
    have h4 : (lineOf y n).s = L[i]'(by omega) := by
      apply ByteArray.ext
      apply Array.toList_inj.1
      rw [lineOf_l, h3]
    show some (lineOf y n) = some ⟨_⟩
    rw [← h4]
  · rw [List.getElem?_eq_none (by rw [jLines_len rfl]; omega), List.getElem?_eq_none (by simp [stL]; omega)]
/-- The beginnings of lines of which one is wrong. -/
theorem pre_c {L : List ByteArray} {i : Nat} {s : ByteArray} {ns : List Int} (hs : L[i]? = some s) (hG : GoodJ (L.take i) ns) (hn : ∀ n, ¬ LnR i s n) {J : List Int} {b : Bool} {c : Int} (h : JR (L.take (i + 1)) J b c) : c = ((i + 1 : Nat) : Int) := by
  have h9 : JR (L.take (i + 1)) [0, 0, 0, 0, 0, 0, 0, 0, 0] false ((i + 1 : Nat) : Int) := Or.inr (Or.inl ⟨rfl, rfl, i, s, ns, by rw [List.getElem?_take_of_lt (by omega)]; exact hs, rfl, by rw [List.take_take, Nat.min_eq_left (by omega)]; exact hG, hn⟩)
  exact (h.same h9).2.2
theorem pre_d {L : List ByteArray} {i : Nat} {s : ByteArray} {ns : List Int} (hs : L[i]? = some s) (hG : GoodJ (L.take i) ns) {J : List Int} {b : Bool} {c : Int} (h : JR (L.take i) J b c) : c = 0 ∨ c = ((i + 1 : Nat) : Int) := by
  rcases h with ⟨rfl, _⟩ | ⟨_, _, j, s', ns', h1, _, _, h3⟩ | ⟨_, _, rfl, _⟩
  · exact Or.inl rfl
  · exact (good_cut hG h1 h3).elim
  · have hi := (List.getElem?_eq_some_iff.1 hs).1
    rw [List.length_take, Nat.min_eq_left (by omega)]
    exact Or.inr rfl
def exJ : List ByteArray := [⟨#[115, 111, 117, 114, 99, 101, 115, 32, 49]⟩, ⟨#[120]⟩]
theorem ex_c {J : List Int} {b : Bool} {c : Int} (h : JR exJ J b c) : c = 2 := by
  have h1 : LnR 0 ⟨#[115, 111, 117, 114, 99, 101, 115, 32, 49]⟩ 1 := ⟨_, rfl, by rw [show Lib.itoa 1 = [49] from Lib.decDigits_one (by decide)]; decide, by omega, fun h => by omega⟩
  have h9 : JR exJ [0, 0, 0, 0, 0, 0, 0, 0, 0] false 2 := Or.inr (Or.inl ⟨rfl, rfl, 1, ⟨#[120]⟩, [1], rfl, rfl, ⟨rfl, fun i s hs => by
    match i, hs with
    | 0, hs => exact ⟨1, rfl, by obtain rfl := Option.some.inj hs; exact h1⟩
    | i + 1, hs => simp [exJ] at hs⟩, fun n ⟨x, hx, h2, _⟩ => by
    obtain rfl := Option.some.inj hx
    simp at h2⟩)
  exact (h.same h9).2.2
theorem StRs.upto {W : World} {g o n : Nat} {L : List ByteArray} (h : StRs W (some ⟨g, o, none⟩) n (stL L)) {k : Nat} (hk : k ≤ n) : StRs W (some ⟨g, o, none⟩) k (stL (L.take k)) := by
  obtain ⟨h1, h2, h3⟩ := h
  rw [stL_len] at h1
  refine ⟨by rw [stL_len, List.length_take]; omega, by omega, ?_⟩
  rcases Nat.eq_zero_or_pos k with h0 | h0
  · exact Or.inl h0
  · obtain ⟨g', o', ha, hr⟩ := h3.resolve_left (by omega)
    refine Or.inr ⟨g', o', ha, fun i x hx => hr i x ?_⟩
    rw [st_map] at hx ⊢
    have hi : i < k := by
      rcases Nat.lt_or_ge i k with h9 | h9
      · exact h9
      · rw [List.getElem?_eq_none (by rw [List.length_take]; omega)] at hx; cases hx
    rwa [List.getElem?_take_of_lt hi] at hx
end Go.Proofs.YtgccnmegbdlefaaDoor
