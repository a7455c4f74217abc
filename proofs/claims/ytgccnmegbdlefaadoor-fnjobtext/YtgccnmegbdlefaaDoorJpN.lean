/- Proved here: numbers as they are written and read, below 0 too. -/
import Derived.Test.YtgccnmegbdlefaaDoorReadNum
import Derived.Test.YtgccnmegbdlefaaDoorDigI
import Derived.Test.YtgccnmegbdlefaaDoorWordsS
namespace Go.Proofs.YtgccnmegbdlefaaDoor
open Go.ChangeShapes Go.WideShapes Go.ChangeAt Go.RowKit
set_option linter.unusedVariables false
set_option linter.unusedSimpArgs false

theorem no_by (u : Nat) (c : UInt8) (hc : digB c = false) : c ∉ Lib.decDigits u := by
  intro h
  have := List.all_eq_true.1 (dec_all u) c h
  rw [hc] at this; cases this
theorem decI_l (n : Int) : (decI n).data.toList = if n < 0 then 45 :: Lib.decDigits (-n).toNat else Lib.decDigits n.toNat := by
  by_cases h : n < 0
  · rw [decI_n h, if_pos h]; simp [decS]
  · rw [decI_p h, if_neg h]; simp [decS]
theorem itoa_decI' (n : Int) : Lib.itoa n = (decI n).data.toList := by
  rw [decI_l]; unfold Lib.itoa
  by_cases h : n < 0
  · rw [if_pos h, if_pos h, show n.natAbs = (-n).toNat by omega]
  · rw [if_neg h, if_neg h]
theorem no32 (n : Int) : (32 : UInt8) ∉ (decI n).data.toList := by
  rw [decI_l]
  by_cases h : n < 0
  · rw [if_pos h]
    intro h9
    rcases List.mem_cons.1 h9 with h9 | h9
    · exact absurd h9 (by decide)
    · exact no_by _ _ (by decide) h9
  · rw [if_neg h]; exact no_by _ _ (by decide)
theorem bl_inj' {L M : List ByteArray} (h : bl L = bl M) : L = M := by
  induction L generalizing M with
  | nil => cases M with
    | nil => rfl
    | cons _ _ => simp [bl] at h
  | cons x r ih => cases M with
    | nil => simp [bl] at h
    | cons y t =>
      simp only [bl, List.map_cons, List.cons.injEq] at h
      have e : x = y := by
        obtain ⟨⟨a⟩⟩ := x; obtain ⟨⟨b⟩⟩ := y
        have := h.1
        simp at this
        rw [this]
      rw [e, ih h.2]
theorem u8_of {c : UInt8} {d : Nat} (h : (c.toNat : Int) - 48 = (d : Int)) : UInt8.ofNat (48 + d) = c := by
  rw [show 48 + d = c.toNat by omega]; simp
theorem digB_bd {c : UInt8} (h : digB c = true) : 48 ≤ (c.toNat : Int) ∧ (c.toNat : Int) ≤ 57 := by
  simpa [digB, Bool.and_eq_true, decide_eq_true_eq] using h
theorem dec_form (n : Nat) : ∀ l : List UInt8, l.length = n → l.all digB = true → l ≠ [] → (l.head? = some 48 → l.length = 1) → Lib.decDigits (acc l).toNat = l := by
  induction n with
  | zero => intro l h _ h2; exact absurd (List.eq_nil_of_length_eq_zero h) h2
  | succ n ih =>
    intro l hl ha hne hh
    obtain ⟨m, c, rfl⟩ : ∃ m c, l = m ++ [c] := ⟨l.dropLast, l.getLast hne, (List.dropLast_concat_getLast hne).symm⟩
    have hm : m.length = n := by simpa using hl
    simp only [List.all_append, List.all_cons, List.all_nil, Bool.and_true, Bool.and_eq_true] at ha
    obtain ⟨hc1, hc2⟩ := digB_bd ha.2
    rw [acc_snoc]
    obtain ⟨d, hd⟩ : ∃ d : Nat, (c.toNat : Int) - 48 = (d : Int) := ⟨((c.toNat : Int) - 48).toNat, by omega⟩
    by_cases hm0 : m = []
    · subst hm0
      rw [hd, show (acc [] * 10 + (d : Int)).toNat = d by simp [acc], dec_lt (by omega), u8_of hd]
      rfl
    · have hI := ih m hm ha.1 hm0 (fun h9 => by
        have : (m ++ [c]).head? = some 48 := by cases m with
          | nil => exact absurd rfl hm0
          | cons x r => simpa using h9
        have h8 := hh this
        simp at h8
        exact absurd h8 hm0)
      have hb := acc_bd m ha.1
      obtain ⟨u, hu⟩ : ∃ u : Nat, acc m = (u : Int) := ⟨(acc m).toNat, by omega⟩
      rw [hu] at hI
      have hup : 0 < u := by
        rcases Nat.eq_zero_or_pos u with h0 | h0
        · subst h0
          exfalso
          have h5 : m = [48] := by rw [← hI]; rw [show ((0 : Nat) : Int).toNat = 0 from rfl, dec_lt (by omega)]; rfl
          subst h5
          have := hh (by rfl)
          simp at this
        · exact h0
      rw [hd, hu, show ((u : Int) * 10 + (d : Int)).toNat = u * 10 + d by omega, dec_ge (by omega), show (u * 10 + d) / 10 = u by omega, show (u * 10 + d) % 10 = d by omega, u8_of hd]
      rw [show ((u : Int)).toNat = u from rfl] at hI
      rw [hI]
/-- What is read as a number is what the number prints. -/
theorem num_form {l : List UInt8} {n : Int} (h : num1 l = (n, true)) : l = Lib.itoa n ∧ -9999999 ≤ n ∧ n ≤ 9999999 := by
  have key : ∀ (sg : Int) (m : List UInt8), numU sg m = (n, true) → n = sg * acc m ∧ Lib.decDigits (acc m).toNat = m ∧ 0 ≤ acc m ∧ acc m ≤ 9999999 ∧ (sg < 0 → acc m ≠ 0) := by
    intro sg m hm
    unfold numU at hm
    split at hm
    · rename_i hf
      simp only [Bool.and_eq_true] at hf
      obtain ⟨hf, hall⟩ := hf
      unfold formB at hf
      simp only [Bool.and_eq_true, Bool.not_eq_true', Bool.and_eq_false_iff, decide_eq_false_iff_not] at hf
      obtain ⟨⟨hlen, hlead⟩, hz⟩ := hf
      have hne : m ≠ [] := fun e => by rw [e] at hlen; simp [inB] at hlen
      have hd := dec_form _ m rfl hall hne (fun h9 => by
        rcases hlead with h8 | h8
        · have : 0 < m.length := List.length_pos_iff.2 hne
          omega
        · exact absurd h9 h8)
      have hl7 : m.length ≤ 7 := by simp [inB] at hlen; omega
      have hb := acc_bd7 _ hall hl7
      have hn : sg * acc m = n := congrArg Prod.fst hm
      refine ⟨hn.symm, hd, hb.1, by omega, fun hsg h0 => ?_⟩
      rw [h0, show (0 : Int).toNat = 0 from rfl, dec_lt (by omega)] at hd
      rcases hz with h8 | h8
      · exact h8 hsg
      · exact h8 hd.symm
    · exact absurd (congrArg Prod.snd hm) (by simp)
  unfold num1 at h
  split at h
  · rename_i h45
    obtain ⟨h1, h2, h3, h4, h5⟩ := key _ _ h
    have h6 := h5 (by omega)
    have e : l = 45 :: l.drop 1 := by
      cases l with
      | nil => simp at h45
      | cons a r => simp at h45; subst h45; rfl
    refine ⟨?_, by omega, by omega⟩
    unfold Lib.itoa
    rw [if_pos (by omega), show n.natAbs = (acc (l.drop 1)).toNat by omega, h2]
    exact e
  · obtain ⟨h1, h2, h3, h4, _⟩ := key _ _ h
    refine ⟨?_, by omega, by omega⟩
    unfold Lib.itoa
    rw [if_neg (by omega), show n.toNat = (acc l).toNat by omega, h2]
/-- What a number prints is read as it. -/
theorem num_itoa {n : Int} (h0 : -9999999 ≤ n) (h1 : n ≤ 9999999) : num1 (Lib.itoa n) = (n, true) := by
  unfold Lib.itoa
  by_cases h : n < 0
  · rw [if_pos h]
    have h2 := num1_dec n.natAbs (by omega)
    have h3 : (Lib.decDigits n.natAbs).head? ≠ some 45 := by
      intro h9
      obtain ⟨c, r, e, _⟩ := dec_head n.natAbs
      rw [e] at h9
      have : c = 45 := by simpa using h9
      exact no_by n.natAbs 45 (by decide) (by rw [e, this]; simp)
    unfold num1 at h2
    rw [if_neg h3] at h2
    unfold num1
    rw [if_pos (by simp)]
    have e : (45 :: Lib.decDigits n.natAbs).drop 1 = Lib.decDigits n.natAbs := rfl
    rw [e]
    unfold numU at h2 ⊢
    split at h2
    · rename_i hf
      simp only [Bool.and_eq_true] at hf
      obtain ⟨hf, hall⟩ := hf
      have ha : acc (Lib.decDigits n.natAbs) = n.natAbs := dec_acc _
      have hf2 : formB (-1) (Lib.decDigits n.natAbs) = true := by
        unfold formB at hf ⊢
        simp only [Bool.and_eq_true, Bool.not_eq_true', Bool.and_eq_false_iff, decide_eq_false_iff_not] at hf ⊢
        refine ⟨hf.1, Or.inr ?_⟩
        intro h9
        have : acc (Lib.decDigits n.natAbs) = 0 := by rw [h9]; rfl
        omega
      rw [if_pos (by rw [hf2, hall]; rfl), ha]
      congr 1; omega
    · exact absurd (congrArg Prod.snd h2) (by simp)
  · rw [if_neg h, num1_dec _ (by omega)]
    congr 1; omega
theorem atoi_itoa {n : Int} (h0 : -9999999 ≤ n) (h1 : n ≤ 9999999) : Lib.atoiAll (Lib.itoa n) = .ok n := by
  unfold Lib.itoa
  by_cases h : n < 0
  · rw [if_pos h]
    have h2 := atoi_dec n.natAbs (by omega)
    obtain ⟨c, r, e, _⟩ := dec_head n.natAbs
    have hd : digB c = true := by
      have := List.all_eq_true.1 (dec_all n.natAbs) c (by rw [e]; simp)
      exact this
    have hb := digB_bd hd
    rw [e, Lib.atoiAll_plain c r (by omega) (by omega)] at h2
    unfold Lib.atoiAll
    rw [e]
    simp only [show (45 : UInt8).toNat = 45 from rfl, or_true, if_true]
    cases hm : Lib.parseMag (c :: r) with
    | ok u =>
      rw [hm] at h2
      have h3 : (u : Int) = n.natAbs := by
        have h4 : (if 9223372036854775808 ≤ u then (Lib.NumEnd.range : Lib.NumEnd Int) else .ok (u : Int)) = .ok ((n.natAbs : Nat) : Int) := h2
        split at h4
        · cases h4
        · exact Lib.NumEnd.ok.inj h4
      simp
      rw [if_neg (by omega)]
      congr 1; omega
    | _ => rw [hm] at h2; cases h2
  · rw [if_neg h, atoi_dec _ (by omega)]
    congr 1; omega
theorem rd_itoa {s : ByteArray} {v n : Int} {b : Bool} (h0 : -9999999 ≤ v) (h1 : v ≤ 9999999) (hs : s.data.toList = Lib.itoa v) (h : RdP s n b) : b = true ∧ n = v := by
  have ha := atoi_itoa h0 h1
  rcases h with ⟨rfl, h2, h3⟩ | ⟨rfl, rfl, h2⟩
  · rw [hs, ha] at h2
    exact ⟨rfl, (Lib.NumEnd.ok.inj h2).symm⟩
  · rw [hs] at h2
    exact absurd rfl (h2 v ha)
end Go.Proofs.YtgccnmegbdlefaaDoor
