/- Proved here: an event's numbers, by the program. -/
import Derived.Test.YtbbjjpgmekfbeaaDoorDskS
import Derived.Test.YtbbjjpgmekfbeaaDoorItmRdK
namespace Go.Proofs.YtbbjjpgmekfbeaaDoor
open Go.ChangeShapes Go.WideShapes Go.ChangeAt Go.RowKit
set_option linter.unusedVariables false


theorem u8_of {c : UInt8} {d : Nat} (h : (c.toNat : Int) - 48 = (d : Int)) : UInt8.ofNat (48 + d) = c := by
  have h1 : 48 + d = c.toNat := by omega
  rw [h1]
  simp
theorem digB_bd {c : UInt8} (h : digB c = true) : 48 ≤ (c.toNat : Int) ∧ (c.toNat : Int) ≤ 57 := by
  simp only [digB, Bool.and_eq_true, decide_eq_true_eq] at h
  exact h
theorem dec_form (n : Nat) : ∀ l : List UInt8, l.length = n → l.all digB = true → l ≠ [] → (l.head? = some 48 → l.length = 1) → Lib.decDigits (acc l).toNat = l := by
  induction n with
  | zero => intro l h _ h2; exact absurd (List.eq_nil_of_length_eq_zero h) h2
  | succ n ih =>
    intro l hl ha hne hh
    obtain ⟨m, c, rfl⟩ : ∃ m c, l = m ++ [c] := ⟨l.dropLast, l.getLast hne, (List.dropLast_concat_getLast hne).symm⟩
    have hm : m.length = n := by simpa using hl
    simp only [List.all_append, List.all_cons, List.all_nil, Bool.and_true, Bool.and_eq_true] at ha
    obtain ⟨hc1, hc2⟩ := digB_bd ha.2
    rw [acc_snoc]
    obtain ⟨d, hd⟩ : ∃ d : Nat, (c.toNat : Int) - 48 = (d : Int) := ⟨((c.toNat : Int) - 48).toNat, by omega⟩
    by_cases hm0 : m = []
    · subst hm0
      rw [hd, show (acc [] * 10 + (d : Int)).toNat = d by simp [acc], dec_lt (by omega), u8_of hd]
      rfl
    · have hI := ih m hm ha.1 hm0 (fun h9 => by
        have : (m ++ [c]).head? = some 48 := by cases m with
          | nil => exact absurd rfl hm0
          | cons x r => simpa using h9
        have h8 := hh this
        simp at h8
        exact absurd h8 hm0)
      have hb := acc_bd m ha.1
      obtain ⟨u, hu⟩ : ∃ u : Nat, acc m = (u : Int) := ⟨(acc m).toNat, by omega⟩
      rw [hu] at hI
      have hup : 0 < u := by
        rcases Nat.eq_zero_or_pos u with h0 | h0
        · subst h0
          exfalso
          have h5 : m = [48] := by rw [← hI]; rw [show ((0 : Nat) : Int).toNat = 0 from rfl, dec_lt (by omega)]; rfl
          subst h5
          have := hh (by rfl)
          simp at this
        · exact h0
      rw [hd, hu, show ((u : Int) * 10 + (d : Int)).toNat = u * 10 + d by omega, dec_ge (by omega), show (u * 10 + d) / 10 = u by omega, show (u * 10 + d) % 10 = d by omega, u8_of hd]
      rw [show ((u : Int)).toNat = u from rfl] at hI
      rw [hI]
theorem good_dec {y : ByteArray} (h : goodN y = true) : ∃ n : Int, 0 ≤ n ∧ n < 10000000 ∧ num1 y.data.toList = (n, true) ∧ y.data.toList = Lib.decDigits n.toNat := by
  unfold goodN at h
  simp only [Bool.and_eq_true, decide_eq_true_eq] at h
  obtain ⟨h1, h2⟩ := h
  generalize y.data.toList = l at h1 h2 ⊢
  unfold num1 at h1 h2 ⊢
  split at h1
  · rename_i h45
    rw [if_pos h45] at h2
    unfold numU at h1 h2
    split at h1
    · rename_i hf
      rw [if_pos hf] at h2
      simp only [Bool.and_eq_true] at hf
      exfalso
      obtain ⟨hf, hall⟩ := hf
      unfold formB at hf
      simp only [Bool.and_eq_true, Bool.not_eq_true', Bool.and_eq_false_iff, decide_eq_false_iff_not] at hf
      obtain ⟨⟨hlen, hlead⟩, hz⟩ := hf
      have hb := acc_bd _ hall
      have hne : l.drop 1 ≠ [] := fun e => by rw [e] at hlen; simp [inB] at hlen
      have hd := dec_form _ (l.drop 1) rfl hall hne (fun h9 => by
        rcases hlead with h8 | h8
        · have : 0 < (l.drop 1).length := List.length_pos_iff.2 hne
          omega
        · exact absurd h9 h8)
      have h0 : acc (l.drop 1) = 0 := by
        have h2' : 0 ≤ -1 * acc (l.drop 1) := h2
        omega
      rw [h0, show (0 : Int).toNat = 0 from rfl, dec_lt (by omega)] at hd
      rcases hz with h8 | h8
      · exact h8 (by decide)
      · exact h8 hd.symm
    · exact absurd h1 (by simp)
  · rename_i h45
    rw [if_neg h45] at h2 ⊢
    unfold numU at h1 h2 ⊢
    split at h1
    · rename_i hf
      rw [if_pos hf] at h2 ⊢
      simp only [Bool.and_eq_true] at hf
      obtain ⟨hf, hall⟩ := hf
      unfold formB at hf
      simp only [Bool.and_eq_true, Bool.not_eq_true', Bool.and_eq_false_iff, decide_eq_false_iff_not] at hf
      obtain ⟨⟨hlen, hlead⟩, hz⟩ := hf
      have hne : l ≠ [] := fun e => by rw [e] at hlen; simp [inB] at hlen
      have hd := dec_form _ l rfl hall hne (fun h9 => by
        rcases hlead with h8 | h8
        · have : 0 < l.length := List.length_pos_iff.2 hne
          omega
        · exact absurd h9 h8)
      have hl7 : l.length ≤ 7 := by simp [inB] at hlen; omega
      have hb := acc_bd7 _ hall hl7
      exact ⟨acc l, hb.1, hb.2, by simp, hd.symm⟩
    · exact absurd h1 (by simp)
/-- What the program reads is what the specification reads. -/
theorem good_rd {y : ByteArray} {z : Int} {b : Bool} (h : goodN y = true) (hr : RdP y z b) : b = true ∧ num1 y.data.toList = (z, true) ∧ 0 ≤ z ∧ z ≤ 9999999 := by
  obtain ⟨n, h0, h1, h2, h3⟩ := good_dec h
  obtain ⟨rfl, rfl⟩ := rd_dec h0 h1 h3 hr
  exact ⟨rfl, h2, h0, by omega⟩
theorem rd_good {y : ByteArray} {z : Int} (hr : RdP y z true) (h0 : 0 ≤ z) (h1 : z ≤ 9999999) : goodN y = true ∧ num1 y.data.toList = (z, true) := by
  have h2 := rd_txt hr
  have h3 : num1 y.data.toList = (z, true) := by
    rw [h2, decI_l, if_neg (by omega), num1_dec _ (by omega)]
    rw [Int.toNat_of_nonneg h0]
  unfold goodN
  rw [h3]
  exact ⟨by simp [h0], rfl⟩

/-- Numbers that may stand in an event's line. -/
def allW (ns : List Int) : Bool := ns.all fun z => (decide (0 ≤ z) && decide (z ≤ 9999999))
theorem allW_tt {ns : List Int} {k : Nat} {x : Int} (h : allW (ns.take k) = true) (hx : ns[k]? = some x) (h0 : 0 ≤ x) (h1 : x ≤ 9999999) : allW (ns.take (k + 1)) = true := by
  unfold allW at *
  rw [List.take_add_one, hx, List.all_append, h]
  simp [h0, h1]
theorem allW_ff {ns : List Int} {k : Nat} {x : Int} (hx : ns[k]? = some x) (h : ¬ (0 ≤ x ∧ x ≤ 9999999)) : allW ns = false := by
  unfold allW
  rw [List.all_eq_false]
  exact ⟨x, List.mem_of_getElem? hx, by simpa using h⟩
set_option linter.unusedSimpArgs false in
set_option maxRecDepth 20000 in
set_option maxHeartbeats 1000000 in
theorem everyW {a : Option Addr} {m cap : Nat} {ns : List Int} (w : World) (hm : ns.length = m) (hl : m ≤ 101) (h : NumsAt w a ns) : Calls Tryd.prog 37 #[.slice a m cap, .func (.func 38) #[] #[]] w fun e w' => e = .returned (.bool (allW ns)) ∧ w' = w := by
  go_enter Tryd.func37, Tryd.ntmps37
  have HM := hide hm
  clear hm
  go_wp2_with fail
  go_loopw [9] (fun iv wr => ∃ k : Nat, k ≤ m ∧ iv = .int .i64 k ∧ Hid (allW (ns.take k) = true) ∧ wr = w) (fun iv _ => m - (intOf iv).toNat)
  case atStart => exact ⟨0, Nat.zero_le _, rfl, hide rfl, rfl⟩
  case round =>
    obtain ⟨k, hk, rfl, hA, rfl⟩ := hrel
    by_cases hlt : k < m
    · obtain ⟨x, hxk⟩ : ∃ x, ns[k]? = some x := ⟨_, List.getElem?_eq_getElem (by have := unhide HM; omega)⟩
      obtain ⟨g, rfl, hr⟩ := h.resolve_left (fun e => by rw [e] at hxk; simp at hxk)
      have hX := hide hxk
      have d0 := hr k _ hxk
      have hlt2 : (k : Int) < (m : Int) := by omega
      have hkw : IntKind.i64.wrap ((k : Int) + 1) = (k : Int) + 1 := by rw [IntKind.wrap_i64]; omega
      clear hr hxk
      by_cases h0 : 0 ≤ x
      · by_cases h1 : x ≤ 9999999
        · have HE : Hid (allW (ns.take (k + 1)) = true) := hide (allW_tt (unhide hA) (unhide hX) h0 h1)
          go_wp2
          refine ⟨⟨k + 1, by omega, by first | rfl | (simp; done), HE, by first | rfl | trivial⟩, ?_⟩
          simp [intOf]; omega
        · have HE : Hid (allW ns = false) := hide (allW_ff (unhide hX) (fun h => h1 h.2))
          go_wp2
          go_ret
          exact ⟨by rw [unhide HE]; rfl, rfl⟩
      · have HE : Hid (allW ns = false) := hide (allW_ff (unhide hX) (fun h => h0 h.1))
        go_wp2
        go_ret
        exact ⟨by rw [unhide HE]; rfl, rfl⟩
    · have HE : Hid (allW ns = true) := hide (by have h1 := unhide hA; rwa [List.take_of_length_le (by have := unhide HM; omega)] at h1)
      have hge : ¬ (k : Int) < (m : Int) := by omega
      go_wp2
      go_ret
      exact ⟨by rw [unhide HE]; rfl, rfl⟩
end Go.Proofs.YtbbjjpgmekfbeaaDoor
