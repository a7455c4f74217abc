/- Proved here: what the specification reads as a number. -/
import Derived.Test.YtcokdcehjibanaaGreatDoorDig
import Derived.Deep.DeepCutAuto

namespace Go.Proofs.YtcokdcehjibanaaGreatDoor
open Go.ChangeShapes Go.WideShapes Go.ChangeAt Go.RowKit
set_option linter.unusedVariables false

/-- A digit; the number that digits are; a word of one to seven digits, without needless noughts; with a sign. -/
def digB (c : UInt8) : Bool := decide (48 ≤ (c.toNat : Int)) && decide ((c.toNat : Int) ≤ 57)

def acc (l : List UInt8) : Int := l.foldl (fun n c => n * 10 + ((c.toNat : Int) - 48)) 0

def formB (sg : Int) (l : List UInt8) : Bool := inB l.length 1 7 && !(decide (1 < l.length) && decide (l.head? = some 48)) && !(decide (sg < 0) && decide (l = [48]))

def numU (sg : Int) (l : List UInt8) : Int × Bool := if (formB sg l && l.all digB) = true then (sg * acc l, true) else (0, false)

theorem acc_snoc (l : List UInt8) (c : UInt8) : acc (l ++ [c]) = acc l * 10 + ((c.toNat : Int) - 48) := by simp [acc]

theorem acc_bd (l : List UInt8) (h : l.all digB = true) : 0 ≤ acc l ∧ acc l < 10 ^ l.length := by
  have key : ∀ r : List UInt8, r.all digB = true → 0 ≤ acc r.reverse ∧ acc r.reverse < 10 ^ r.length := by
    intro r
    induction r with
    | nil => intro _; simp [acc]
    | cons c r ih =>
      intro hr
      simp only [List.all_cons, Bool.and_eq_true] at hr
      obtain ⟨h1, h2⟩ := ih hr.2
      have h3 := hr.1
      simp only [digB, Bool.and_eq_true, decide_eq_true_eq] at h3
      rw [List.reverse_cons, acc_snoc]
      simp only [List.length_cons, Int.pow_succ]
      omega
  have := key l.reverse (by simpa using h)
  simpa using this

theorem take_snocB (s : ByteArray) (k : Nat) (h : k < s.size) : s.data.toList.take (k + 1) = s.data.toList.take k ++ [s[k]] := by
  rw [List.take_succ_eq_append_getElem (by simpa using h)]; rfl

/-- What a word is read as. -/
def num1 (l : List UInt8) : Int × Bool := if l.head? = some 45 then numU (-1) (l.drop 1) else numU 1 l

def isNeg (s : ByteArray) : Bool := decide (s.data.toList.head? = some 45)

theorem isNeg_nil {s : ByteArray} (h : s.size = 0) : isNeg s = false := by
  have : s.data.toList = [] := by rw [← List.length_eq_zero_iff]; simpa using h
  simp [isNeg, this]

theorem head_eq (s : ByteArray) (h : 0 < s.size) : s.data.toList.head? = some s[0] := by
  rw [List.head?_eq_getElem?, List.getElem?_eq_getElem (by simpa using h)]; rfl

theorem u8_eq (c : UInt8) (n : Nat) (hn : n < 256) : ((c.toNat : Int) == (n : Int)) = decide (c = UInt8.ofNat n) := by
  rw [Bool.eq_iff_iff]
  simp only [beq_iff_eq, decide_eq_true_eq]
  constructor
  · intro h
    apply UInt8.toNat_inj.1
    rw [UInt8.toNat_ofNat']
    omega
  · intro h
    rw [h, UInt8.toNat_ofNat']
    omega

theorem isNeg_cons (s : ByteArray) (h : 0 < s.size) : isNeg s = ((s[0].toNat : Int) == 45) := by
  unfold isNeg
  rw [head_eq s h]
  have := u8_eq s[0] 45 (by omega)
  simp at this
  simp [this]

theorem isNeg_size {s : ByteArray} (h : isNeg s = true) : 0 < s.size := by
  rcases Nat.eq_zero_or_pos s.size with h0 | h0
  · rw [isNeg_nil h0] at h; cases h
  · exact h0

theorem num1_pos {s : ByteArray} (h : isNeg s = false) : num1 s.data.toList = numU 1 s.data.toList := by
  unfold num1
  rw [if_neg (of_decide_eq_false h)]

theorem num1_neg {s : ByteArray} (h : isNeg s = true) : num1 s.data.toList = numU (-1) (s.data.toList.drop 1) := by
  unfold num1
  rw [if_pos (of_decide_eq_true h)]

theorem ext1 (s : ByteArray) : (s.extract 1 s.size).data.toList = s.data.toList.drop 1 := by
  rw [ByteArray.data_extract]
  simp
  exact List.take_of_length_le (by simp)

theorem form_len {sg : Int} {t : ByteArray} (h : inB (t.size : Int) 1 7 = false) : formB sg t.data.toList = false := by
  unfold formB
  rw [show ((t.data.toList.length : Nat) : Int) = (t.size : Int) by simp, h]; rfl

theorem form_eq {sg : Int} {t : ByteArray} (h : inB (t.size : Int) 1 7 = true) (hp : 0 < t.size) : formB sg t.data.toList = (!(decide ((1 : Int) < (t.size : Int)) && ((t[0].toNat : Int) == 48)) && !(decide (sg < 0) && decide (t.data.toList = [48]))) := by
  unfold formB
  rw [show ((t.data.toList.length : Nat) : Int) = (t.size : Int) by simp, h, head_eq t hp]
  have := u8_eq t[0] 48 (by omega)
  simp at this
  have e : decide (1 < t.size) = decide ((1 : Int) < (t.size : Int)) := decide_eq_decide.2 (by omega)
  simp [this, e]

theorem tol (t : ByteArray) : (t.toList == [48]) = decide (t.data.toList = [48]) := by
  rw [Go.ByteArray.toList_eq]
  exact Bool.eq_iff_iff.2 (by simp)

theorem form_size {sg : Int} {t : ByteArray} (h : formB sg t.data.toList = true) : t.size ≤ 7 := by
  unfold formB at h
  simp only [Bool.and_eq_true, inB_iff] at h
  have := h.1.1.2
  simp at this
  omega

theorem acc_bd7 (l : List UInt8) (h : l.all digB = true) (hl : l.length ≤ 7) : 0 ≤ acc l ∧ acc l < 10000000 := by
  obtain ⟨h1, h2⟩ := acc_bd l h
  refine ⟨h1, Int.lt_of_lt_of_le h2 ?_⟩
  have h8 : ∀ m ∈ List.range 8, (10 : Int) ^ m ≤ 10000000 := by decide
  exact h8 l.length (List.mem_range.2 (by omega))

theorem num_bad {sg : Int} {t : ByteArray} {k : Nat} (hk : k < t.size) (h : digB t[k] = false) : numU sg t.data.toList = (0, false) := by
  unfold numU
  have : t.data.toList.all digB = false := by
    rw [List.all_eq_false]
    exact ⟨t[k], by exact List.getElem_mem (l := t.data.toList) (by simpa using hk), by simp [h]⟩
  rw [this]; simp

set_option maxRecDepth 20000 in
set_option maxHeartbeats 1000000 in
theorem number_any (s : ByteArray) (w : World) (hs : s.size ≤ 1048576) : Calls Tryz.prog 49 #[.string s] w fun e w' => e = .returned (.tuple #[.int .i64 (num1 s.data.toList).1, .bool (num1 s.data.toList).2]) ∧ w' = w := by
  go_enter Tryz.func49, Tryz.ntmps49
  go_upto_region 2 with fail
  go_cut [14] (fun b W => W = w ∧ b = .bool (isNeg s))
  case first =>
    by_cases h0 : s.size = 0
    · have hq := hide (isNeg_nil h0)
      go_wp2
      go_meet
      exact ⟨rfl, congrArg Value.bool (unhide hq).symm⟩
    · have hp' : 0 < s.size := by omega
      have hp : (0 : Int) < (s.size : Int) := by omega
      have hq := hide (isNeg_cons s hp')
      go_wp2
      go_meet
      exact ⟨rfl, congrArg Value.bool (unhide hq).symm⟩
  case rest =>
    obtain ⟨rfl, rfl⟩ := hcut
    go_upto_if 14 with fail
    go_cut [0, 4] (fun sv gv W => W = wc ∧ ∃ (t : ByteArray) (sg : Int), sv = .string t ∧ gv = .int .i64 sg ∧ t.size ≤ 1048576 ∧ (sg = 1 ∨ sg = -1) ∧ Hid (num1 s.data.toList = numU sg t.data.toList))
    case first =>
      cases hn : isNeg s
      · have hq := hide (num1_pos hn)
        go_wp2
        go_meet
        exact ⟨rfl, s, 1, rfl, rfl, hs, Or.inl rfl, hq⟩
      · have hsz := isNeg_size hn
        have hq := hide (num1_neg hn)
        go_wp2
        go_meet
        exact ⟨rfl, s.extract 1 s.size, -1, rfl, rfl, by rw [ByteArray.size_extract]; omega, Or.inr rfl, by rw [ext1]; exact hq⟩
    case rest =>
      obtain ⟨rfl, t, sg, rfl, rfl, ht, hsg, hnum⟩ := hcut
      go_upto_region 5 with fail
      go_cut [38] (fun b W => W = wc ∧ b = .bool (!formB sg t.data.toList))
      case first =>
        cases hin : inB (t.size : Int) 1 7
        · have hq := hide (form_len (sg := sg) hin)
          go_wp2_with (go_at_call 39; refine (l1In_any _ _ _ _).mono ?_; rintro e w' ⟨rfl, hw⟩; obtain rfl := hw.symm)
          go_meet
          exact ⟨rfl, by rw [unhide hq]; rfl⟩
        · obtain ⟨hi1, hi2⟩ := inB_iff.1 hin
          have hp' : 0 < t.size := by omega
          have hp : (0 : Int) < (t.size : Int) := by omega
          have hf := hide (form_eq (sg := sg) hin hp')
          by_cases h1 : (1 : Int) < (t.size : Int)
          · cases h48 : ((t[0].toNat : Int) == 48)
            · rcases hsg with rfl | rfl
              · go_wp2_with (go_at_call 39; refine (l1In_any _ _ _ _).mono ?_; rintro e w' ⟨rfl, hw⟩; obtain rfl := hw.symm)
                go_meet
                exact ⟨rfl, by rw [unhide hf]; simp [h1, h48]⟩
              · go_wp2_with (go_at_call 39; refine (l1In_any _ _ _ _).mono ?_; rintro e w' ⟨rfl, hw⟩; obtain rfl := hw.symm)
                go_meet
                exact ⟨rfl, by rw [unhide hf, tol]; simp [h48]⟩
            · go_wp2_with (go_at_call 39; refine (l1In_any _ _ _ _).mono ?_; rintro e w' ⟨rfl, hw⟩; obtain rfl := hw.symm)
              go_meet
              exact ⟨rfl, by rw [unhide hf]; simp [h1, h48]⟩
          · rcases hsg with rfl | rfl
            · go_wp2_with (go_at_call 39; refine (l1In_any _ _ _ _).mono ?_; rintro e w' ⟨rfl, hw⟩; obtain rfl := hw.symm)
              go_meet
              exact ⟨rfl, by rw [unhide hf]; simp; omega⟩
            · go_wp2_with (go_at_call 39; refine (l1In_any _ _ _ _).mono ?_; rintro e w' ⟨rfl, hw⟩; obtain rfl := hw.symm)
              go_meet
              exact ⟨rfl, by rw [unhide hf, tol, show decide ((1 : Int) < (t.size : Int)) = false from decide_eq_false (by omega)]; simp⟩
      case rest =>
        obtain ⟨hwc, rfl⟩ := hcut
        obtain rfl := hwc.symm
        cases hF : formB sg t.data.toList
        · have hq : Hid (num1 s.data.toList = (0, false)) := hide (by rw [unhide hnum]; unfold numU; rw [hF]; rfl)
          go_wp2
          go_ret2
          exact ⟨by rw [unhide hq]; rfl, rfl⟩
        · have hsz := hide (form_size hF)
          have hlen := form_size hF
          go_wp2
          go_loop [5, 6] (fun nv i => ∃ k : Nat, k ≤ t.size ∧ i = .int .i64 k ∧ nv = .int .i64 (acc (t.data.toList.take k)) ∧ Hid ((t.data.toList.take k).all digB = true)) (fun _ i => t.size - (intOf i).toNat)
          case atStart => exact ⟨0, Nat.zero_le _, rfl, rfl, hide rfl⟩
          case round =>
            obtain ⟨k, hk, rfl, rfl, hall⟩ := hrel
            have hb := acc_bd7 (t.data.toList.take k) (unhide hall) (Nat.le_trans (List.length_take_le _ _) (by omega))
            by_cases hlt : k < t.size
            · have htk := hide (take_snocB t k hlt)
              by_cases hd1 : ((t[k].toNat : Int) < 48)
              · have hq : Hid (num1 s.data.toList = (0, false)) := hide (by rw [unhide hnum]; exact num_bad hlt (by simp [digB]; omega))
                go_wp2
                go_ret2
                exact ⟨by rw [unhide hq]; rfl, rfl⟩
              · by_cases hd2 : (57 < (t[k].toNat : Int))
                · have hq : Hid (num1 s.data.toList = (0, false)) := hide (by rw [unhide hnum]; exact num_bad hlt (by simp [digB]; omega))
                  go_wp2
                  go_ret2
                  exact ⟨by rw [unhide hq]; rfl, rfl⟩
                · have hacc : Hid (acc (t.data.toList.take (k + 1)) = acc (t.data.toList.take k) * 10 + ((t[k].toNat : Int) - 48)) := hide (by rw [unhide htk, acc_snoc])
                  have hall' : Hid ((t.data.toList.take (k + 1)).all digB = true) := hide (by rw [unhide htk, List.all_append, unhide hall]; simp [digB]; omega)
                  go_wp2
                  go_round
                  case rel => exact ⟨k + 1, by omega, by go_num, by rw [unhide hacc], hall'⟩
                  case measure => simp [intOf]; omega
            · have hq : Hid (num1 s.data.toList = (sg * acc (t.data.toList.take k), true)) := hide (by
                have e : t.data.toList.take k = t.data.toList := List.take_of_length_le (by simp; omega)
                rw [unhide hnum]; unfold numU; rw [e]; rw [e] at hall; rw [hF, unhide hall]; rfl)
              rcases hsg with rfl | rfl
              · go_wp2
                go_ret2
                exact ⟨by rw [unhide hq]; simp, rfl⟩
              · go_wp2
                go_ret2
                exact ⟨by rw [unhide hq]; simp, rfl⟩
end Go.Proofs.YtcokdcehjibanaaGreatDoor
