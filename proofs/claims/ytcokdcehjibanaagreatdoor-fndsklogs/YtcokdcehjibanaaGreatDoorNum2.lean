/- Proved here: decimal numerals are read as the number that they are. -/
import Derived.Test.YtcokdcehjibanaaGreatDoorNum

namespace Go.Proofs.YtcokdcehjibanaaGreatDoor
open Go.RowKit
set_option linter.unusedVariables false

theorem ofNat_toNat {n : Nat} (h : n < 256) : (UInt8.ofNat n).toNat = n := by rw [UInt8.toNat_ofNat']; omega

theorem dec_acc (u : Nat) : acc (Lib.decDigits u) = (u : Int) := by
  induction u using Nat.strongRecOn with
  | _ u ih =>
    by_cases h : u < 10
    · rw [dec_lt h]
      simp only [acc, List.foldl_cons, List.foldl_nil]
      rw [ofNat_toNat (by omega)]
      omega
    · rw [dec_ge h, acc_snoc, ih (u / 10) (by omega), ofNat_toNat (by omega)]
      omega

theorem dec_all (u : Nat) : (Lib.decDigits u).all digB = true := by
  induction u using Nat.strongRecOn with
  | _ u ih =>
    by_cases h : u < 10
    · rw [dec_lt h]
      simp only [List.all_cons, List.all_nil, Bool.and_true, digB, Bool.and_eq_true, decide_eq_true_eq]
      rw [ofNat_toNat (by omega)]
      omega
    · rw [dec_ge h, List.all_append, ih (u / 10) (by omega)]
      simp only [List.all_cons, List.all_nil, Bool.and_true, Bool.true_and, digB, Bool.and_eq_true, decide_eq_true_eq]
      rw [ofNat_toNat (by omega)]
      omega

theorem dec_head (u : Nat) : ∃ c r, Lib.decDigits u = c :: r ∧ (0 < u → c ≠ 48) ∧ (u < 10 → r = []) := by
  induction u using Nat.strongRecOn with
  | _ u ih =>
    by_cases h : u < 10
    · refine ⟨_, [], dec_lt h, fun hp e => ?_, fun _ => rfl⟩
      have := congrArg UInt8.toNat e
      rw [ofNat_toNat (by omega)] at this
      simp at this
      omega
    · obtain ⟨c, r, he, hc, _⟩ := ih (u / 10) (by omega)
      exact ⟨c, r ++ [UInt8.ofNat (48 + u % 10)], by rw [dec_ge h, he]; rfl, fun _ => hc (by omega), fun h' => absurd h' h⟩

theorem dec_lenk (k : Nat) : ∀ u, u < 10 ^ (k + 1) → (Lib.decDigits u).length ≤ k + 1 := by
  induction k with
  | zero => intro u h; rw [dec_lt (by simpa using h)]; simp
  | succ k ih =>
    intro u h
    by_cases h1 : u < 10
    · rw [dec_lt h1]; simp
    · rw [dec_ge h1, List.length_append]
      have := ih (u / 10) (by rw [Nat.pow_succ] at h; omega)
      simp
      omega

theorem dec_pos (u : Nat) : 1 ≤ (Lib.decDigits u).length := by
  obtain ⟨c, r, he, _⟩ := dec_head u
  rw [he]; simp

theorem num1_dec (u : Nat) (h : u < 10000000) : num1 (Lib.decDigits u) = ((u : Int), true) := by
  have hall := dec_all u
  have hacc := dec_acc u
  have hl := dec_lenk 6 u (by omega)
  have hp := dec_pos u
  obtain ⟨c, r, he, hc, hr⟩ := dec_head u
  have hd : digB c = true := by
    rw [he] at hall
    simp only [List.all_cons, Bool.and_eq_true] at hall
    exact hall.1
  have hn45 : c ≠ 45 := by
    intro e
    rw [e] at hd
    simp [digB] at hd
  unfold num1
  rw [if_neg (by rw [he]; simpa using hn45)]
  unfold numU
  have hform : formB 1 (Lib.decDigits u) = true := by
    unfold formB
    rw [inB_tt (by omega) (by omega)]
    by_cases h10 : u < 10
    · have : (Lib.decDigits u).length = 1 := by rw [dec_lt h10]; rfl
      simp [this]
    · have : c ≠ 48 := hc (by omega)
      rw [he]
      simp [this]
  rw [hform, hall, hacc]
  simp
end Go.Proofs.YtcokdcehjibanaaGreatDoor
