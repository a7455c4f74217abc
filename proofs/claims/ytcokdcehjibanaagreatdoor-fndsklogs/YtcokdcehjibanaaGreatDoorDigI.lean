/- Proved here: a number's text, below 0 too, in the program and in the specification. -/
import Derived.Test.YtcokdcehjibanaaGreatDoorWinText
namespace Go.Proofs.YtcokdcehjibanaaGreatDoor
open Go.ChangeShapes Go.WideShapes Go.ChangeAt Go.RowKit
set_option linter.unusedVariables false

/-- A number's decimal numeral. -/
def decI (n : Int) : ByteArray := if n < 0 then ⟨#[45]⟩ ++ decS (-n) else decS n

theorem decI_n {n : Int} (h : n < 0) : decI n = ⟨#[45]⟩ ++ decS (-n) := if_pos h

theorem decI_p {n : Int} (h : ¬ n < 0) : decI n = decS n := if_neg h

theorem decI_size (n : Int) (h0 : -99999999 ≤ n) (h1 : n ≤ 99999999) : (decI n).size ≤ 22 := by
  by_cases h : n < 0
  · rw [decI_n h, ByteArray.size_append]
    have := decS_size (-n) (by omega)
    have e : (⟨#[45]⟩ : ByteArray).size = 1 := rfl
    omega
  · rw [decI_p h]
    have := decS_size n (by omega)
    omega

theorem itoaI_any (n : Int) (w : World) (h0 : -99999999 ≤ n) (h1 : n ≤ 99999999) (htab : Lib.TabIs Tryz.prog w "internal/strconv.uint64pow10" .u64 Lib.pow10Tab) : Calls Tryz.prog 57 #[.int .i64 n] w fun e w' => e = .returned (.string (decI n)) ∧ Below w.heap.size w w' := by
  by_cases h : n < 0
  · refine (Tryz.strconv_Itoa n (by omega) (by omega) w htab).mono ?_
    rintro e w' ⟨rfl, k, os, rfl⟩
    refine ⟨?_, below_gr w k os⟩
    rw [decI_n h]
    unfold decS Lib.itoa
    rw [if_pos h, bytes_add [45] _, show n.natAbs = (-n).toNat by omega]
    rfl
  · rw [decI_p h]
    exact itoa_any n w (by omega) h1 htab

theorem digI_any (n : Int) (w : World) (h0 : -99999999 ≤ n) (h1 : n ≤ 99999999) : Calls Tryz.prog 41 #[.int .i64 n] w fun e w' => e = .returned (.string (decI n)) ∧ Below w.heap.size w w' := by
  by_cases h : n < 0
  · have s1 := decS_size (-n) (by omega)
    have s2 : ¬ 9223372036854775807 < 1 + (decS (-n)).size := by omega
    have HQ := hide (decI_n h)
    go_enter Tryz.func41, Tryz.ntmps41
    go_wp2_with (go_at_call 41; refine (dig_any (-n) _ (by omega) (by omega)).mono ?_; rintro e w' ⟨rfl, hb⟩)
    go_ret
    exact ⟨ret_s (unhide HQ).symm, (by repeat (first | (with_reducible exact Below.refl _ _) | (with_reducible assumption) | (with_reducible refine bel_set ?_ (by first | (simp; done) | (simp; omega)) _) | (with_reducible refine bel_alloc ?_ _) | (with_reducible refine bel_drew ?_) | (with_reducible refine bel_drewN ?_ _) | (with_reducible refine bel_trans ?_ (by with_reducible assumption))))⟩
  · rw [decI_p h]
    exact dig_any n w (by omega) h1

end Go.Proofs.YtcokdcehjibanaaGreatDoor
