/- Proved here: the specification's digits are the decimal numeral. -/
import Derived.Test.YtcokdcehjibanaaGreatDoorWin
import Derived.Lib.ItoaNum
import Derived.Lib.ItoaLen
import Derived.Laws.IdiomStrings

namespace Go.Proofs.YtcokdcehjibanaaGreatDoor
open Go.ChangeShapes Go.WideShapes Go.ChangeAt Go.RowKit
set_option linter.unusedVariables false

theorem dec_lt {u : Nat} (h : u < 10) : Lib.decDigits u = [UInt8.ofNat (48 + u)] := by rw [Lib.decDigits, dif_pos h]

theorem dec_ge {u : Nat} (h : ¬ u < 10) : Lib.decDigits u = Lib.decDigits (u / 10) ++ [UInt8.ofNat (48 + u % 10)] := by rw [Lib.decDigits, dif_neg h]

theorem dec_len (u : Nat) (h : u ≤ 99999999) : (Lib.decDigits u).length ≤ 21 := by
  have := Lib.itoa_length_le (u : Int) (by omega) (by omega)
  unfold Lib.itoa at this
  rw [if_neg (by omega)] at this
  simpa using this

theorem bytes_add (a b : List UInt8) : (⟨a.toArray⟩ ++ ⟨b.toArray⟩ : ByteArray) = ⟨(a ++ b).toArray⟩ := by
  apply ByteArray.ext
  simp

theorem conv1 (x : Int) (h0 : 0 ≤ x) (h1 : x ≤ 255) (w : World) : (convert 22 9 (.slice (some ⟨w.heap.size, 0, none⟩) 1 1)).run Tryz.prog (w.alloc (.cells #[.int .u8 x] 5)) = .ok (.string ⟨[UInt8.ofNat x.toNat].toArray⟩) (w.alloc (.cells #[.int .u8 x] 5)) := by
  have h := run_convert_bytes_back (P := Tryz.prog) (w.alloc (.cells #[.int .u8 x] 5)) 22 9 5 ⟨w.heap.size, 0, none⟩ 1 [UInt8.ofNat x.toNat] Tryz.underlying22 Tryz.underlying5 Tryz.underlying9 (by
    intro j hj
    have hj0 : j = 0 := by simpa using hj
    subst hj0
    simp [Addr.add, go_sem]; omega)
  simpa using h

theorem conv1c (x : Int) (h0 : 0 ≤ x) (h1 : x ≤ 255) (w : World) : ∃ c : UInt8, Hid (c = UInt8.ofNat x.toNat) ∧ (convert 22 9 (.slice (some ⟨w.heap.size, 0, none⟩) 1 1)).run Tryz.prog (w.alloc (.cells #[.int .u8 x] 5)) = .ok (.string ⟨[c].toArray⟩) (w.alloc (.cells #[.int .u8 x] 5)) := ⟨_, hide rfl, conv1 x h0 h1 w⟩

set_option maxRecDepth 20000 in
set_option maxHeartbeats 1000000 in
theorem digits_any (n : Nat) (w : World) (hn : n ≤ 99999999) : Calls Tryz.prog 41 #[.int .i64 (n : Int)] w fun e w' => e = .returned (.string ⟨(Lib.decDigits n).toArray⟩) ∧ Below w.heap.size w w' := by
  have hL := dec_len n hn
  go_enter Tryz.func41, Tryz.ntmps41
  go_wp2
  go_loopw [0, 3] (fun nv ov wr => ∃ (u : Nat) (out : List UInt8), u ≤ n ∧ nv = .int .i64 (u : Int) ∧ ov = .string ⟨out.toArray⟩ ∧ Hid (Lib.decDigits n = Lib.decDigits u ++ out) ∧ Below w.heap.size w wr) (fun nv _ _ => (intOf nv).toNat)
  case atStart => exact ⟨n, [], Nat.le_refl _, rfl, rfl, hide (by simp), Below.refl _ _⟩
  case round =>
    obtain ⟨u, out, hu, rfl, rfl, hd, hbw⟩ := hrel
    have hol : out.length ≤ 21 := by
      have := unhide hd
      have h2 : (Lib.decDigits n).length = (Lib.decDigits u).length + out.length := by rw [this]; simp
      omega
    by_cases hlt : (9 : Int) < (u : Int)
    · obtain ⟨c, hc, hcv⟩ := conv1c (48 + (u : Int) % 10) (by omega) (by omega) wr
      have hstep : Hid (Lib.decDigits n = Lib.decDigits (u / 10) ++ ([c] ++ out)) := hide (by
        rw [unhide hd, dec_ge (by omega), unhide hc, show (48 + (u : Int) % 10).toNat = 48 + u % 10 by omega]; simp)
      go_wp2
      go_roundw
      case rel => exact ⟨u / 10, [c] ++ out, by omega, by go_num, by rw [← bytes_add], hstep, bel_alloc hbw _⟩
      case measure => simp [intOf]; omega
    · obtain ⟨c, hc, hcv⟩ := conv1c (48 + (u : Int)) (by omega) (by omega) wr
      have hstep : Hid (Lib.decDigits n = [c] ++ out) := hide (by
        rw [unhide hd, dec_lt (by omega), unhide hc, show (48 + (u : Int)).toNat = 48 + u by omega])
      go_wp2
      go_ret
      exact ⟨by rw [unhide hstep, ← bytes_add]; rfl, bel_alloc hbw _⟩
end Go.Proofs.YtcokdcehjibanaaGreatDoor
