/- Proved here: a slice of texts is marked, and found again; an append to a slice of the call's own, as one step of a statement whose order is open. -/
import Derived.Test.YtcokdcehjibanaaDoorRwStr
import Derived.Test.YtcokdcehjibanaaDoorWinText
import Derived.Deep.RegionLawGrows
import Derived.Deep.Onto
namespace Go.Proofs.YtcokdcehjibanaaDoor
open Go.ChangeShapes Go.WideShapes Go.ChangeAt Go.RowKit
set_option linter.unusedVariables false

theorem grown_bel {w wr w' : World} {row : Option Nat} (h : w.grownBy wr row) (hb : Below wr.heap.size wr w') : w.grownBy w' row :=
  ⟨hb.os.trans h.os, hb.tape.trans h.tape, hb.output.trans h.output, Nat.le_trans h.size hb.size, fun k hk hne => (hb.block k (Nat.lt_of_lt_of_le hk h.size)).trans (h.block k hk hne)⟩

set_option maxRecDepth 20000 in
set_option maxHeartbeats 1000000 in
theorem markSt_any (a : Option Addr) (n cap : Nat) (w : World) (h : WrSt w a n cap) (hn : n ≤ 1048576) : Calls Tryd.prog 10 #[.slice a n cap, .int .i64 1] w fun e w' => e = .returned (.int .i64 ((n + 1 : Nat) : Int)) ∧ MarkedSt w' a n ∧ w.grownBy w' (rowSt a n) := by
  by_cases h0 : n = 0
  · subst h0
    go_enter Tryd.func10, Tryd.ntmps10
    go_wp2
    go_loopw [1, 5] (fun kv i wr => kv = .int .i64 1 ∧ i = .int .i64 0 ∧ wr = w) (fun _ _ _ => 0)
    case atStart => exact ⟨rfl, rfl, rfl⟩
    case round =>
      obtain ⟨rfl, rfl, rfl⟩ := hrel
      go_wp2
      go_ret
      exact ⟨rfl, Or.inl rfl, grown0St (Below.refl _ _)⟩
  · obtain ⟨g, rfl, hB, hc⟩ := h.resolve_left h0
    rw [rowSt_pos h0]
    go_enter Tryd.func10, Tryd.ntmps10
    go_wp2
    go_loopw [1, 5] (fun kv i wr => ∃ j : Nat, j ≤ n ∧ kv = .int .i64 ((j + 1 : Nat) : Int) ∧ i = .int .i64 j ∧ BlkSt wr g 9 cap ∧ (∀ i, i < j → StRAt wr g (i * 1) (markSt i)) ∧ w.grownBy wr (some g)) (fun _ i _ => n - (intOf i).toNat)
    case atStart => exact ⟨0, Nat.zero_le _, rfl, rfl, hB, fun i hi => absurd hi (by omega), ⟨rfl, rfl, rfl, Nat.le_refl _, fun _ _ _ => rfl⟩⟩
    case round =>
      obtain ⟨j, hj, rfl, rfl, hBw, hM, hG⟩ := hrel
      have HM := hide hM
      clear hM
      by_cases hlt : j < n
      · go_wp2_with fail
        refine (marktext_any (j + 1) _ (by omega) (by omega)).mono ?_
        rintro e w' ⟨rfl, hb⟩
        have hB' := hBw.below hb hBw.lt
        have HM' := hide (fun i (hi : i < j) => (unhide HM i hi).below hb hBw.lt)
        have hG' := grown_bel hG hb
        obtain ⟨u0, d0⟩ := hB'.cells (k := j) (by omega)
        have f0 := hB'.frozen (i := j)
        rw [Nat.mul_one] at d0
        go_wp2
        go_roundw
        case rel =>
          obtain ⟨s1, s2, s3⟩ := markSt_step hB' (by omega) (unhide HM') hG'
          rw [show setSt w' g (j * 1) (markSt j) = w'.setCell ⟨g, j, none⟩ (.string (mkTxt (j + 1))) by unfold setSt; rw [Nat.mul_one]; rfl] at s1 s2 s3
          exact ⟨j + 1, by omega, by go_num, by go_num, s1, s2, s3⟩
        case measure => simp [intOf]; omega
      · obtain rfl : j = n := by omega
        go_wp2
        go_ret
        exact ⟨rfl, Or.inr ⟨g, rfl, unhide HM⟩, hG⟩

end Go.Proofs.YtcokdcehjibanaaDoor
