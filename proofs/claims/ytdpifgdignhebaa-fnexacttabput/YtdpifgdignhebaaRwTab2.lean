/- Proved here: rows that are marked and held, one more than came in. -/
import Derived.Test.YtdpifgdignhebaaRwTab
namespace Go.Proofs.Ytdpifgdignhebaa
open Go.ChangeShapes Go.WideShapes Go.ChangeAt Go.RowKit
set_option linter.unusedVariables false

theorem holdTb2 {W : World} {B : Nat} {v : Value} {ys : List TbR} (h : OwnTb W B v ys) (hl : ys.length ≤ 2097152) :
    ∃ a cap, v = .slice a ys.length cap ∧ TbRs W a ys.length ys ∧ WrTb W a ys.length cap ∧ ∀ g o, 0 < ys.length → a = some ⟨g, o, none⟩ → B ≤ g := by
  have hm : ys.length ≤ maxLen := by unfold maxLen; omega
  obtain ⟨hlen, h | ⟨g, cap, cur, rfl, hB, hblk, hnc, hcm, hsz, htk⟩⟩ := h
  · obtain ⟨rfl, h0⟩ := h
    rw [h0]
    exact ⟨none, 0, rfl, ⟨h0, Nat.zero_le _, Or.inl rfl⟩, Or.inl rfl, fun _ _ hp => by omega⟩
  · refine ⟨_, cap, rfl, ⟨rfl, hm, Or.inr ⟨g, 0, rfl, ?_⟩⟩, Or.inr ⟨g, rfl, ⟨cur, hblk, hsz⟩, hnc⟩, fun g' o' _ e => by simp at e; omega⟩
    intro i x hx
    have hi : i < ys.length := (List.getElem?_eq_some_iff.1 hx).1
    have hcell : ∀ j u, j < ys.length * 7 → (flatTb ys)[j]? = some u → W.cell? ⟨g, j, none⟩ = some u := by
      intro j u hj hu
      rw [Joins.cell_of_block hblk j, ← Array.getElem?_toList]
      rw [← htk, List.getElem?_take_of_lt hj] at hu
      exact hu
    obtain ⟨f0, f1, f2, f3, f4, f5, f6⟩ := flatTb_get hx
    rw [Nat.zero_add]
    exact ⟨hcell _ _ (by omega) f0, hcell _ _ (by omega) f1, hcell _ _ (by omega) f2, hcell _ _ (by omega) f3, hcell _ _ (by omega) f4, hcell _ _ (by omega) f5, hcell _ _ (by omega) f6⟩
set_option maxRecDepth 20000 in
set_option maxHeartbeats 1000000 in
theorem markTb_any2 (a : Option Addr) (n cap : Nat) (w : World) (h : WrTb w a n cap) (hn : n ≤ 2097152) : Calls Try.prog 14 #[.slice a n cap, .int .i64 1] w fun e w' => e = .returned (.int .i64 (1 + 7 * (n : Int))) ∧ MarkedTb w' a n ∧ w.grownBy w' (rowTb a n) := by
  by_cases h0 : n = 0
  · subst h0
    go_enter Try.func14, Try.ntmps14
    go_wp2
    go_loopw [1, 5] (fun kv i wr => kv = .int .i64 1 ∧ i = .int .i64 0 ∧ wr = w) (fun _ _ _ => 0)
    case atStart => exact ⟨rfl, rfl, rfl⟩
    case round =>
      obtain ⟨rfl, rfl, rfl⟩ := hrel
      go_wp2
      go_ret
      exact ⟨rfl, Or.inl rfl, grown0Tb (Below.refl _ _)⟩
  · obtain ⟨g, rfl, hB, hc⟩ := h.resolve_left h0
    rw [rowTb_pos h0]
    go_enter Try.func14, Try.ntmps14
    go_wp2
    go_loopw [1, 5] (fun kv i wr => ∃ j : Nat, j ≤ n ∧ kv = .int .i64 (1 + 7 * (j : Int)) ∧ i = .int .i64 j ∧ BlkTb wr g 36 cap ∧ (∀ i, i < j → TbRAt wr g (i * 7) (markTb i)) ∧ w.grownBy wr (some g)) (fun _ i _ => n - (intOf i).toNat)
    case atStart => exact ⟨0, Nat.zero_le _, rfl, rfl, hB, fun i hi => absurd hi (by omega), ⟨rfl, rfl, rfl, Nat.le_refl _, fun _ _ _ => rfl⟩⟩
    case round =>
      obtain ⟨j, hj, rfl, rfl, hBw, hM, hG⟩ := hrel
      have HM := hide hM
      clear hM
      by_cases hlt : j < n
      · obtain ⟨⟨u0, d0⟩, ⟨u1, d1⟩, ⟨u2, d2⟩, ⟨u3, d3⟩, ⟨u4, d4⟩, ⟨u5, d5⟩, ⟨u6, d6⟩⟩ := hBw.cells (k := j) (by omega)
        have f0 := hBw.frozen (i := j * 7)
        have f1 := hBw.frozen (i := j * 7 + 1)
        have f2 := hBw.frozen (i := j * 7 + 2)
        have f3 := hBw.frozen (i := j * 7 + 3)
        have f4 := hBw.frozen (i := j * 7 + 4)
        have f5 := hBw.frozen (i := j * 7 + 5)
        have f6 := hBw.frozen (i := j * 7 + 6)
        go_wp2
        go_roundw
        case rel =>
          obtain ⟨s1, s2, s3⟩ := markTb_step hBw (by omega) (unhide HM) hG
          exact ⟨j + 1, by omega, by go_num, by go_num, s1, s2, s3⟩
        case measure => simp [intOf]; omega
      · obtain rfl : j = n := by omega
        go_wp2
        go_ret
        exact ⟨rfl, Or.inr ⟨g, rfl, unhide HM⟩, hG⟩
set_option maxRecDepth 20000 in
set_option maxHeartbeats 1000000 in
theorem heldTb_any2 (a : Option Addr) (n cap : Nat) (w : World) (h : MarkedTb w a n) (hn : n ≤ 2097152) : Calls Try.prog 15 #[.slice a n cap, .int .i64 1] w fun e w' => e = .returned (.int .i64 (1 + 7 * (n : Int))) ∧ w' = w := by
  go_enter Try.func15, Try.ntmps15
  go_wp2
  go_loop [1, 5] (fun kv i => ∃ j : Nat, j ≤ n ∧ kv = .int .i64 (1 + 7 * (j : Int)) ∧ i = .int .i64 j) (fun _ i => n - (intOf i).toNat)
  case atStart => exact ⟨0, Nat.zero_le _, rfl, rfl⟩
  case round =>
    obtain ⟨j, hj, rfl, rfl⟩ := hrel
    by_cases hlt : j < n
    · obtain ⟨g, rfl, hM⟩ := h.resolve_left (by omega)
      obtain ⟨c0, c1, c2, c3, c4, c5, c6⟩ := (show w.cell? ⟨g, j * 7, none⟩ = some (.int .i64 (1 + 7 * (j : Int))) ∧ w.cell? ⟨g, j * 7 + 1, none⟩ = some (.int .i64 (1 + 7 * (j : Int) + 1)) ∧ w.cell? ⟨g, j * 7 + 2, none⟩ = some (.int .i64 (1 + 7 * (j : Int) + 1 + 1)) ∧ w.cell? ⟨g, j * 7 + 3, none⟩ = some (.int .i64 (1 + 7 * (j : Int) + 1 + 1 + 1)) ∧ w.cell? ⟨g, j * 7 + 4, none⟩ = some (.int .i64 (1 + 7 * (j : Int) + 1 + 1 + 1 + 1)) ∧ w.cell? ⟨g, j * 7 + 5, none⟩ = some (.int .i64 (1 + 7 * (j : Int) + 1 + 1 + 1 + 1 + 1)) ∧ w.cell? ⟨g, j * 7 + 6, none⟩ = some (.int .i64 (1 + 7 * (j : Int) + 1 + 1 + 1 + 1 + 1 + 1)) from hM j hlt)
      clear hM
      go_wp2
      go_round
      case rel => exact ⟨j + 1, by omega, by go_num, by go_num⟩
      case measure => simp [intOf]; omega
    · obtain rfl : j = n := by omega
      go_wp2
      go_ret
      exact ⟨rfl, rfl⟩

end Go.Proofs.Ytdpifgdignhebaa
