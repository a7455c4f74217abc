/- Proved here: rows marked from any number on, and found again. -/
import Derived.Test.YtcokdcehjibanaaDoorRwItm
namespace Go.Proofs.YtcokdcehjibanaaDoor
open Go.ChangeShapes Go.WideShapes Go.ChangeAt Go.RowKit
set_option linter.unusedVariables false

def markKIw (K : Int) (i : Nat) : IwR := ⟨K + 5 * (i : Int), K + 5 * (i : Int) + 1, K + 5 * (i : Int) + 1 + 1, K + 5 * (i : Int) + 1 + 1 + 1, K + 5 * (i : Int) + 1 + 1 + 1 + 1⟩

def MarkedKIw (W : World) (a : Option Addr) (n : Nat) (K : Int) : Prop := n = 0 ∨ ∃ g, a = some ⟨g, 0, none⟩ ∧ ∀ i, i < n → IwRAt W g (i * 5) (markKIw K i)

theorem MarkedKIw.below {W W' : World} {a : Option Addr} {n : Nat} {K : Int} (h : MarkedKIw W a n K) (hb : Below W.heap.size W W') : MarkedKIw W' a n K := by
  rcases h with h | ⟨g, ha, hM⟩
  · exact Or.inl h
  · exact Or.inr ⟨g, ha, fun i hi => (hM i hi).below hb (hM i hi).lt⟩

theorem markKIw_step {K : Int} {w wr : World} {g ty cap j : Nat} (hB : BlkIw wr g ty cap) (hj : j < cap) (hM : ∀ i, i < j → IwRAt wr g (i * 5) (markKIw K i)) (hG : w.grownBy wr (some g)) :
    BlkIw (setIw wr g (j * 5) (markKIw K j)) g ty cap ∧ (∀ i, i < j + 1 → IwRAt (setIw wr g (j * 5) (markKIw K j)) g (i * 5) (markKIw K i)) ∧ w.grownBy (setIw wr g (j * 5) (markKIw K j)) (some g) := by
  refine ⟨hB.sets _, fun i hi => ?_, grown_setIw hG⟩
  by_cases he : i = j
  · subst he
    exact setIw_this hB hj (markKIw K i)
  · exact setIw_ne (hM i (by omega)) he

set_option maxRecDepth 20000 in
set_option maxHeartbeats 1000000 in
theorem markKIw_any (K : Int) (h0K : 0 ≤ K) (hK : K ≤ 17592186044416) (a : Option Addr) (n cap : Nat) (w : World) (h : WrIw w a n cap) (hn : n ≤ 1048576) : Calls Tryd.prog 20 #[.slice a n cap, .int .i64 K] w fun e w' => e = .returned (.int .i64 (K + 5 * (n : Int))) ∧ MarkedKIw w' a n K ∧ w.grownBy w' (rowIw a n) := by
  by_cases h0 : n = 0
  · subst h0
    go_enter Tryd.func20, Tryd.ntmps20
    go_wp2
    go_loopw [1, 5] (fun kv i wr => kv = .int .i64 K ∧ i = .int .i64 0 ∧ wr = w) (fun _ _ _ => 0)
    case atStart => exact ⟨rfl, rfl, rfl⟩
    case round =>
      obtain ⟨rfl, rfl, rfl⟩ := hrel
      go_wp2
      go_ret
      exact ⟨by simp, Or.inl rfl, grown0Iw (Below.refl _ _)⟩
  · obtain ⟨g, rfl, hB, hc⟩ := h.resolve_left h0
    rw [rowIw_pos h0]
    go_enter Tryd.func20, Tryd.ntmps20
    go_wp2
    go_loopw [1, 5] (fun kv i wr => ∃ j : Nat, j ≤ n ∧ kv = .int .i64 (K + 5 * (j : Int)) ∧ i = .int .i64 j ∧ BlkIw wr g 34 cap ∧ (∀ i, i < j → IwRAt wr g (i * 5) (markKIw K i)) ∧ w.grownBy wr (some g)) (fun _ i _ => n - (intOf i).toNat)
    case atStart => exact ⟨0, Nat.zero_le _, by simp, rfl, hB, fun i hi => absurd hi (by omega), ⟨rfl, rfl, rfl, Nat.le_refl _, fun _ _ _ => rfl⟩⟩
    case round =>
      obtain ⟨j, hj, rfl, rfl, hBw, hM, hG⟩ := hrel
      have HM := hide hM
      clear hM
      by_cases hlt : j < n
      · obtain ⟨⟨u0, d0⟩, ⟨u1, d1⟩, ⟨u2, d2⟩, ⟨u3, d3⟩, ⟨u4, d4⟩⟩ := hBw.cells (k := j) (by omega)
        have f0 := hBw.frozen (i := j * 5)
        have f1 := hBw.frozen (i := j * 5 + 1)
        have f2 := hBw.frozen (i := j * 5 + 2)
        have f3 := hBw.frozen (i := j * 5 + 3)
        have f4 := hBw.frozen (i := j * 5 + 4)
        go_wp2
        go_roundw
        case rel =>
          obtain ⟨s1, s2, s3⟩ := markKIw_step hBw (by omega) (unhide HM) hG
          exact ⟨j + 1, by omega, by go_num, by go_num, s1, s2, s3⟩
        case measure => simp [intOf]; omega
      · obtain rfl : j = n := by omega
        go_wp2
        go_ret
        exact ⟨rfl, Or.inr ⟨g, rfl, unhide HM⟩, hG⟩

set_option maxRecDepth 20000 in
set_option maxHeartbeats 1000000 in
theorem heldKIw_any (K : Int) (h0K : 0 ≤ K) (hK : K ≤ 17592186044416) (a : Option Addr) (n cap : Nat) (w : World) (h : MarkedKIw w a n K) (hn : n ≤ 1048576) : Calls Tryd.prog 21 #[.slice a n cap, .int .i64 K] w fun e w' => e = .returned (.int .i64 (K + 5 * (n : Int))) ∧ w' = w := by
  go_enter Tryd.func21, Tryd.ntmps21
  go_wp2
  go_loop [1, 5] (fun kv i => ∃ j : Nat, j ≤ n ∧ kv = .int .i64 (K + 5 * (j : Int)) ∧ i = .int .i64 j) (fun _ i => n - (intOf i).toNat)
  case atStart => exact ⟨0, Nat.zero_le _, by simp, rfl⟩
  case round =>
    obtain ⟨j, hj, rfl, rfl⟩ := hrel
    by_cases hlt : j < n
    · obtain ⟨g, rfl, hM⟩ := h.resolve_left (by omega)
      obtain ⟨c0, c1, c2, c3, c4⟩ := (show w.cell? ⟨g, j * 5, none⟩ = some (.int .i64 (K + 5 * (j : Int))) ∧ w.cell? ⟨g, j * 5 + 1, none⟩ = some (.int .i64 (K + 5 * (j : Int) + 1)) ∧ w.cell? ⟨g, j * 5 + 2, none⟩ = some (.int .i64 (K + 5 * (j : Int) + 1 + 1)) ∧ w.cell? ⟨g, j * 5 + 3, none⟩ = some (.int .i64 (K + 5 * (j : Int) + 1 + 1 + 1)) ∧ w.cell? ⟨g, j * 5 + 4, none⟩ = some (.int .i64 (K + 5 * (j : Int) + 1 + 1 + 1 + 1)) from hM j hlt)
      clear hM
      go_wp2
      go_round
      case rel => exact ⟨j + 1, by omega, by go_num, by go_num⟩
      case measure => simp [intOf]; omega
    · obtain rfl : j = n := by omega
      go_wp2
      go_ret
      exact ⟨rfl, rfl⟩

theorem MarkedKIw.keep {W W' : World} {a : Option Addr} {n : Nat} {K : Int} (h : MarkedKIw W a n K) (hb : ∀ g o, 0 < n → a = some ⟨g, o, none⟩ → W'.heap[g]? = W.heap[g]?) : MarkedKIw W' a n K := by
  rcases h with h | ⟨g, ha, hM⟩
  · exact Or.inl h
  · refine Or.inr ⟨g, ha, fun i hi => ?_⟩
    have hbk := hb g 0 (by omega) ha
    obtain ⟨h0, h1, h2, h3, h4⟩ := hM i hi
    exact ⟨(World.cell?_of_block (w := W) hbk).trans h0, (World.cell?_of_block (w := W) hbk).trans h1, (World.cell?_of_block (w := W) hbk).trans h2, (World.cell?_of_block (w := W) hbk).trans h3, (World.cell?_of_block (w := W) hbk).trans h4⟩
end Go.Proofs.YtcokdcehjibanaaDoor
