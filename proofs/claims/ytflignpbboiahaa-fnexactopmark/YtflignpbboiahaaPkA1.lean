/- Laid together: texts that were built one by one. -/
import Derived.Test.YtflignpbboiahaaRwOp
import Derived.Test.YtflignpbboiahaaRwPan
/- Proved here: rows marked from any number on, and found again. -/
namespace Go.Proofs.Ytflignpbboiahaa
open Go.ChangeShapes Go.WideShapes Go.ChangeAt Go.RowKit
set_option linter.unusedVariables false

def markKOr (K : Int) (i : Nat) : OrR := ⟨K + 13 * (i : Int), K + 13 * (i : Int) + 1, K + 13 * (i : Int) + 1 + 1, K + 13 * (i : Int) + 1 + 1 + 1, K + 13 * (i : Int) + 1 + 1 + 1 + 1, K + 13 * (i : Int) + 1 + 1 + 1 + 1 + 1, K + 13 * (i : Int) + 1 + 1 + 1 + 1 + 1 + 1, K + 13 * (i : Int) + 1 + 1 + 1 + 1 + 1 + 1 + 1, K + 13 * (i : Int) + 1 + 1 + 1 + 1 + 1 + 1 + 1 + 1, K + 13 * (i : Int) + 1 + 1 + 1 + 1 + 1 + 1 + 1 + 1 + 1, K + 13 * (i : Int) + 1 + 1 + 1 + 1 + 1 + 1 + 1 + 1 + 1 + 1, K + 13 * (i : Int) + 1 + 1 + 1 + 1 + 1 + 1 + 1 + 1 + 1 + 1 + 1, decide ((K + 13 * (i : Int) + 1 + 1 + 1 + 1 + 1 + 1 + 1 + 1 + 1 + 1 + 1 + 1) % 3 = 0)⟩

def MarkedKOr (W : World) (a : Option Addr) (n : Nat) (K : Int) : Prop := n = 0 ∨ ∃ g, a = some ⟨g, 0, none⟩ ∧ ∀ i, i < n → OrRAt W g (i * 13) (markKOr K i)

theorem MarkedKOr.below {W W' : World} {a : Option Addr} {n : Nat} {K : Int} (h : MarkedKOr W a n K) (hb : Below W.heap.size W W') : MarkedKOr W' a n K := by
  rcases h with h | ⟨g, ha, hM⟩
  · exact Or.inl h
  · exact Or.inr ⟨g, ha, fun i hi => (hM i hi).below hb (hM i hi).lt⟩

theorem markKOr_step {K : Int} {w wr : World} {g ty cap j : Nat} (hB : BlkOr wr g ty cap) (hj : j < cap) (hM : ∀ i, i < j → OrRAt wr g (i * 13) (markKOr K i)) (hG : w.grownBy wr (some g)) :
    BlkOr (setOr wr g (j * 13) (markKOr K j)) g ty cap ∧ (∀ i, i < j + 1 → OrRAt (setOr wr g (j * 13) (markKOr K j)) g (i * 13) (markKOr K i)) ∧ w.grownBy (setOr wr g (j * 13) (markKOr K j)) (some g) := by
  refine ⟨hB.sets _, fun i hi => ?_, grown_setOr hG⟩
  by_cases he : i = j
  · subst he
    exact setOr_this hB hj (markKOr K i)
  · exact setOr_ne (hM i (by omega)) he

set_option maxRecDepth 20000 in
set_option maxHeartbeats 1000000 in
theorem markKOr_any (K : Int) (h0K : 0 ≤ K) (hK : K ≤ 1125899906842624) (a : Option Addr) (n cap : Nat) (w : World) (h : WrOr w a n cap) (hn : n ≤ 1048576) : Calls Try.prog 28 #[.slice a n cap, .int .i64 K] w fun e w' => e = .returned (.int .i64 (K + 13 * (n : Int))) ∧ MarkedKOr w' a n K ∧ w.grownBy w' (rowOr a n) := by
  by_cases h0 : n = 0
  · subst h0
    go_enter Try.func28, Try.ntmps28
    go_wp2
    go_loopw [1, 5] (fun kv i wr => kv = .int .i64 K ∧ i = .int .i64 0 ∧ wr = w) (fun _ _ _ => 0)
    case atStart => exact ⟨rfl, rfl, rfl⟩
    case round =>
      obtain ⟨rfl, rfl, rfl⟩ := hrel
      go_wp2
      go_ret
      exact ⟨by simp, Or.inl rfl, grown0Or (Below.refl _ _)⟩
  · obtain ⟨g, rfl, hB, hc⟩ := h.resolve_left h0
    rw [rowOr_pos h0]
    go_enter Try.func28, Try.ntmps28
    go_wp2
    go_loopw [1, 5] (fun kv i wr => ∃ j : Nat, j ≤ n ∧ kv = .int .i64 (K + 13 * (j : Int)) ∧ i = .int .i64 j ∧ BlkOr wr g 66 cap ∧ (∀ i, i < j → OrRAt wr g (i * 13) (markKOr K i)) ∧ w.grownBy wr (some g)) (fun _ i _ => n - (intOf i).toNat)
    case atStart => exact ⟨0, Nat.zero_le _, by simp, rfl, hB, fun i hi => absurd hi (by omega), ⟨rfl, rfl, rfl, Nat.le_refl _, fun _ _ _ => rfl⟩⟩
    case round =>
      obtain ⟨j, hj, rfl, rfl, hBw, hM, hG⟩ := hrel
      have HM := hide hM
      clear hM
      by_cases hlt : j < n
      · obtain ⟨⟨u0, d0⟩, ⟨u1, d1⟩, ⟨u2, d2⟩, ⟨u3, d3⟩, ⟨u4, d4⟩, ⟨u5, d5⟩, ⟨u6, d6⟩, ⟨u7, d7⟩, ⟨u8, d8⟩, ⟨u9, d9⟩, ⟨u10, d10⟩, ⟨u11, d11⟩, ⟨u12, d12⟩⟩ := hBw.cells (k := j) (by omega)
        have f0 := hBw.frozen (i := j * 13)
        have f1 := hBw.frozen (i := j * 13 + 1)
        have f2 := hBw.frozen (i := j * 13 + 2)
        have f3 := hBw.frozen (i := j * 13 + 3)
        have f4 := hBw.frozen (i := j * 13 + 4)
        have f5 := hBw.frozen (i := j * 13 + 5)
        have f6 := hBw.frozen (i := j * 13 + 6)
        have f7 := hBw.frozen (i := j * 13 + 7)
        have f8 := hBw.frozen (i := j * 13 + 8)
        have f9 := hBw.frozen (i := j * 13 + 9)
        have f10 := hBw.frozen (i := j * 13 + 10)
        have f11 := hBw.frozen (i := j * 13 + 11)
        have f12 := hBw.frozen (i := j * 13 + 12)
        go_wp2
        go_roundw
        case rel =>
          obtain ⟨s1, s2, s3⟩ := markKOr_step hBw (by omega) (unhide HM) hG
          exact ⟨j + 1, by omega, by go_num, by go_num, s1, s2, s3⟩
        case measure => simp [intOf]; omega
      · obtain rfl : j = n := by omega
        go_wp2
        go_ret
        exact ⟨rfl, Or.inr ⟨g, rfl, unhide HM⟩, hG⟩

set_option maxRecDepth 20000 in
set_option maxHeartbeats 1000000 in
theorem heldKOr_any (K : Int) (h0K : 0 ≤ K) (hK : K ≤ 1125899906842624) (a : Option Addr) (n cap : Nat) (w : World) (h : MarkedKOr w a n K) (hn : n ≤ 1048576) : Calls Try.prog 29 #[.slice a n cap, .int .i64 K] w fun e w' => e = .returned (.int .i64 (K + 13 * (n : Int))) ∧ w' = w := by
  go_enter Try.func29, Try.ntmps29
  go_wp2
  go_loop [1, 5] (fun kv i => ∃ j : Nat, j ≤ n ∧ kv = .int .i64 (K + 13 * (j : Int)) ∧ i = .int .i64 j) (fun _ i => n - (intOf i).toNat)
  case atStart => exact ⟨0, Nat.zero_le _, by simp, rfl⟩
  case round =>
    obtain ⟨j, hj, rfl, rfl⟩ := hrel
    by_cases hlt : j < n
    · obtain ⟨g, rfl, hM⟩ := h.resolve_left (by omega)
      obtain ⟨c0, c1, c2, c3, c4, c5, c6, c7, c8, c9, c10, c11, c12⟩ := (show w.cell? ⟨g, j * 13, none⟩ = some (.int .i64 (K + 13 * (j : Int))) ∧ w.cell? ⟨g, j * 13 + 1, none⟩ = some (.int .i64 (K + 13 * (j : Int) + 1)) ∧ w.cell? ⟨g, j * 13 + 2, none⟩ = some (.int .i64 (K + 13 * (j : Int) + 1 + 1)) ∧ w.cell? ⟨g, j * 13 + 3, none⟩ = some (.int .i64 (K + 13 * (j : Int) + 1 + 1 + 1)) ∧ w.cell? ⟨g, j * 13 + 4, none⟩ = some (.int .i64 (K + 13 * (j : Int) + 1 + 1 + 1 + 1)) ∧ w.cell? ⟨g, j * 13 + 5, none⟩ = some (.int .i64 (K + 13 * (j : Int) + 1 + 1 + 1 + 1 + 1)) ∧ w.cell? ⟨g, j * 13 + 6, none⟩ = some (.int .i64 (K + 13 * (j : Int) + 1 + 1 + 1 + 1 + 1 + 1)) ∧ w.cell? ⟨g, j * 13 + 7, none⟩ = some (.int .i64 (K + 13 * (j : Int) + 1 + 1 + 1 + 1 + 1 + 1 + 1)) ∧ w.cell? ⟨g, j * 13 + 8, none⟩ = some (.int .i64 (K + 13 * (j : Int) + 1 + 1 + 1 + 1 + 1 + 1 + 1 + 1)) ∧ w.cell? ⟨g, j * 13 + 9, none⟩ = some (.int .i64 (K + 13 * (j : Int) + 1 + 1 + 1 + 1 + 1 + 1 + 1 + 1 + 1)) ∧ w.cell? ⟨g, j * 13 + 10, none⟩ = some (.int .i64 (K + 13 * (j : Int) + 1 + 1 + 1 + 1 + 1 + 1 + 1 + 1 + 1 + 1)) ∧ w.cell? ⟨g, j * 13 + 11, none⟩ = some (.int .i64 (K + 13 * (j : Int) + 1 + 1 + 1 + 1 + 1 + 1 + 1 + 1 + 1 + 1 + 1)) ∧ w.cell? ⟨g, j * 13 + 12, none⟩ = some (.bool (decide ((K + 13 * (j : Int) + 1 + 1 + 1 + 1 + 1 + 1 + 1 + 1 + 1 + 1 + 1 + 1) % 3 = 0))) from hM j hlt)
      clear hM
      by_cases h3 : (K + 13 * (j : Int) + 1 + 1 + 1 + 1 + 1 + 1 + 1 + 1 + 1 + 1 + 1 + 1) % 3 = 0
      · rw [decide_eq_true h3] at c12
        go_wp2
        go_round
        case rel => exact ⟨j + 1, by omega, by go_num, by go_num⟩
        case measure => simp [intOf]; omega
      · rw [decide_eq_false h3] at c12
        go_wp2
        go_round
        case rel => exact ⟨j + 1, by omega, by go_num, by go_num⟩
        case measure => simp [intOf]; omega
    · obtain rfl : j = n := by omega
      go_wp2
      go_ret
      exact ⟨rfl, rfl⟩

theorem MarkedKOr.keep {W W' : World} {a : Option Addr} {n : Nat} {K : Int} (h : MarkedKOr W a n K) (hb : ∀ g o, 0 < n → a = some ⟨g, o, none⟩ → W'.heap[g]? = W.heap[g]?) : MarkedKOr W' a n K := by
  rcases h with h | ⟨g, ha, hM⟩
  · exact Or.inl h
  · refine Or.inr ⟨g, ha, fun i hi => ?_⟩
    have hbk := hb g 0 (by omega) ha
    obtain ⟨h0, h1, h2, h3, h4, h5, h6, h7, h8, h9, h10, h11, h12⟩ := hM i hi
    exact ⟨(World.cell?_of_block (w := W) hbk).trans h0, (World.cell?_of_block (w := W) hbk).trans h1, (World.cell?_of_block (w := W) hbk).trans h2, (World.cell?_of_block (w := W) hbk).trans h3, (World.cell?_of_block (w := W) hbk).trans h4, (World.cell?_of_block (w := W) hbk).trans h5, (World.cell?_of_block (w := W) hbk).trans h6, (World.cell?_of_block (w := W) hbk).trans h7, (World.cell?_of_block (w := W) hbk).trans h8, (World.cell?_of_block (w := W) hbk).trans h9, (World.cell?_of_block (w := W) hbk).trans h10, (World.cell?_of_block (w := W) hbk).trans h11, (World.cell?_of_block (w := W) hbk).trans h12⟩
end Go.Proofs.Ytflignpbboiahaa
/- Proved here: rows marked from any number on, and found again. -/
namespace Go.Proofs.Ytflignpbboiahaa
open Go.ChangeShapes Go.WideShapes Go.ChangeAt Go.RowKit
set_option linter.unusedVariables false

def markKPn (K : Int) (i : Nat) : PnR := ⟨K + 9 * (i : Int), K + 9 * (i : Int) + 1, K + 9 * (i : Int) + 1 + 1, K + 9 * (i : Int) + 1 + 1 + 1, K + 9 * (i : Int) + 1 + 1 + 1 + 1, K + 9 * (i : Int) + 1 + 1 + 1 + 1 + 1, K + 9 * (i : Int) + 1 + 1 + 1 + 1 + 1 + 1, K + 9 * (i : Int) + 1 + 1 + 1 + 1 + 1 + 1 + 1, K + 9 * (i : Int) + 1 + 1 + 1 + 1 + 1 + 1 + 1 + 1⟩

def MarkedKPn (W : World) (a : Option Addr) (n : Nat) (K : Int) : Prop := n = 0 ∨ ∃ g, a = some ⟨g, 0, none⟩ ∧ ∀ i, i < n → PnRAt W g (i * 9) (markKPn K i)

theorem MarkedKPn.below {W W' : World} {a : Option Addr} {n : Nat} {K : Int} (h : MarkedKPn W a n K) (hb : Below W.heap.size W W') : MarkedKPn W' a n K := by
  rcases h with h | ⟨g, ha, hM⟩
  · exact Or.inl h
  · exact Or.inr ⟨g, ha, fun i hi => (hM i hi).below hb (hM i hi).lt⟩

theorem markKPn_step {K : Int} {w wr : World} {g ty cap j : Nat} (hB : BlkPn wr g ty cap) (hj : j < cap) (hM : ∀ i, i < j → PnRAt wr g (i * 9) (markKPn K i)) (hG : w.grownBy wr (some g)) :
    BlkPn (setPn wr g (j * 9) (markKPn K j)) g ty cap ∧ (∀ i, i < j + 1 → PnRAt (setPn wr g (j * 9) (markKPn K j)) g (i * 9) (markKPn K i)) ∧ w.grownBy (setPn wr g (j * 9) (markKPn K j)) (some g) := by
  refine ⟨hB.sets _, fun i hi => ?_, grown_setPn hG⟩
  by_cases he : i = j
  · subst he
    exact setPn_this hB hj (markKPn K i)
  · exact setPn_ne (hM i (by omega)) he

set_option maxRecDepth 20000 in
set_option maxHeartbeats 1000000 in
theorem markKPn_any (K : Int) (h0K : 0 ≤ K) (hK : K ≤ 17592186044416) (a : Option Addr) (n cap : Nat) (w : World) (h : WrPn w a n cap) (hn : n ≤ 1048576) : Calls Try.prog 12 #[.slice a n cap, .int .i64 K] w fun e w' => e = .returned (.int .i64 (K + 9 * (n : Int))) ∧ MarkedKPn w' a n K ∧ w.grownBy w' (rowPn a n) := by
  by_cases h0 : n = 0
  · subst h0
    go_enter Try.func12, Try.ntmps12
    go_wp2
    go_loopw [1, 5] (fun kv i wr => kv = .int .i64 K ∧ i = .int .i64 0 ∧ wr = w) (fun _ _ _ => 0)
    case atStart => exact ⟨rfl, rfl, rfl⟩
    case round =>
      obtain ⟨rfl, rfl, rfl⟩ := hrel
      go_wp2
      go_ret
      exact ⟨by simp, Or.inl rfl, grown0Pn (Below.refl _ _)⟩
  · obtain ⟨g, rfl, hB, hc⟩ := h.resolve_left h0
    rw [rowPn_pos h0]
    go_enter Try.func12, Try.ntmps12
    go_wp2
    go_loopw [1, 5] (fun kv i wr => ∃ j : Nat, j ≤ n ∧ kv = .int .i64 (K + 9 * (j : Int)) ∧ i = .int .i64 j ∧ BlkPn wr g 62 cap ∧ (∀ i, i < j → PnRAt wr g (i * 9) (markKPn K i)) ∧ w.grownBy wr (some g)) (fun _ i _ => n - (intOf i).toNat)
    case atStart => exact ⟨0, Nat.zero_le _, by simp, rfl, hB, fun i hi => absurd hi (by omega), ⟨rfl, rfl, rfl, Nat.le_refl _, fun _ _ _ => rfl⟩⟩
    case round =>
      obtain ⟨j, hj, rfl, rfl, hBw, hM, hG⟩ := hrel
      have HM := hide hM
      clear hM
      by_cases hlt : j < n
      · obtain ⟨⟨u0, d0⟩, ⟨u1, d1⟩, ⟨u2, d2⟩, ⟨u3, d3⟩, ⟨u4, d4⟩, ⟨u5, d5⟩, ⟨u6, d6⟩, ⟨u7, d7⟩, ⟨u8, d8⟩⟩ := hBw.cells (k := j) (by omega)
        have f0 := hBw.frozen (i := j * 9)
        have f1 := hBw.frozen (i := j * 9 + 1)
        have f2 := hBw.frozen (i := j * 9 + 2)
        have f3 := hBw.frozen (i := j * 9 + 3)
        have f4 := hBw.frozen (i := j * 9 + 4)
        have f5 := hBw.frozen (i := j * 9 + 5)
        have f6 := hBw.frozen (i := j * 9 + 6)
        have f7 := hBw.frozen (i := j * 9 + 7)
        have f8 := hBw.frozen (i := j * 9 + 8)
        go_wp2
        go_roundw
        case rel =>
          obtain ⟨s1, s2, s3⟩ := markKPn_step hBw (by omega) (unhide HM) hG
          exact ⟨j + 1, by omega, by go_num, by go_num, s1, s2, s3⟩
        case measure => simp [intOf]; omega
      · obtain rfl : j = n := by omega
        go_wp2
        go_ret
        exact ⟨rfl, Or.inr ⟨g, rfl, unhide HM⟩, hG⟩

set_option maxRecDepth 20000 in
set_option maxHeartbeats 1000000 in
theorem heldKPn_any (K : Int) (h0K : 0 ≤ K) (hK : K ≤ 17592186044416) (a : Option Addr) (n cap : Nat) (w : World) (h : MarkedKPn w a n K) (hn : n ≤ 1048576) : Calls Try.prog 14 #[.slice a n cap, .int .i64 K] w fun e w' => e = .returned (.int .i64 (K + 9 * (n : Int))) ∧ w' = w := by
  go_enter Try.func14, Try.ntmps14
  go_wp2
  go_loop [1, 5] (fun kv i => ∃ j : Nat, j ≤ n ∧ kv = .int .i64 (K + 9 * (j : Int)) ∧ i = .int .i64 j) (fun _ i => n - (intOf i).toNat)
  case atStart => exact ⟨0, Nat.zero_le _, by simp, rfl⟩
  case round =>
    obtain ⟨j, hj, rfl, rfl⟩ := hrel
    by_cases hlt : j < n
    · obtain ⟨g, rfl, hM⟩ := h.resolve_left (by omega)
      obtain ⟨c0, c1, c2, c3, c4, c5, c6, c7, c8⟩ := (show w.cell? ⟨g, j * 9, none⟩ = some (.int .i64 (K + 9 * (j : Int))) ∧ w.cell? ⟨g, j * 9 + 1, none⟩ = some (.int .i64 (K + 9 * (j : Int) + 1)) ∧ w.cell? ⟨g, j * 9 + 2, none⟩ = some (.int .i64 (K + 9 * (j : Int) + 1 + 1)) ∧ w.cell? ⟨g, j * 9 + 3, none⟩ = some (.int .i64 (K + 9 * (j : Int) + 1 + 1 + 1)) ∧ w.cell? ⟨g, j * 9 + 4, none⟩ = some (.int .i64 (K + 9 * (j : Int) + 1 + 1 + 1 + 1)) ∧ w.cell? ⟨g, j * 9 + 5, none⟩ = some (.int .i64 (K + 9 * (j : Int) + 1 + 1 + 1 + 1 + 1)) ∧ w.cell? ⟨g, j * 9 + 6, none⟩ = some (.int .i64 (K + 9 * (j : Int) + 1 + 1 + 1 + 1 + 1 + 1)) ∧ w.cell? ⟨g, j * 9 + 7, none⟩ = some (.int .i64 (K + 9 * (j : Int) + 1 + 1 + 1 + 1 + 1 + 1 + 1)) ∧ w.cell? ⟨g, j * 9 + 8, none⟩ = some (.int .i64 (K + 9 * (j : Int) + 1 + 1 + 1 + 1 + 1 + 1 + 1 + 1)) from hM j hlt)
      clear hM
      go_wp2
      go_round
      case rel => exact ⟨j + 1, by omega, by go_num, by go_num⟩
      case measure => simp [intOf]; omega
    · obtain rfl : j = n := by omega
      go_wp2
      go_ret
      exact ⟨rfl, rfl⟩

theorem MarkedKPn.keep {W W' : World} {a : Option Addr} {n : Nat} {K : Int} (h : MarkedKPn W a n K) (hb : ∀ g o, 0 < n → a = some ⟨g, o, none⟩ → W'.heap[g]? = W.heap[g]?) : MarkedKPn W' a n K := by
  rcases h with h | ⟨g, ha, hM⟩
  · exact Or.inl h
  · refine Or.inr ⟨g, ha, fun i hi => ?_⟩
    have hbk := hb g 0 (by omega) ha
    obtain ⟨h0, h1, h2, h3, h4, h5, h6, h7, h8⟩ := hM i hi
    exact ⟨(World.cell?_of_block (w := W) hbk).trans h0, (World.cell?_of_block (w := W) hbk).trans h1, (World.cell?_of_block (w := W) hbk).trans h2, (World.cell?_of_block (w := W) hbk).trans h3, (World.cell?_of_block (w := W) hbk).trans h4, (World.cell?_of_block (w := W) hbk).trans h5, (World.cell?_of_block (w := W) hbk).trans h6, (World.cell?_of_block (w := W) hbk).trans h7, (World.cell?_of_block (w := W) hbk).trans h8⟩
end Go.Proofs.Ytflignpbboiahaa
