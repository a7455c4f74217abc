/- Laid together: what the claim needs of the texts that were built one by one. -/
import Derived.Test.YtbjhpiannjepkaaGreatPsKeptM
import Derived.OwnWalk
import Derived.Test.YtbjhpiannjepkaaGreatPsBase
namespace Go.Proofs.YtbjhpiannjepkaaGreat
open Go.ChangeShapes Go.WideShapes Go.ChangeAt Go.RowKit Go.Deep
set_option linter.unusedVariables false

/-- A block of one-cell elements, known whole. -/
def BlkC (W : World) (g ty cap : Nat) : Prop := ∃ cur, W.heap[g]? = some (.cells cur ty (0, 0)) ∧ cur.size = cap

theorem BlkC.set {W : World} {g ty cap i : Nat} (h : BlkC W g ty cap) (v : Value) : BlkC (W.setCell ⟨g, i, none⟩ v) g ty cap := by
  obtain ⟨cur, h1, h2⟩ := h
  exact ⟨_, Joins.block_setCell h1 v, by simp [h2]⟩

theorem BlkC.lt {W : World} {g ty cap : Nat} (h : BlkC W g ty cap) : g < W.heap.size := by
  obtain ⟨cur, h1, h2⟩ := h
  exact (Array.getElem?_eq_some_iff.1 h1).1

theorem BlkC.keep {W W' : World} {g ty cap : Nat} (h : BlkC W g ty cap) (hb : W'.heap[g]? = W.heap[g]?) : BlkC W' g ty cap := by
  obtain ⟨cur, h1, h2⟩ := h
  exact ⟨cur, hb.trans h1, h2⟩

theorem BlkC.cell {W : World} {g ty cap i : Nat} (h : BlkC W g ty cap) (hi : i < cap) : ∃ u, W.cell? ⟨g, i, none⟩ = some u := by
  obtain ⟨cur, h1, h2⟩ := h
  exact ⟨_, (Joins.cell_of_block h1 i).trans (Array.getElem?_eq_getElem (by omega))⟩

theorem BlkC.frozen {W : World} {g ty cap i : Nat} (h : BlkC W g ty cap) : W.frozen? ⟨g, i, none⟩ = false := by
  obtain ⟨cur, h1, h2⟩ := h
  exact Joins.unfrozen_of_block h1 i

theorem BlkC.this {W : World} {g ty cap i : Nat} {v : Value} (h : BlkC W g ty cap) (hi : i < cap) : (W.setCell ⟨g, i, none⟩ v).cell? ⟨g, i, none⟩ = some v := by
  obtain ⟨u, hu⟩ := h.cell hi
  exact World.cell?_setCell_same _ _ _ hu

/-- Such a slice may be written; its block. -/
def WrC (W : World) (ty : Nat) (a : Option Addr) (n cap : Nat) : Prop := n = 0 ∨ ∃ g, a = some ⟨g, 0, none⟩ ∧ BlkC W g ty cap ∧ n ≤ cap

def rowC (a : Option Addr) (n : Nat) : Option Nat := if n = 0 then none else a.map (·.block)

theorem rowC_pos {n : Nat} (h : n ≠ 0) (g o : Nat) : rowC (some ⟨g, o, none⟩) n = some g := by unfold rowC; rw [if_neg h]; rfl

theorem WrC.keep {W W' : World} {ty : Nat} {a : Option Addr} {n cap : Nat} (h : WrC W ty a n cap) (hb : ∀ b, rowC a n = some b → W'.heap[b]? = W.heap[b]?) : WrC W' ty a n cap := by
  by_cases h0 : n = 0
  · exact Or.inl h0
  · obtain ⟨g, ha, hB, hc⟩ := h.resolve_left h0
    subst ha
    exact Or.inr ⟨g, rfl, hB.keep (hb g (rowC_pos h0 g 0)), hc⟩

theorem WrC.lt {W : World} {ty : Nat} {a : Option Addr} {n cap : Nat} (h : WrC W ty a n cap) : ∀ b, rowC a n = some b → b < W.heap.size := by
  intro b hb
  by_cases h0 : n = 0
  · simp [rowC, h0] at hb
  · obtain ⟨g, ha, hB, hc⟩ := h.resolve_left h0
    subst ha
    rw [rowC_pos h0] at hb
    cases hb
    exact hB.lt

theorem WrC.below {W W' : World} {ty : Nat} {a : Option Addr} {n cap : Nat} (h : WrC W ty a n cap) (hb : Below W.heap.size W W') : WrC W' ty a n cap := h.keep (fun b hr => hb.block b (h.lt b hr))

/-- Marked from a number on. -/
def MkIn (W : World) (a : Option Addr) (n : Nat) (K : Int) : Prop := n = 0 ∨ ∃ g, a = some ⟨g, 0, none⟩ ∧ ∀ i : Nat, i < n → W.cell? ⟨g, i, none⟩ = some (.int .i64 (K + (i : Int)))

theorem MkIn.keep {W W' : World} {a : Option Addr} {n : Nat} {K : Int} (h : MkIn W a n K) (hb : ∀ b, rowC a n = some b → W'.heap[b]? = W.heap[b]?) : MkIn W' a n K := by
  by_cases h0 : n = 0
  · exact Or.inl h0
  · obtain ⟨g, ha, hM⟩ := h.resolve_left h0
    subst ha
    have e := hb g (rowC_pos h0 g 0)
    exact Or.inr ⟨g, rfl, fun i hi => (World.cell?_of_block (a := ⟨g, i, none⟩) e).trans (hM i hi)⟩

set_option maxRecDepth 20000 in
set_option maxHeartbeats 1000000 in
theorem markIn_c (K : Int) (h0K : 0 ≤ K) (hK : K ≤ 1125899906842624) (a : Option Addr) (n cap : Nat) (w : World) (h : WrC w 3 a n cap) (hn : n ≤ 1048576) : Calls Tryz.prog 36 #[.slice a n cap, .int .i64 K] w fun e w' => e = .returned (.int .i64 (K + (n : Int))) ∧ MkIn w' a n K ∧ WrC w' 3 a n cap ∧ Kept (fun b => rowC a n = some b) w w' := by
  by_cases h0 : n = 0
  · subst h0
    go_enter Tryz.func36, Tryz.ntmps36
    go_wp2
    go_loopw [1, 5] (fun kv i wr => kv = .int .i64 K ∧ i = .int .i64 0 ∧ wr = w) (fun _ _ _ => 0)
    case atStart => exact ⟨rfl, rfl, rfl⟩
    case round =>
      obtain ⟨rfl, rfl, hwr⟩ := hrel
      obtain rfl := hwr.symm
      go_wp2
      go_ret
      exact ⟨by simp, Or.inl rfl, Or.inl rfl, Kept.refl _ _⟩
  · obtain ⟨g, ha, hB, hc⟩ := h.resolve_left h0
    subst ha
    rw [rowC_pos h0]
    go_enter Tryz.func36, Tryz.ntmps36
    go_wp2
    go_loopw [1, 5] (fun kv i wr => ∃ k : Nat, k ≤ n ∧ i = .int .i64 k ∧ kv = .int .i64 (K + (k : Int)) ∧ BlkC wr g 3 cap ∧ (∀ i : Nat, i < k → wr.cell? ⟨g, i, none⟩ = some (.int .i64 (K + (i : Int)))) ∧ Kept (fun b => some g = some b) w wr) (fun _ i _ => n - (intOf i).toNat)
    case atStart => exact ⟨0, Nat.zero_le _, rfl, by simp, hB, fun i hi => absurd hi (by omega), Kept.refl _ _⟩
    case round =>
      obtain ⟨k, hk, rfl, rfl, hBr, hM, hkp⟩ := hrel
      by_cases hlt : k < n
      · obtain ⟨u, d0⟩ := hBr.cell (i := k) (by omega)
        have f0 := hBr.frozen (i := k)
        have hz := hBr.lt
        have HB := hide hBr
        have HM := hide hM
        have hltI : (k : Int) < (n : Int) := by omega
        clear hM hB
        go_wp2
        go_roundw
        case rel =>
          refine ⟨k + 1, by omega, by go_num, by go_num, (unhide HB).set _, fun i hi => ?_, Kept.set hkp rfl _⟩
          by_cases he : i = k
          · subst he
            exact (unhide HB).this (by omega)
          · rw [Ti_other (by omega)]
            exact unhide HM i (by omega)
        case measure => simp [intOf]; omega
      · obtain rfl : k = n := by omega
        go_wp2
        go_ret
        exact ⟨rfl, Or.inr ⟨g, rfl, hM⟩, Or.inr ⟨g, rfl, hBr, hc⟩, hkp⟩

set_option maxRecDepth 20000 in
set_option maxHeartbeats 1000000 in
theorem heldIn_c (K : Int) (h0K : 0 ≤ K) (hK : K ≤ 1125899906842624) (a : Option Addr) (n cap : Nat) (w : World) (h : MkIn w a n K) (hn : n ≤ 1048576) : Calls Tryz.prog 40 #[.slice a n cap, .int .i64 K] w fun e w' => e = .returned (.int .i64 (K + (n : Int))) ∧ w' = w := by
  go_enter Tryz.func40, Tryz.ntmps40
  go_wp2
  go_loopw [1, 5] (fun kv i wr => ∃ k : Nat, k ≤ n ∧ i = .int .i64 k ∧ kv = .int .i64 (K + (k : Int)) ∧ wr = w) (fun _ i _ => n - (intOf i).toNat)
  case atStart => exact ⟨0, Nat.zero_le _, rfl, by simp, rfl⟩
  case round =>
    obtain ⟨k, hk, rfl, rfl, hwr⟩ := hrel
    obtain rfl := hwr.symm
    by_cases hlt : k < n
    · obtain ⟨g, ha, hM⟩ := h.resolve_left (by omega)
      subst ha
      have d0 := hM k hlt
      have hltI : (k : Int) < (n : Int) := by omega
      clear hM
      go_wp2
      go_roundw
      case rel => exact ⟨k + 1, by omega, by go_num, by go_num, by first | rfl | trivial⟩
      case measure => simp [intOf]; omega
    · obtain rfl : k = n := by omega
      go_wp2
      go_ret
      exact ⟨rfl, rfl⟩

/-- Marked from a number on. -/
def MkBo (W : World) (a : Option Addr) (n : Nat) (K : Int) : Prop := n = 0 ∨ ∃ g, a = some ⟨g, 0, none⟩ ∧ ∀ i : Nat, i < n → W.cell? ⟨g, i, none⟩ = some (.bool ((K + (i : Int)) % 3 == 0))

theorem MkBo.keep {W W' : World} {a : Option Addr} {n : Nat} {K : Int} (h : MkBo W a n K) (hb : ∀ b, rowC a n = some b → W'.heap[b]? = W.heap[b]?) : MkBo W' a n K := by
  by_cases h0 : n = 0
  · exact Or.inl h0
  · obtain ⟨g, ha, hM⟩ := h.resolve_left h0
    subst ha
    have e := hb g (rowC_pos h0 g 0)
    exact Or.inr ⟨g, rfl, fun i hi => (World.cell?_of_block (a := ⟨g, i, none⟩) e).trans (hM i hi)⟩

set_option maxRecDepth 20000 in
set_option maxHeartbeats 1000000 in
theorem markBo_c (K : Int) (h0K : 0 ≤ K) (hK : K ≤ 1125899906842624) (a : Option Addr) (n cap : Nat) (w : World) (h : WrC w 4 a n cap) (hn : n ≤ 1048576) : Calls Tryz.prog 37 #[.slice a n cap, .int .i64 K] w fun e w' => e = .returned (.int .i64 (K + (n : Int))) ∧ MkBo w' a n K ∧ WrC w' 4 a n cap ∧ Kept (fun b => rowC a n = some b) w w' := by
  by_cases h0 : n = 0
  · subst h0
    go_enter Tryz.func37, Tryz.ntmps37
    go_wp2
    go_loopw [1, 5] (fun kv i wr => kv = .int .i64 K ∧ i = .int .i64 0 ∧ wr = w) (fun _ _ _ => 0)
    case atStart => exact ⟨rfl, rfl, rfl⟩
    case round =>
      obtain ⟨rfl, rfl, hwr⟩ := hrel
      obtain rfl := hwr.symm
      go_wp2
      go_ret
      exact ⟨by simp, Or.inl rfl, Or.inl rfl, Kept.refl _ _⟩
  · obtain ⟨g, ha, hB, hc⟩ := h.resolve_left h0
    subst ha
    rw [rowC_pos h0]
    go_enter Tryz.func37, Tryz.ntmps37
    go_wp2
    go_loopw [1, 5] (fun kv i wr => ∃ k : Nat, k ≤ n ∧ i = .int .i64 k ∧ kv = .int .i64 (K + (k : Int)) ∧ BlkC wr g 4 cap ∧ (∀ i : Nat, i < k → wr.cell? ⟨g, i, none⟩ = some (.bool ((K + (i : Int)) % 3 == 0))) ∧ Kept (fun b => some g = some b) w wr) (fun _ i _ => n - (intOf i).toNat)
    case atStart => exact ⟨0, Nat.zero_le _, rfl, by simp, hB, fun i hi => absurd hi (by omega), Kept.refl _ _⟩
    case round =>
      obtain ⟨k, hk, rfl, rfl, hBr, hM, hkp⟩ := hrel
      by_cases hlt : k < n
      · obtain ⟨u, d0⟩ := hBr.cell (i := k) (by omega)
        have f0 := hBr.frozen (i := k)
        have hz := hBr.lt
        have HB := hide hBr
        have HM := hide hM
        have hltI : (k : Int) < (n : Int) := by omega
        clear hM hB
        go_wp2
        go_roundw
        case rel =>
          refine ⟨k + 1, by omega, by go_num, by go_num, (unhide HB).set _, fun i hi => ?_, Kept.set hkp rfl _⟩
          by_cases he : i = k
          · subst he
            exact (unhide HB).this (by omega)
          · rw [Ti_other (by omega)]
            exact unhide HM i (by omega)
        case measure => simp [intOf]; omega
      · obtain rfl : k = n := by omega
        go_wp2
        go_ret
        exact ⟨rfl, Or.inr ⟨g, rfl, hM⟩, Or.inr ⟨g, rfl, hBr, hc⟩, hkp⟩

set_option maxRecDepth 20000 in
set_option maxHeartbeats 1000000 in
theorem heldBo_c (K : Int) (h0K : 0 ≤ K) (hK : K ≤ 1125899906842624) (a : Option Addr) (n cap : Nat) (w : World) (h : MkBo w a n K) (hn : n ≤ 1048576) : Calls Tryz.prog 41 #[.slice a n cap, .int .i64 K] w fun e w' => e = .returned (.int .i64 (K + (n : Int))) ∧ w' = w := by
  go_enter Tryz.func41, Tryz.ntmps41
  go_wp2
  go_loopw [1, 5] (fun kv i wr => ∃ k : Nat, k ≤ n ∧ i = .int .i64 k ∧ kv = .int .i64 (K + (k : Int)) ∧ wr = w) (fun _ i _ => n - (intOf i).toNat)
  case atStart => exact ⟨0, Nat.zero_le _, rfl, by simp, rfl⟩
  case round =>
    obtain ⟨k, hk, rfl, rfl, hwr⟩ := hrel
    obtain rfl := hwr.symm
    by_cases hlt : k < n
    · obtain ⟨g, ha, hM⟩ := h.resolve_left (by omega)
      subst ha
      have d0 := hM k hlt
      have hltI : (k : Int) < (n : Int) := by omega
      clear hM
      go_wp2
      go_roundw
      case rel => exact ⟨k + 1, by omega, by go_num, by go_num, by first | rfl | trivial⟩
      case measure => simp [intOf]; omega
    · obtain rfl : k = n := by omega
      go_wp2
      go_ret
      exact ⟨rfl, rfl⟩
end Go.Proofs.YtbjhpiannjepkaaGreat
