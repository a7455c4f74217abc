/- Proved here: marking a slice's items writes its own block alone, and what was marked is found again. -/
import Derived.Test.YtbbgiklhkhlnaaaLog
namespace Go.Proofs.Ytbbgiklhkhlnaaa
open Go.ChangeShapes Go.WideShapes Go.ChangeAt Go.RowKit
set_option linter.unusedVariables false

/-- The block that a slice's items lie in, if there are any. -/
def rowOf (a : Option Addr) (n : Nat) : Option Nat := if n = 0 then none else a.map (·.block)
theorem rowOf_zero (a : Option Addr) : rowOf a 0 = none := rfl
theorem rowOf_pos {n : Nat} (h : n ≠ 0) (g o : Nat) : rowOf (some ⟨g, o, none⟩) n = some g := by unfold rowOf; rw [if_neg h]; rfl
/-- The i-th mark. -/
def markIt (i : Nat) : It := ⟨1 + 5 * (i : Int), 1 + 5 * (i : Int) + 1, 1 + 5 * (i : Int) + 1 + 1, 1 + 5 * (i : Int) + 1 + 1 + 1, 1 + 5 * (i : Int) + 1 + 1 + 1 + 1⟩
/-- A slice whose items may be written. -/
def Wr (W : World) (a : Option Addr) (n cap : Nat) : Prop := n = 0 ∨ ∃ g, a = some ⟨g, 0, none⟩ ∧ Blk W g 25 cap ∧ n ≤ cap
/-- A slice whose items have been marked. -/
def Marked (W : World) (a : Option Addr) (n : Nat) : Prop := n = 0 ∨ ∃ g, a = some ⟨g, 0, none⟩ ∧ ∀ i, i < n → ItAt W g (i * 5) (markIt i)

theorem bel_grown0 {W W' : World} (h : Below W.heap.size W W') : W.grownBy W' none := ⟨h.os, h.tape, h.output, h.size, fun k hk _ => h.block k hk⟩
theorem grown_set5 {W W' : World} {g o : Nat} {x : It} (h : W.grownBy W' (some g)) : W.grownBy (set5 W' g o x) (some g) := by
  have hs : ∀ (X : World) (i : Nat) (v : Value), W.grownBy X (some g) → W.grownBy (X.setCell ⟨g, i, none⟩ v) (some g) := by
    intro X i v hX
    exact ⟨hX.os, hX.tape, hX.output, by simp [World.setCell]; exact hX.size, fun k hk hne => (Below.heap_setCell X _ v k (fun e => hne (by rw [e]))).trans (hX.block k hk hne)⟩
  exact hs _ _ _ (hs _ _ _ (hs _ _ _ (hs _ _ _ (hs _ _ _ h))))

theorem mark_step {w wr : World} {g ty cap j : Nat} (hB : Blk wr g ty cap) (hj : j < cap) (hM : ∀ i, i < j → ItAt wr g (i * 5) (markIt i)) (hG : w.grownBy wr (some g)) :
    Blk (set5 wr g (j * 5) (markIt j)) g ty cap ∧ (∀ i, i < j + 1 → ItAt (set5 wr g (j * 5) (markIt j)) g (i * 5) (markIt i)) ∧ w.grownBy (set5 wr g (j * 5) (markIt j)) (some g) := by
  refine ⟨hB.set5 _, fun i hi => ?_, grown_set5 hG⟩
  by_cases he : i = j
  · subst he
    exact set5_this hB hj (markIt i)
  · exact set5_other (hM i (by omega)) he

set_option maxHeartbeats 1000000 in
theorem mark_any (a : Option Addr) (n cap : Nat) (w : World) (h : Wr w a n cap) (hn : n ≤ 1048576) : Calls Try.prog 20 #[.slice a n cap, .int .i64 1] w fun e w' => e = .returned (.int .i64 (1 + 5 * (n : Int))) ∧ Marked w' a n ∧ w.grownBy w' (rowOf a n) := by
  by_cases h0 : n = 0
  · subst h0
    go_enter Try.func20, Try.ntmps20
    go_wp2
    go_loopw [1, 5] (fun kv i wr => kv = .int .i64 1 ∧ i = .int .i64 0 ∧ wr = w) (fun _ _ _ => 0)
    case atStart => exact ⟨rfl, rfl, rfl⟩
    case round =>
      obtain ⟨rfl, rfl, rfl⟩ := hrel
      go_wp2
      go_ret
      exact ⟨rfl, Or.inl rfl, bel_grown0 (Below.refl _ _)⟩
  · obtain ⟨g, rfl, hB, hc⟩ := h.resolve_left h0
    rw [rowOf_pos h0]
    go_enter Try.func20, Try.ntmps20
    go_wp2
    go_loopw [1, 5] (fun kv i wr => ∃ j : Nat, j ≤ n ∧ kv = .int .i64 (1 + 5 * (j : Int)) ∧ i = .int .i64 j ∧ Blk wr g 25 cap ∧ (∀ i, i < j → ItAt wr g (i * 5) (markIt i)) ∧ w.grownBy wr (some g)) (fun _ i _ => n - (intOf i).toNat)
    case atStart => exact ⟨0, Nat.zero_le _, rfl, rfl, hB, fun i hi => absurd hi (by omega), ⟨rfl, rfl, rfl, Nat.le_refl _, fun _ _ _ => rfl⟩⟩
    case round =>
      obtain ⟨j, hj, rfl, rfl, hBw, hM, hG⟩ := hrel
      have HM := hide hM
      clear hM
      by_cases hlt : j < n
      · obtain ⟨⟨u0, d0⟩, ⟨u1, d1⟩, ⟨u2, d2⟩, ⟨u3, d3⟩, ⟨u4, d4⟩⟩ := hBw.cells (k := j) (by omega)
        have f0 := hBw.frozen (i := j * 5)
        have f1 := hBw.frozen (i := j * 5 + 1)
        have f2 := hBw.frozen (i := j * 5 + 2)
        have f3 := hBw.frozen (i := j * 5 + 3)
        have f4 := hBw.frozen (i := j * 5 + 4)
        go_wp2
        go_roundw
        case rel =>
          obtain ⟨s1, s2, s3⟩ := mark_step hBw (by omega) (unhide HM) hG
          exact ⟨j + 1, by omega, by go_num, by go_num, s1, s2, s3⟩
        case measure => simp [intOf]; omega
      · obtain rfl : j = n := by omega
        go_wp2
        go_ret
        exact ⟨rfl, Or.inr ⟨g, rfl, unhide HM⟩, hG⟩

set_option maxHeartbeats 1000000 in
theorem held_any (a : Option Addr) (n cap : Nat) (w : World) (h : Marked w a n) (hn : n ≤ 1048576) : Calls Try.prog 21 #[.slice a n cap, .int .i64 1] w fun e w' => e = .returned (.int .i64 (1 + 5 * (n : Int))) ∧ w' = w := by
  go_enter Try.func21, Try.ntmps21
  go_wp2
  go_loop [1, 5] (fun kv i => ∃ j : Nat, j ≤ n ∧ kv = .int .i64 (1 + 5 * (j : Int)) ∧ i = .int .i64 j) (fun _ i => n - (intOf i).toNat)
  case atStart => exact ⟨0, Nat.zero_le _, rfl, rfl⟩
  case round =>
    obtain ⟨j, hj, rfl, rfl⟩ := hrel
    by_cases hlt : j < n
    · obtain ⟨g, rfl, hM⟩ := h.resolve_left (by omega)
      obtain ⟨c0, c1, c2, c3, c4⟩ := (show ItAt w g (j * 5) ⟨1 + 5 * (j : Int), 1 + 5 * (j : Int) + 1, 1 + 5 * (j : Int) + 1 + 1, 1 + 5 * (j : Int) + 1 + 1 + 1, 1 + 5 * (j : Int) + 1 + 1 + 1 + 1⟩ from hM j hlt).get
      clear hM
      go_wp2
      go_round
      case rel => exact ⟨j + 1, by omega, by go_num, by go_num⟩
      case measure => simp [intOf]; omega
    · obtain rfl : j = n := by omega
      go_wp2
      go_ret
      exact ⟨rfl, rfl⟩
end Go.Proofs.Ytbbgiklhkhlnaaa
