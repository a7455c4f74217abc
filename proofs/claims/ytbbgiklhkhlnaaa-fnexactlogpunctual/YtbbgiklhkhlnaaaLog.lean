/- Proved here: what the functions on logs answer, in the program and in the specification. -/
import Derived.Test.YtbbgiklhkhlnaaaItm2
import Derived.Test.YtbbgiklhkhlnaaaGenB
import Derived.WalkSpells
namespace Go.Proofs.Ytbbgiklhkhlnaaa
open Go.ChangeShapes Go.WideShapes Go.ChangeAt Go.RowKit
set_option linter.unusedVariables false

theorem sz_small (a : Option Addr) (len cap : Nat) (w : World) (h : len ≤ maxLen) (h1 : (len : Int) ≤ 1048576) : Calls Try.prog 13 #[.slice a len cap, .int .i64 1048576] w fun e w' => e = .returned (.int .i64 (1048576 - (len : Int))) ∧ w' = w := by
  unfold maxLen at h
  go_enter Try.func13, Try.ntmps13
  go_wp2
  go_ret
  exact ⟨rfl, rfl⟩
theorem sz_big (a : Option Addr) (len cap : Nat) (w : World) (h : len ≤ maxLen) (h1 : ¬ (len : Int) ≤ 1048576) : Calls Try.prog 13 #[.slice a len cap, .int .i64 1048576] w fun e w' => e = .returned (.int .i64 (-1)) ∧ w' = w := by
  unfold maxLen at h
  go_enter Try.func13, Try.ntmps13
  go_wp2
  go_ret
  exact ⟨rfl, rfl⟩

theorem Try.infoItm : (Try.prog.info? 25).map (fun i => (i.zero, i.size, i.bytes)) = some (some (.agg #[.int .i64 0, .int .i64 0, .int .i64 0, .int .i64 0, .int .i64 0]), 5, 40) := by kernel_rfl

theorem mkItm (len : Nat) (hl : len ≤ 1048576) : ∃ C : Array Value, C.size = len * 5 ∧ ∀ w : World, (Instr.makeSlice 31 (.int .i64 (len : Int)) (.int .i64 (len : Int))).run Try.prog w = .ok (.slice (some ⟨w.heap.size, 0, none⟩) len len) (w.alloc (.cells C 25)) := by
  obtain ⟨i0, hi, hz0, hz1, hz2⟩ := info_parts Try.infoItm
  refine ⟨madeCells (Value.agg #[.int .i64 0, .int .i64 0, .int .i64 0, .int .i64 0, .int .i64 0]).cells (len * i0.size), by rw [size_madeCells, hz1], fun w => ?_⟩
  have h := run_make (P := Try.prog) w 31 25 i0 _ Try.underlying31 hi hz0 .i64 .i64 len len (by omega) (Int.le_refl _) (by rw [hz2]; omega) (by omega)
  simpa using h

set_option maxHeartbeats 400000 in
theorem toIts_at (a : Option Addr) (len cap : Nat) (xs : List It) (w : World) (h : Its w a len xs) (hl : len ≤ 1048576) : Calls Try.prog 15 #[.slice a len cap] w fun e w' => e = .returned (.slice (some ⟨w.heap.size, 0, none⟩) len len) ∧ ItsAt w' w.heap.size 0 xs ∧ Blk w' w.heap.size 25 len ∧ Below w.heap.size w w' := by
  obtain ⟨C, hC, hmk⟩ := mkItm len hl
  go_enter Try.func15, Try.ntmps15
  go_wp2
  go_loopw [4] (fun i wr => ∃ k : Nat, k ≤ len ∧ i = .int .i64 k ∧ Fill wr w.heap.size 25 len (xs.take k) ∧ Below w.heap.size w wr) (fun i _ => len - (intOf i).toNat)
  case atStart => exact ⟨0, Nat.zero_le _, rfl, Fill.start hC xs, bel_one _ _⟩
  case round =>
    obtain ⟨k, hk, rfl, hF, hbw⟩ := hrel
    by_cases hlt : k < len
    · obtain ⟨hxl, hml, hx⟩ := h
      obtain ⟨g, o, rfl, hr⟩ := hx.resolve_left (by omega)
      obtain ⟨x, hxk⟩ : ∃ x, xs[k]? = some x := ⟨_, List.getElem?_eq_getElem (by omega)⟩
      have hg : g < w.heap.size := hr.lt (by omega)
      have hX := hide hxk
      obtain ⟨c0, c1, c2, c3, c4⟩ := (hr k _ hxk).below hbw hg
      obtain ⟨⟨u0, d0⟩, ⟨u1, d1⟩, ⟨u2, d2⟩, ⟨u3, d3⟩, ⟨u4, d4⟩⟩ := hF.1.cells hlt
      have f0 := hF.1.frozen (i := k * 5)
      have f1 := hF.1.frozen (i := k * 5 + 1)
      have f2 := hF.1.frozen (i := k * 5 + 2)
      have f3 := hF.1.frozen (i := k * 5 + 3)
      have f4 := hF.1.frozen (i := k * 5 + 4)
      have hz := hF.1.lt
      clear hx hxk
      go_wp2_with (go_at_call 11; refine (toItm_any _ _ _ _ _ _).mono ?_; rintro e w' ⟨rfl, hb⟩; obtain ⟨hc, hf, hs⟩ := bcell hb)
      go_roundw
      case rel => exact ⟨k + 1, by omega, by go_num, hF.step hb hlt (unhide hX), below_set5 (bel_trans hbw hb) (Nat.le_refl _)⟩
      case measure => simp [intOf]; omega
    · go_wp2
      go_ret
      exact ⟨rfl, hF.done (by have := h.1; omega), hF.1, hbw⟩
theorem toIts_any (a : Option Addr) (len cap : Nat) (xs : List It) (w : World) (h : Its w a len xs) (hl : len ≤ 1048576) : Calls Try.prog 15 #[.slice a len cap] w fun e w' => ∃ g, e = .returned (.slice (some ⟨g, 0, none⟩) len len) ∧ ItsAt w' g 0 xs ∧ Below w.heap.size w w' :=
  (toIts_at a len cap xs w h hl).mono fun e w' h => ⟨_, h.1, h.2.1, h.2.2.2⟩

/-! more -/
end Go.Proofs.Ytbbgiklhkhlnaaa
