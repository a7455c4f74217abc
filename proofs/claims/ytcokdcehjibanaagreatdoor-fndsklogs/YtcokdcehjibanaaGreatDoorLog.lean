/- Proved here: what the functions on logs answer, in the program and in the specification. -/
import Derived.Test.YtcokdcehjibanaaGreatDoorItm2
import Derived.Test.YtcokdcehjibanaaGreatDoorGenB
import Derived.WalkSpells
namespace Go.Proofs.YtcokdcehjibanaaGreatDoor
open Go.ChangeShapes Go.WideShapes Go.ChangeAt Go.RowKit
set_option linter.unusedVariables false

theorem Tryz.infoItm : (Tryz.prog.info? 45).map (fun i => (i.zero, i.size, i.bytes)) = some (some (.agg #[.int .i64 0, .int .i64 0, .int .i64 0, .int .i64 0, .int .i64 0]), 5, 40) := by kernel_rfl

theorem mkItm (len : Nat) (hl : len ≤ 1048576) : ∃ C : Array Value, C.size = len * 5 ∧ ∀ w : World, (Instr.makeSlice 40 (.int .i64 (len : Int)) (.int .i64 (len : Int))).run Tryz.prog w = .ok (.slice (some ⟨w.heap.size, 0, none⟩) len len) (w.alloc (.cells C 45)) := by
  obtain ⟨i0, hi, hz0, hz1, hz2⟩ := info_parts Tryz.infoItm
  refine ⟨madeCells (Value.agg #[.int .i64 0, .int .i64 0, .int .i64 0, .int .i64 0, .int .i64 0]).cells (len * i0.size), by rw [size_madeCells, hz1], fun w => ?_⟩
  have h := run_make (P := Tryz.prog) w 40 45 i0 _ Tryz.underlying40 hi hz0 .i64 .i64 len len (by omega) (Int.le_refl _) (by rw [hz2]; omega) (by omega)
  simpa using h

/-! more -/
end Go.Proofs.YtcokdcehjibanaaGreatDoor
