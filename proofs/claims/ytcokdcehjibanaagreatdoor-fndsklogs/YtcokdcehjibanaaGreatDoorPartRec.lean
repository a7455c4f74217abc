/- Proved here: what the program's look at the kind of an item answers. -/
import Derived.Test.YtcokdcehjibanaaGreatDoorItm2
namespace Go.Proofs.YtcokdcehjibanaaGreatDoor
open Go.ChangeShapes Go.WideShapes Go.ChangeAt Go.RowKit
set_option linter.unusedVariables false

theorem partV_1 (t k v n : Int) : partV 1 t k v n = .iface 76 (.agg #[.int .i64 1, .int .i64 t, .int .i64 k, .int .i64 v, .int .i64 n]) := rfl
theorem partV_2 (t k v n : Int) : partV 2 t k v n = .iface 77 (.agg #[.int .i64 2, .int .i64 t, .int .i64 k, .int .i64 v, .int .i64 n]) := rfl
theorem partV_3 (t k v n : Int) : partV 3 t k v n = .iface 78 (.agg #[.int .i64 3, .int .i64 t, .int .i64 k, .int .i64 v, .int .i64 n]) := rfl
theorem partV_n {q : Int} (h1 : q ≠ 1) (h2 : q ≠ 2) (h3 : q ≠ 3) (t k v n : Int) : partV q t k v n = .iface 79 (.agg #[.int .i64 q, .int .i64 t, .int .i64 k, .int .i64 v, .int .i64 n]) := by unfold partV; rw [if_neg h1, if_neg h2, if_neg h3]

theorem taRR (x : Value) (w : World) : (Instr.typeAssert (.iface 76 x) 63 76 true).run Tryz.prog w = .ok (.tuple #[x, .bool true]) w := by kernel_rfl
theorem taRM (x : Value) (w : World) : (Instr.typeAssert (.iface 76 x) 63 77 true).run Tryz.prog w = .ok (.tuple #[.agg #[.int .i64 0, .int .i64 0, .int .i64 0, .int .i64 0, .int .i64 0], .bool false]) w := by kernel_rfl
theorem taMR (x : Value) (w : World) : (Instr.typeAssert (.iface 77 x) 63 76 true).run Tryz.prog w = .ok (.tuple #[.agg #[.int .i64 0, .int .i64 0, .int .i64 0, .int .i64 0, .int .i64 0], .bool false]) w := by kernel_rfl
theorem taMM (x : Value) (w : World) : (Instr.typeAssert (.iface 77 x) 63 77 true).run Tryz.prog w = .ok (.tuple #[x, .bool true]) w := by kernel_rfl
theorem taWR (x : Value) (w : World) : (Instr.typeAssert (.iface 78 x) 63 76 true).run Tryz.prog w = .ok (.tuple #[.agg #[.int .i64 0, .int .i64 0, .int .i64 0, .int .i64 0, .int .i64 0], .bool false]) w := by kernel_rfl
theorem taWM (x : Value) (w : World) : (Instr.typeAssert (.iface 78 x) 63 77 true).run Tryz.prog w = .ok (.tuple #[.agg #[.int .i64 0, .int .i64 0, .int .i64 0, .int .i64 0, .int .i64 0], .bool false]) w := by kernel_rfl
theorem taNR (x : Value) (w : World) : (Instr.typeAssert (.iface 79 x) 63 76 true).run Tryz.prog w = .ok (.tuple #[.agg #[.int .i64 0, .int .i64 0, .int .i64 0, .int .i64 0, .int .i64 0], .bool false]) w := by kernel_rfl
theorem taNM (x : Value) (w : World) : (Instr.typeAssert (.iface 79 x) 63 77 true).run Tryz.prog w = .ok (.tuple #[.agg #[.int .i64 0, .int .i64 0, .int .i64 0, .int .i64 0, .int .i64 0], .bool false]) w := by kernel_rfl

/-- What recordOf tells. -/
def recIt (q t k v n : Int) : Value := if q = 1 then .agg #[.int .i64 1, .int .i64 t, .int .i64 k, .int .i64 v, .int .i64 n] else .agg #[.int .i64 0, .int .i64 0, .int .i64 0, .int .i64 0, .int .i64 0]
theorem recIt_1 (t k v n : Int) : recIt 1 t k v n = .agg #[.int .i64 1, .int .i64 t, .int .i64 k, .int .i64 v, .int .i64 n] := rfl
theorem recIt_n {q : Int} (h : q ≠ 1) (t k v n : Int) : recIt q t k v n = .agg #[.int .i64 0, .int .i64 0, .int .i64 0, .int .i64 0, .int .i64 0] := if_neg h
theorem ret_rec {a b : Value} {c d : Bool} (h : a = b) (k : c = d) : Ending.returned (.tuple #[a, .bool c]) = .returned (.tuple #[b, .bool d]) := by rw [h, k]
end Go.Proofs.YtcokdcehjibanaaGreatDoor
