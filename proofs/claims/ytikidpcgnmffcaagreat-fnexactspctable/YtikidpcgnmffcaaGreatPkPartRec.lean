/- Laid together: what the claim needs of the texts that were built one by one. -/
import Derived.Test.YtikidpcgnmffcaaGreatPkItm2
import Derived.Test.YtikidpcgnmffcaaGreatPkBase
namespace Go.Proofs.YtikidpcgnmffcaaGreat
open Go.ChangeShapes Go.WideShapes Go.ChangeAt Go.RowKit
set_option linter.unusedVariables false

theorem partV_1 (t k v n : Int) : partV 1 t k v n = .iface 114 (.agg #[.int .i64 1, .int .i64 t, .int .i64 k, .int .i64 v, .int .i64 n]) := rfl

theorem partV_2 (t k v n : Int) : partV 2 t k v n = .iface 115 (.agg #[.int .i64 2, .int .i64 t, .int .i64 k, .int .i64 v, .int .i64 n]) := rfl

theorem partV_3 (t k v n : Int) : partV 3 t k v n = .iface 116 (.agg #[.int .i64 3, .int .i64 t, .int .i64 k, .int .i64 v, .int .i64 n]) := rfl

theorem partV_n {q : Int} (h1 : q ≠ 1) (h2 : q ≠ 2) (h3 : q ≠ 3) (t k v n : Int) : partV q t k v n = .iface 117 (.agg #[.int .i64 q, .int .i64 t, .int .i64 k, .int .i64 v, .int .i64 n]) := by unfold partV; rw [if_neg h1, if_neg h2, if_neg h3]

theorem taRR (x : Value) (w : World) : (Instr.typeAssert (.iface 114 x) 99 114 true).run Tryz.prog w = .ok (.tuple #[x, .bool true]) w := by kernel_rfl

theorem taRM (x : Value) (w : World) : (Instr.typeAssert (.iface 114 x) 99 115 true).run Tryz.prog w = .ok (.tuple #[.agg #[.int .i64 0, .int .i64 0, .int .i64 0, .int .i64 0, .int .i64 0], .bool false]) w := by kernel_rfl

theorem taMR (x : Value) (w : World) : (Instr.typeAssert (.iface 115 x) 99 114 true).run Tryz.prog w = .ok (.tuple #[.agg #[.int .i64 0, .int .i64 0, .int .i64 0, .int .i64 0, .int .i64 0], .bool false]) w := by kernel_rfl

theorem taMM (x : Value) (w : World) : (Instr.typeAssert (.iface 115 x) 99 115 true).run Tryz.prog w = .ok (.tuple #[x, .bool true]) w := by kernel_rfl

theorem taWR (x : Value) (w : World) : (Instr.typeAssert (.iface 116 x) 99 114 true).run Tryz.prog w = .ok (.tuple #[.agg #[.int .i64 0, .int .i64 0, .int .i64 0, .int .i64 0, .int .i64 0], .bool false]) w := by kernel_rfl

theorem taWM (x : Value) (w : World) : (Instr.typeAssert (.iface 116 x) 99 115 true).run Tryz.prog w = .ok (.tuple #[.agg #[.int .i64 0, .int .i64 0, .int .i64 0, .int .i64 0, .int .i64 0], .bool false]) w := by kernel_rfl

theorem taNR (x : Value) (w : World) : (Instr.typeAssert (.iface 117 x) 99 114 true).run Tryz.prog w = .ok (.tuple #[.agg #[.int .i64 0, .int .i64 0, .int .i64 0, .int .i64 0, .int .i64 0], .bool false]) w := by kernel_rfl

theorem taNM (x : Value) (w : World) : (Instr.typeAssert (.iface 117 x) 99 115 true).run Tryz.prog w = .ok (.tuple #[.agg #[.int .i64 0, .int .i64 0, .int .i64 0, .int .i64 0, .int .i64 0], .bool false]) w := by kernel_rfl

/-- What recordOf tells. -/
def recIt (q t k v n : Int) : Value := if q = 1 then .agg #[.int .i64 1, .int .i64 t, .int .i64 k, .int .i64 v, .int .i64 n] else .agg #[.int .i64 0, .int .i64 0, .int .i64 0, .int .i64 0, .int .i64 0]

theorem recIt_1 (t k v n : Int) : recIt 1 t k v n = .agg #[.int .i64 1, .int .i64 t, .int .i64 k, .int .i64 v, .int .i64 n] := rfl

theorem recIt_n {q : Int} (h : q ≠ 1) (t k v n : Int) : recIt q t k v n = .agg #[.int .i64 0, .int .i64 0, .int .i64 0, .int .i64 0, .int .i64 0] := if_neg h

theorem ret_rec {a b : Value} {c d : Bool} (h : a = b) (k : c = d) : Ending.returned (.tuple #[a, .bool c]) = .returned (.tuple #[b, .bool d]) := by rw [h, k]

theorem record_any (q t k v n : Int) (w : World) : Calls Tryz.prog 62 #[partV q t k v n] w fun e w' => e = .returned (.tuple #[recIt q t k v n, .bool (q == 1)]) ∧ Below w.heap.size w w' := by
  by_cases h1 : q = 1
  · subst h1
    rw [partV_1]
    have rR := taRR
    have mR := taRM
    go_enter Tryz.func62, Tryz.ntmps62
    go_wp2
    refine bodyPost_ret (v := .tuple #[.agg #[.int .i64 1, .int .i64 t, .int .i64 k, .int .i64 v, .int .i64 n], .bool true]) (by simp [results, Tryz.results62, go_sem]) rfl ⟨rfl, ?_⟩
    exact (belC)
  have hq := hide (recIt_n h1 t k v n)
  have hp : Hid ((q == 1) = false) := hide (by simpa using h1)
  by_cases h2 : q = 2
  · subst h2
    rw [partV_2]
    have rM := taMR
    have mM := taMM
    go_enter Tryz.func62, Tryz.ntmps62
    go_wp2
    refine bodyPost_ret (v := .tuple #[.agg #[.int .i64 0, .int .i64 0, .int .i64 0, .int .i64 0, .int .i64 0], .bool false]) (by simp [results, Tryz.results62, go_sem]) rfl ⟨ret_rec (unhide hq).symm (unhide hp).symm, ?_⟩
    exact (belC)
  by_cases h3 : q = 3
  · subst h3
    rw [partV_3]
    have rW := taWR
    have mW := taWM
    go_enter Tryz.func62, Tryz.ntmps62
    go_wp2
    refine bodyPost_ret (v := .tuple #[.agg #[.int .i64 0, .int .i64 0, .int .i64 0, .int .i64 0, .int .i64 0], .bool false]) (by simp [results, Tryz.results62, go_sem]) rfl ⟨ret_rec (unhide hq).symm (unhide hp).symm, ?_⟩
    exact (belC)
  · rw [partV_n h1 h2 h3]
    have rN := taNR
    have mN := taNM
    clear h1 h2 h3
    go_enter Tryz.func62, Tryz.ntmps62
    go_wp2
    refine bodyPost_ret (v := .tuple #[.agg #[.int .i64 0, .int .i64 0, .int .i64 0, .int .i64 0, .int .i64 0], .bool false]) (by simp [results, Tryz.results62, go_sem]) rfl ⟨ret_rec (unhide hq).symm (unhide hp).symm, ?_⟩
    exact (belC)
end Go.Proofs.YtikidpcgnmffcaaGreat
