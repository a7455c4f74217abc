/- Proved here: the law on OpOk returns true at every argument. -/
import Derived.Test.YtflignpbboiahaaOpOkI
import Derived.Test.YtflignpbboiahaaOpOkS
import Derived.Deep.DeepCutAuto
namespace Go.Proofs.Ytflignpbboiahaa
open Go.ChangeShapes Go.WideShapes Go.ChangeAt Go.RowKit
set_option linter.unusedVariables false

theorem specopok_eq (s t k z p l e : Int) (b : Bool) (v r : Int) (m : Int) (a : Option Addr) (len cap : Nat) (xs : List OrR) (w : World) {ob : Bool} (h : OrRs w a len xs) (hV : Hid (okOp s t k z p l e v r m xs = ob)) : Calls Try.prog 16 #[.agg #[.int .i64 s, .int .i64 t, .int .i64 k, .int .i64 z, .int .i64 p, .int .i64 l, .int .i64 e, .bool b, .int .i64 v, .int .i64 r], .agg #[.int .i64 m, .slice a len cap]] w fun e' w' => e' = .returned (.bool ob) ∧ Below w.heap.size w w' := by
  rw [← unhide hV]; exact specopok_any s t k z p l e b v r m a len cap xs w h
theorem implopok_eq (s t k z p l e : Int) (b : Bool) (v r : Int) (m : Int) (a : Option Addr) (len cap : Nat) (xs : List OrR) (w : World) {ob : Bool} (h : OrRs w a len xs) (hV : Hid (okOp s t k z p l e v r m xs = ob)) : Calls Try.prog 21 #[.agg #[.int .i64 s, .int .i64 t, .int .i64 k, .int .i64 z, .int .i64 p, .int .i64 l, .int .i64 e, .bool b, .int .i64 v, .int .i64 r], .agg #[.int .i64 m, .slice a len cap]] w fun e' w' => e' = .returned (.bool ob) ∧ Below w.heap.size w w' := by
  rw [← unhide hV]; exact implopok_any s t k z p l e b v r m a len cap xs w h
end Go.Proofs.Ytflignpbboiahaa
