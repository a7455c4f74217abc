/- Proved here: the law returns true at every argument. -/
import Derived.Test.YtlaildbjcmihkaaPanOfI
namespace Go.Proofs.Ytlaildbjcmihkaa
open Go.ChangeShapes Go.WideShapes Go.ChangeAt Go.RowKit
set_option linter.unusedVariables false

theorem specPanOf_eq (a : Option Addr) (len cap : Nat) (xs : List PnR) (ky st en : Int) (w : World) (RR : List PnR) (h : PnRs w a len xs) (hl : len ≤ 1048576) (hR : Hid (kpPn ky st en xs = RR)) : Calls Try.prog 7 #[.slice a len cap, .int .i64 ky, .agg #[.int .i64 st, .int .i64 en]] w fun e w' => ∃ v, e = .returned v ∧ OwnPn w' w.heap.size v RR ∧ Below w.heap.size w w' := by
  rw [← unhide hR]; exact specPanOf_any a len cap xs ky st en w h hl
theorem implPanOf_eq (a : Option Addr) (len cap : Nat) (xs : List PnR) (ky st en : Int) (w : World) (RR : List PnR) (h : PnRs w a len xs) (hl : len ≤ 1048576) (hR : Hid (kpPn ky st en xs = RR)) : Calls Try.prog 5 #[.slice a len cap, .int .i64 ky, .agg #[.int .i64 st, .int .i64 en]] w fun e w' => ∃ v, e = .returned v ∧ OwnPn w' w.heap.size v RR ∧ Below w.heap.size w w' := by
  rw [← unhide hR]; exact implPanOf_any a len cap xs ky st en w h hl

end Go.Proofs.Ytlaildbjcmihkaa
