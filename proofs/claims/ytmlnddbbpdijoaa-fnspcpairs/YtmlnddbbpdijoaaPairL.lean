/- Proved here: the law on SpcPairs returns true at every argument. -/
import Derived.Test.YtmlnddbbpdijoaaPairC
namespace Go.Proofs.Ytmlnddbbpdijoaa
open Go.ChangeShapes Go.WideShapes Go.ChangeAt Go.RowKit
set_option linter.unusedVariables false

theorem pairsT_len (s t k z p l e v r : Int) (xs : List IwR) : (pairsT s t k z p l e v r xs).length ≤ 7320 := by
  unfold pairsT
  split
  · rename_i hc
    have h1 := (recsB_iff (by simp only [Bool.and_eq_true] at hc; exact hc.2)).1
    have h2 := prsT_len k z p xs
    omega
  · simp
theorem specpairs_eq (s t k z p l e : Int) (b : Bool) (v r : Int) (a : Option Addr) (len cap : Nat) (xs : List IwR) (w : World) (RR : List LpR) (h : IwRs w a len xs) (hR : Hid (pairsT s t k z p l e v r xs = RR)) : Calls Try.prog 7 #[.agg #[.int .i64 s, .int .i64 t, .int .i64 k, .int .i64 z, .int .i64 p, .int .i64 l, .int .i64 e, .bool b, .int .i64 v, .int .i64 r], .slice a len cap] w fun e' w' => ∃ v', e' = .returned v' ∧ OwnLp w' w.heap.size v' RR ∧ Below w.heap.size w w' := by
  rw [← unhide hR]; exact specpairs_any s t k z p l e b v r a len cap xs w h
theorem implpairs_eq (s t k z p l e : Int) (b : Bool) (v r : Int) (a : Option Addr) (len cap : Nat) (xs : List IwR) (w : World) (RR : List LpR) (h : IwRs w a len xs) (hR : Hid (pairsT s t k z p l e v r xs = RR)) : Calls Try.prog 5 #[.agg #[.int .i64 s, .int .i64 t, .int .i64 k, .int .i64 z, .int .i64 p, .int .i64 l, .int .i64 e, .bool b, .int .i64 v, .int .i64 r], .slice a len cap] w fun e' w' => ∃ v', e' = .returned v' ∧ OwnLp w' w.heap.size v' RR ∧ Below w.heap.size w w' := by
  rw [← unhide hR]; exact implpairs_any s t k z p l e b v r a len cap xs w h

end Go.Proofs.Ytmlnddbbpdijoaa
