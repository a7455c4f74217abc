/- Proved here: logs, and what is drawn beside them, are drawn of a code. -/
import Derived.Test.YthdfljankoffiaaDrawAny
import Derived.Test.YthdfljankoffiaaLogL0
namespace Go.Proofs.Ythdfljankoffiaa
open Go.ChangeShapes Go.WideShapes Go.ChangeAt Go.RowKit
set_option linter.unusedVariables false

set_option maxRecDepth 20000 in
theorem drawlogok_any (a : Option Addr) (len cap : Nat) (w : World) (hlc : len ≤ cap) (hlm : len ≤ 1048576) (hb : BytesAt w a len) (hl : ∀ g o, a = some ⟨g, o, none⟩ → 0 < len → g < w.heap.size) (hn : a = none → cap = 0) : Calls Try.prog 18 #[.slice a len cap] w fun e w' => LogsD w e w' := by
  go_enter Try.func18, Try.ntmps18
  go_wp2_with fail
  refine (open_any a len cap _ hlc hlm hb hl hn).mono ?_
  rintro e w1 ⟨R, len', cap', rfl, h1, h2, hb1, hr⟩
  clear hb hl hn
  go_wp2_with fail
  refine (any_any R a len' cap' 0 2 w1 (by omega) (by omega) (by omega) h2 hr).mono ?_
  rintro e w2 ⟨v, xs, rfl, hO, hl, k, hpp⟩
  obtain ⟨a1, cap1, rfl, hI⟩ := own_its hO (by unfold maxLen; omega)
  go_wp2
  go_ret
  exact ⟨a1, _, cap1, xs, rfl, hI, hb1.trans (k.low.mono h1)⟩

/-- A log and a number that are drawn of a code. -/
def RecsD (w : World) (e : Ending) (w' : World) : Prop := ∃ (a1 : Option Addr) (cap1 : Nat) (xs : List It) (least : Int), e = .returned (.tuple #[.slice a1 xs.length cap1, .int .i64 least]) ∧ Its w' a1 xs.length xs ∧ xs.length ≤ 41 ∧ (-9 ≤ least ∧ least ≤ 9) ∧ Below w.heap.size w w'

set_option maxRecDepth 20000 in
theorem drawlogrecs_any (a : Option Addr) (len cap : Nat) (w : World) (hlc : len ≤ cap) (hlm : len ≤ 1048576) (hb : BytesAt w a len) (hl : ∀ g o, a = some ⟨g, o, none⟩ → 0 < len → g < w.heap.size) (hn : a = none → cap = 0) : Calls Try.prog 22 #[.slice a len cap] w fun e w' => RecsD w e w' := by
  go_enter Try.func22, Try.ntmps22
  go_wp2_with fail
  refine (open_any a len cap _ hlc hlm hb hl hn).mono ?_
  rintro e w1 ⟨R, len', cap', rfl, h1, h2, hb1, hr⟩
  clear hb hl hn
  go_wp2_with fail
  refine (any_any R a len' cap' 0 8 w1 (by omega) (by omega) (by omega) h2 hr).mono ?_
  rintro e w2 ⟨v, xs, rfl, hO, hl, k, p', hp', r2⟩
  have h3 : R < w2.heap.size := by have h9 := k.low.size; omega
  go_wp2_with fail
  refine (pick_any R a len' cap' p' 19 w2 (by omega) (by omega) r2).mono ?_
  rintro e w3 ⟨x, rfl, bx1, bx2, k3, q3⟩
  obtain ⟨a1, cap1, rfl, hI⟩ := own_its (ownK hO h2 k3) (by unfold maxLen; omega)
  go_wp2
  refine bodyPost_ret (v := .tuple #[.slice a1 xs.length cap1, .int .i64 (x - 9)]) (by simp (maxDischargeDepth := 9) [results, Try.results22, go_sem, *]) rfl ⟨a1, cap1, xs, x - 9, rfl, hI, hl, ⟨by omega, by omega⟩, hb1.trans ((k.low.trans k3.low).mono h1)⟩
end Go.Proofs.Ythdfljankoffiaa
