/- Laid together: what the claim needs of the texts that were built one by one. -/
import Derived.Test.YtblmhpngaccllaaPkPaneDB
import Derived.Test.YtblmhpngaccllaaPkBase
namespace Go.Proofs.Ytblmhpngaccllaa
open Go.ChangeShapes Go.WideShapes Go.ChangeAt Go.RowKit
set_option linter.unusedVariables false

def TabD (w : World) (e' : Ending) (w' : World) : Prop := ∃ (a5 : Option Addr) (c5 : Nat) (xs : List PnR) (pc : Bool), e' = .returned (.tuple #[.slice a5 xs.length c5, .bool pc]) ∧ PnRs w' a5 xs.length xs ∧ xs.length ≤ 8 ∧ xs.length ≤ c5 ∧ (∀ x ∈ xs, PnB x) ∧ Below w.heap.size w w'

set_option linter.unusedSimpArgs false in
set_option maxRecDepth 20000 in
set_option maxHeartbeats 4000000 in
theorem drawtabof_any (a : Option Addr) (len cap : Nat) (w : World) (hlc : len ≤ cap) (hlm : len ≤ 1048576) (hb : BytesAt w a len) (hl : ∀ g o, a = some ⟨g, o, none⟩ → 0 < len → g < w.heap.size) (hn : a = none → cap = 0) : Calls Try.prog 4 #[.slice a len cap] w fun e w' => TabD w e w' := by
  go_enter Try.func4, Try.ntmps4
  go_wp2_with fail
  refine (open_any a len cap _ hlc hlm hb hl hn).mono ?_
  rintro e' w1 ⟨R, ln, cp, rfl, hR1, hR2, hb1, hrd⟩
  clear hb hl hn
  go_wp2_with fail
  refine (panes_any R a ln cp 0 _ (by omega) hR2 hrd).mono ?_
  rintro e' w2 ⟨v, xs, rfl, hO, hxl, hpb, k2, p2, hp2, rd2⟩
  have HPB := hide hpb
  clear hrd hpb
  go_wp2_with fail
  refine (pick_any R a ln cp p2 2 _ (by decide) (by decide) rd2).mono ?_
  rintro e' w3 ⟨x, rfl, xl, xu, k3, r3⟩
  have hO3 := ownPn_kp hO k3 (by omega)
  obtain ⟨ar, cr, rfl, HP, hWr, _⟩ := holdPn hO3 (by omega)
  have hcap : xs.length ≤ cr := by rcases hWr with h | ⟨_, _, _, h⟩ <;> omega
  clear hWr
  have hbF : Below w.heap.size w w3 := hb1.trans ((k2.low.mono hR1).trans (k3.low.mono hR1))
  clear hO hO3 rd2 r3 k2 k3
  by_cases hx : x = 0
  · have hx' : (x == 0) = true := by simp [hx]
    go_wp2
    go_ret2
    exact ⟨_, _, xs, _, rfl, HP, hxl, hcap, unhide HPB, hbF⟩
  · have hx' : (x == 0) = false := by simp [hx]
    go_wp2
    go_ret2
    exact ⟨_, _, xs, _, rfl, HP, hxl, hcap, unhide HPB, hbF⟩
end Go.Proofs.Ytblmhpngaccllaa
