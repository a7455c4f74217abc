/- Proved here: the law on LogOk returns true at every slice. -/
import Derived.Test.YtbbgiklhkhlnaaaLogImpl
namespace Go.Proofs.Ytbbgiklhkhlnaaa
open Go.RowKit
set_option linter.unusedVariables false

theorem its_of {W : World} {g len : Nat} {xs : List It} (hl : xs.length = len) (hm : len ≤ maxLen) (h : ItsAt W g 0 xs) : Its W (some ⟨g, 0, none⟩) len xs := ⟨hl, hm, Or.inr ⟨g, 0, rfl, h⟩⟩

set_option maxHeartbeats 1000000 in
theorem lawLogOk (a : Option Addr) (len cap : Nat) (xs : List It) (w : World) (h : Its w a len xs) : Calls Try.prog 4 #[.slice a len cap] w fun e w' => e = .returned (.bool true) ∧ Below w.heap.size w w' := by
  have hm := h.2.1
  have hxl := h.1
  by_cases hl : (len : Int) ≤ 1048576
  · have hl' : len ≤ 1048576 := by omega
    go_enter Try.func4, Try.ntmps4
    go_wp2_with fail
    refine (sz_small a len cap _ hm hl).mono ?_
    rintro e w1 ⟨rfl, hw⟩
    obtain rfl := hw.symm
    go_wp2_with fail
    refine (toIts_any a len cap xs _ h hl').mono ?_
    rintro e w2 ⟨g2, rfl, hI2, hb2⟩
    go_wp2_with fail
    refine (speclog_any _ len len xs _ (its_of hxl hm hI2)).mono ?_
    rintro e w3 ⟨rfl, hb3⟩
    go_wp2_with fail
    have hb3' := bel_trans hb2 hb3
    refine (toIts_any a len cap xs _ (h.below hb3') hl').mono ?_
    rintro e w4 ⟨g4, rfl, hI4, hb4⟩
    go_wp2_with fail
    refine (impllog_any _ len len xs _ (its_of hxl hm hI4)).mono ?_
    rintro e w5 ⟨rfl, hb5⟩
    go_wp2_with fail
    have hb5' := bel_trans (bel_trans hb3' hb4) hb5
    refine (toIts_any a len cap xs _ (h.below hb5') hl').mono ?_
    rintro e w6 ⟨g6, rfl, hI6, hb6⟩
    go_wp2_with fail
    refine (eqIts_any _ _ len len len xs _ ((its_of hxl hm hI4).below (bel_trans hb5 hb6)) (its_of hxl hm hI6)).mono ?_
    rintro e w7 ⟨rfl, hb7⟩
    go_wp2_with fail
    go_ret
    exact ⟨rfl, bel_trans (bel_trans hb5' hb6) hb7⟩
  · go_enter Try.func4, Try.ntmps4
    go_wp2_with fail
    refine (sz_big a len cap _ hm (by omega)).mono ?_
    rintro e w1 ⟨rfl, hw⟩
    obtain rfl := hw.symm
    go_wp2_with fail
    go_ret
    exact ⟨rfl, Below.refl _ _⟩
end Go.Proofs.Ytbbgiklhkhlnaaa
