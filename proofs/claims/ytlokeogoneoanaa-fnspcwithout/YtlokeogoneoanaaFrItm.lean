/- Proved here: items are held against each other, one by one. -/
import Derived.Test.YtlokeogoneoanaaRwItm
import Derived.BigQuiet
namespace Go.Proofs.Ytlokeogoneoanaa
open Go.ChangeShapes Go.WideShapes Go.ChangeAt Go.RowKit
set_option linter.unusedVariables false

set_option maxRecDepth 20000 in
set_option maxHeartbeats 1000000 in
theorem fritems_any (a1 a2 : Option Addr) (len cap1 cap2 : Nat) (xs : List IwR) (w : World) (h1 : IwRs w a1 len xs) (h2 : IwRs w a2 len xs) : Calls Try.prog 6 #[.slice a1 len cap1, .slice a2 len cap2] w fun e w' => e = .returned (.bool true) ∧ Below w.heap.size w w' := by
  have hm := h1.2.1
  unfold maxLen at hm
  go_enter Try.func6, Try.ntmps6
  go_wp2
  go_loopw [5] (fun i wr => ∃ k : Nat, k ≤ len ∧ i = .int .i64 k ∧ Below w.heap.size w wr) (fun i _ => len - (intOf i).toNat)
  case atStart => exact ⟨0, Nat.zero_le _, rfl, Below.refl _ _⟩
  case round =>
    obtain ⟨k, hk, rfl, hbw⟩ := hrel
    by_cases hlt : k < len
    · obtain ⟨hl1, _, hx1⟩ := h1
      obtain ⟨hl2, _, hx2⟩ := h2
      obtain ⟨g1, o1, rfl, hr1⟩ := hx1.resolve_left (by omega)
      obtain ⟨g2, o2, rfl, hr2⟩ := hx2.resolve_left (by omega)
      obtain ⟨x, hxk⟩ : ∃ x, xs[k]? = some x := ⟨_, List.getElem?_eq_getElem (by omega)⟩
      have hg1 : g1 < w.heap.size := hr1.lt (by omega)
      have hg2 : g2 < w.heap.size := hr2.lt (by omega)
      have hltI : (k : Int) < (len : Int) := by omega
      obtain ⟨c0, c1, c2, c3, c4⟩ := (hr1 k _ hxk).below hbw hg1
      obtain ⟨d0, d1, d2, d3, d4⟩ := (hr2 k _ hxk).below hbw hg2
      clear hx1 hx2 hxk hr1 hr2
      go_wp2_with fail
      go_quiet (fail)
      go_wp2
      go_roundw
      case rel => exact ⟨k + 1, by omega, by go_num, (by repeat (first | (with_reducible exact Below.refl _ _) | (with_reducible assumption) | (with_reducible refine bel_set ?_ (by first | (simp; done) | (simp; omega)) _) | (with_reducible refine bel_alloc ?_ _) | (with_reducible refine bel_drew ?_) | (with_reducible refine bel_drewN ?_ _) | (with_reducible refine bel_trans ?_ (by with_reducible assumption))))⟩
      case measure => simp [intOf]; omega
    · go_wp2
      go_ret
      exact ⟨rfl, hbw⟩
end Go.Proofs.Ytlokeogoneoanaa
