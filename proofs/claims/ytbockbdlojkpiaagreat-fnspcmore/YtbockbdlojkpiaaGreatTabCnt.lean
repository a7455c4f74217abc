/- Proved here: how many values rows know of, in the program and in the specification. -/
import Derived.Test.YtbockbdlojkpiaaGreatRwaTab
namespace Go.Proofs.YtbockbdlojkpiaaGreat
open Go.ChangeShapes Go.WideShapes Go.ChangeAt Go.RowKit
set_option linter.unusedVariables false

theorem take_snocT {α : Type} {xs : List α} {k : Nat} {x : α} (h : xs[k]? = some x) : xs.take (k + 1) = xs.take k ++ [x] := by
  obtain ⟨hk, he⟩ := List.getElem?_eq_some_iff.1 h
  rw [List.take_add_one, h]; rfl
/-- How many values rows know of. -/
def countT (xs : List TbR) : Int := xs.foldl (fun a x => wrap64 (a + x.n)) 0
theorem countT_snoc {xs : List TbR} {k : Nat} {x : TbR} (h : xs[k]? = some x) : countT (xs.take (k + 1)) = wrap64 (countT (xs.take k) + x.n) := by
  unfold countT
  rw [take_snocT h, List.foldl_append]
  rfl

theorem implcount_any (a : Option Addr) (len cap : Nat) (xs : List TbR) (w : World) (h : TbRs w a len xs) : Calls Tryz.prog 11 #[.slice a len cap] w fun e w' => e = .returned (.int .i64 (countT xs)) ∧ Below w.heap.size w w' := by
  have hm := h.2.1
  unfold maxLen at hm
  go_enter Tryz.func11, Tryz.ntmps11
  go_wp2
  go_loopw [3, 8] (fun nv i wr => ∃ k : Nat, k ≤ len ∧ i = .int .i64 k ∧ nv = .int .i64 (countT (xs.take k)) ∧ Below w.heap.size w wr) (fun _ i _ => len - (intOf i).toNat)
  case atStart => exact ⟨0, Nat.zero_le _, rfl, rfl, Below.refl _ _⟩
  case round =>
    obtain ⟨k, hk, rfl, rfl, hbw⟩ := hrel
    by_cases hlt : k < len
    · obtain ⟨hxl, _, hx⟩ := h
      obtain ⟨g, o, rfl, hr⟩ := hx.resolve_left (by omega)
      obtain ⟨x, hxk⟩ : ∃ x, xs[k]? = some x := ⟨_, List.getElem?_eq_getElem (by omega)⟩
      have hg : g < w.heap.size := hr.lt (by omega)
      have hX := hide hxk
      obtain ⟨d0, d1, d2, d3, d4, d5, d6⟩ := (hr k _ hxk).below hbw hg
      clear hx hxk
      have hst := hide (countT_snoc (unhide hX))
      go_wp2
      go_roundw
      case rel => exact ⟨k + 1, by omega, by go_num, by rw [unhide hst], (by repeat (first | (with_reducible refine bel_set ?_ (by first | (simp; done) | (simp; omega)) _) | (with_reducible refine bel_alloc ?_ _) | (with_reducible exact Below.refl _ _) | (with_reducible assumption) | (with_reducible refine bel_drew ?_) | (with_reducible refine bel_drewN ?_ _) | (with_reducible refine bel_trans ?_ (by with_reducible assumption))))⟩
      case measure => simp [intOf]; omega
    · have hq : Hid (countT (xs.take k) = countT xs) := hide (by rw [List.take_of_length_le (by have := h.1; omega)])
      go_wp2
      go_ret
      exact ⟨ret_i (unhide hq), hbw⟩

end Go.Proofs.YtbockbdlojkpiaaGreat
