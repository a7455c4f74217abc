/- Proved here: the records of pairs, in the program and in the specification, in new memory. -/
import Derived.Test.YtdklefbkaoaodaaRwaLat
import Derived.Test.YtdklefbkaoaodaaRwaItm
import Derived.Test.YtdklefbkaoaodaaOwnB
import Derived.Deep.Onto
namespace Go.Proofs.Ytdklefbkaoaodaa
open Go.ChangeShapes Go.WideShapes Go.ChangeAt Go.RowKit
set_option linter.unusedVariables false

/-- The record of a pair; the records of pairs. -/
def LpR.itm (x : LpR) : IwR := ⟨x.kd, x.tm, x.ke, x.va, x.nn⟩
theorem mapLp_snoc {xs : List LpR} {k : Nat} {x : LpR} (h : xs[k]? = some x) : (xs.take (k + 1)).map LpR.itm = (xs.take k).map LpR.itm ++ [x.itm] := by
  obtain ⟨hk, he⟩ := List.getElem?_eq_some_iff.1 h
  rw [List.take_add_one, h]; simp
theorem keepLp {xs : List LpR} {k : Nat} {x : LpR} {w1 : World} {B : Nat} {v' : Value} (h : xs[k]? = some x) (ho : w1.ownsRow B 29 5 v' (((xs.take k).map LpR.itm).length + 1) (flatIw ((xs.take k).map LpR.itm) ++ x.itm.cells)) : OwnIw w1 B v' ((xs.take (k + 1)).map LpR.itm) := by
  rw [mapLp_snoc h]
  exact ownIw_snoc ho

set_option maxRecDepth 20000 in
set_option maxHeartbeats 1000000 in
theorem speclatrecs_any (a : Option Addr) (len cap : Nat) (xs : List LpR) (w : World) (h : LpRs w a len xs) (hl : len ≤ 1048576) : Calls Try.prog 10 #[.slice a len cap] w fun e w' => ∃ v, e = .returned v ∧ OwnIw w' w.heap.size v (xs.map LpR.itm) ∧ Below w.heap.size w w' := by
  have hm := h.2.1
  unfold maxLen at hm
  obtain ⟨i0, hi, hz0, hz1, hz2⟩ := info_parts Try.infoIw
  go_enter Try.func10, Try.ntmps10
  go_wp2
  go_loopw [3, 4] (fun v' i wr => ∃ k : Nat, k ≤ len ∧ i = .int .i64 k ∧ OwnIw wr w.heap.size v' ((xs.take k).map LpR.itm) ∧ Below w.heap.size w wr) (fun _ i _ => len - (intOf i).toNat)
  case atStart => exact ⟨0, Nat.zero_le _, rfl, ownLit (W := w) (B := w.heap.size) _ _ (Nat.le_refl _) rfl, bel_one _ _⟩
  case round =>
    obtain ⟨k, hk, rfl, hO, hbw⟩ := hrel
    have hws := hbw.size
    have hkl : ((xs.take k).map LpR.itm).length ≤ k := by simp; omega
    have HO := hide hO
    have hge := hide (ownIw_ge hO)
    clear hO
    by_cases hlt : k < len
    · obtain ⟨hxl, _, hx⟩ := h
      obtain ⟨g, o, rfl, hr⟩ := hx.resolve_left (by omega)
      obtain ⟨x, hxk⟩ : ∃ x, xs[k]? = some x := ⟨_, List.getElem?_eq_getElem (by omega)⟩
      have hg : g < w.heap.size := hr.lt (by omega)
      have hX := hide hxk
      obtain ⟨d0, d1, d2, d3, d4, d5, d6⟩ := (hr k _ hxk).below hbw hg
      clear hx hxk hr
      go_wp2_with (at_builtin; go_loud (refine wpList_append_own _ rfl _ _ 25 rfl w.heap.size 29 i0 _ 5 40 Try.underlying25 hi hz0 hz1 hz2 rfl (by decide) u3 _ _ rfl (World.ownsRow.alloc (unhide HO) _) ⟨wr.heap.size, 0, none⟩ 1 1 [.int .i64 x.kd, .int .i64 x.tm, .int .i64 x.ke, .int .i64 x.va, .int .i64 x.nn] rfl rfl (cells_newIw wr x.kd x.tm x.ke x.va x.nn _) (by simp [Value.oneCell']) (by unfold maxLen; omega) (by omega) (by simp; omega) ?_); intro v' w1 hown' hgrow _)
      have hb1 : Below w.heap.size w w1 := (bel_alloc hbw _).grown hgrow (by simp; omega) (unhide hge)
      go_roundw
      case rel => exact ⟨k + 1, by omega, by go_num, keepLp (unhide hX) hown', hb1⟩
      case measure => simp [intOf]; omega
    · have HQ : Hid ((xs.take k).map LpR.itm = xs.map LpR.itm) := hide (by rw [List.take_of_length_le (by have := h.1; omega)])
      go_wp2
      go_ret
      refine ⟨_, rfl, ?_, hbw⟩
      rw [← unhide HQ]
      exact unhide HO

set_option maxRecDepth 20000 in
set_option maxHeartbeats 1000000 in
theorem impllatrecs_any (a : Option Addr) (len cap : Nat) (xs : List LpR) (w : World) (h : LpRs w a len xs) (hl : len ≤ 1048576) : Calls Try.prog 8 #[.slice a len cap] w fun e w' => ∃ v, e = .returned v ∧ OwnIw w' w.heap.size v (xs.map LpR.itm) ∧ Below w.heap.size w w' := by
  have hm := h.2.1
  unfold maxLen at hm
  obtain ⟨i0, hi, hz0, hz1, hz2⟩ := info_parts Try.infoIw
  go_enter Try.func8, Try.ntmps8
  go_wp2
  go_loopw [3, 8] (fun v' i wr => ∃ k : Nat, k ≤ len ∧ i = .int .i64 k ∧ OwnIw wr w.heap.size v' ((xs.take k).map LpR.itm) ∧ Below w.heap.size w wr) (fun _ i _ => len - (intOf i).toNat)
  case atStart => exact ⟨0, Nat.zero_le _, rfl, World.ownsRow_nil _ _ _ _, Below.refl _ _⟩
  case round =>
    obtain ⟨k, hk, rfl, hO, hbw⟩ := hrel
    have hws := hbw.size
    have hkl : ((xs.take k).map LpR.itm).length ≤ k := by simp; omega
    have HO := hide hO
    have hge := hide (ownIw_ge hO)
    clear hO
    by_cases hlt : k < len
    · obtain ⟨hxl, _, hx⟩ := h
      obtain ⟨g, o, rfl, hr⟩ := hx.resolve_left (by omega)
      obtain ⟨x, hxk⟩ : ∃ x, xs[k]? = some x := ⟨_, List.getElem?_eq_getElem (by omega)⟩
      have hg : g < w.heap.size := hr.lt (by omega)
      have hX := hide hxk
      obtain ⟨d0, d1, d2, d3, d4, d5, d6⟩ := (hr k _ hxk).below hbw hg
      clear hx hxk hr
      go_wp2_with (at_builtin; go_loud (refine wpList_append_own _ rfl _ _ 25 rfl w.heap.size 29 i0 _ 5 40 Try.underlying25 hi hz0 hz1 hz2 rfl (by decide) u3 _ _ rfl (World.ownsRow.alloc (World.ownsRow.alloc (unhide HO) _) _) ⟨wr.heap.size + 1, 0, none⟩ 1 1 [.int .i64 x.kd, .int .i64 x.tm, .int .i64 x.ke, .int .i64 x.va, .int .i64 x.nn] rfl rfl (cells_atIw _ x.kd x.tm x.ke x.va x.nn _ (by simp)) (by simp [Value.oneCell']) (by unfold maxLen; omega) (by omega) (by simp; omega) ?_); intro v' w1 hown' hgrow _)
      have hb1 : Below w.heap.size w w1 := (bel_alloc (bel_alloc hbw _) _).grown hgrow (by simp; omega) (unhide hge)
      go_roundw
      case rel => exact ⟨k + 1, by omega, by go_num, keepLp (unhide hX) hown', hb1⟩
      case measure => simp [intOf]; omega
    · have HQ : Hid ((xs.take k).map LpR.itm = xs.map LpR.itm) := hide (by rw [List.take_of_length_le (by have := h.1; omega)])
      go_wp2
      go_ret
      refine ⟨_, rfl, ?_, hbw⟩
      rw [← unhide HQ]
      exact unhide HO

theorem speclatrecs_eq (a : Option Addr) (len cap : Nat) (xs : List LpR) (w : World) (RR : List IwR) (h : LpRs w a len xs) (hl : len ≤ 1048576) (hR : Hid (xs.map LpR.itm = RR)) : Calls Try.prog 10 #[.slice a len cap] w fun e w' => ∃ v, e = .returned v ∧ OwnIw w' w.heap.size v RR ∧ Below w.heap.size w w' := by
  rw [← unhide hR]; exact speclatrecs_any a len cap xs w h hl
theorem impllatrecs_eq (a : Option Addr) (len cap : Nat) (xs : List LpR) (w : World) (RR : List IwR) (h : LpRs w a len xs) (hl : len ≤ 1048576) (hR : Hid (xs.map LpR.itm = RR)) : Calls Try.prog 8 #[.slice a len cap] w fun e w' => ∃ v, e = .returned v ∧ OwnIw w' w.heap.size v RR ∧ Below w.heap.size w w' := by
  rw [← unhide hR]; exact impllatrecs_any a len cap xs w h hl

end Go.Proofs.Ytdklefbkaoaodaa
