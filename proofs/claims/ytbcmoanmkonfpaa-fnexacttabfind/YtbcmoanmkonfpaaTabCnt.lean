/- Proved here: how many values rows know of, in the program and in the specification. -/
import Derived.Test.YtbcmoanmkonfpaaRwaTab
namespace Go.Proofs.Ytbcmoanmkonfpaa
open Go.ChangeShapes Go.WideShapes Go.ChangeAt Go.RowKit
set_option linter.unusedVariables false

theorem take_snocT {α : Type} {xs : List α} {k : Nat} {x : α} (h : xs[k]? = some x) : xs.take (k + 1) = xs.take k ++ [x] := by
  obtain ⟨hk, he⟩ := List.getElem?_eq_some_iff.1 h
  rw [List.take_add_one, h]; rfl
/-- How many values rows know of. -/
def countT (xs : List TbR) : Int := xs.foldl (fun a x => wrap64 (a + x.n)) 0
theorem countT_snoc {xs : List TbR} {k : Nat} {x : TbR} (h : xs[k]? = some x) : countT (xs.take (k + 1)) = wrap64 (countT (xs.take k) + x.n) := by
  unfold countT
  rw [take_snocT h, List.foldl_append]
  rfl

theorem speccount_any (a : Option Addr) (len cap : Nat) (xs : List TbR) (w : World) (h : TbRs w a len xs) : Calls Try.prog 28 #[.slice a len cap] w fun e w' => e = .returned (.int .i64 (countT xs)) ∧ w' = w := by
  have hm := h.2.1
  unfold maxLen at hm
  go_enter Try.func28, Try.ntmps28
  go_wp2
  go_loop [3, 4] (fun nv i => ∃ k : Nat, k ≤ len ∧ i = .int .i64 k ∧ nv = .int .i64 (countT (xs.take k))) (fun _ i => len - (intOf i).toNat)
  case atStart => exact ⟨0, Nat.zero_le _, rfl, rfl⟩
  case round =>
    obtain ⟨k, hk, rfl, rfl⟩ := hrel
    by_cases hlt : k < len
    · obtain ⟨hxl, _, hx⟩ := h
      obtain ⟨g, o, rfl, hr⟩ := hx.resolve_left (by omega)
      obtain ⟨x, hxk⟩ : ∃ x, xs[k]? = some x := ⟨_, List.getElem?_eq_getElem (by omega)⟩
      have hg : g < w.heap.size := hr.lt (by omega)
      have hX := hide hxk
      obtain ⟨d0, d1, d2, d3, d4, d5, d6⟩ := (hr k _ hxk).below (Below.refl w.heap.size w) hg
      clear hx hxk
      have hst := hide (countT_snoc (unhide hX))
      go_wp2
      go_round
      case rel => exact ⟨k + 1, by omega, by go_num, by rw [unhide hst]⟩
      case measure => simp [intOf]; omega
    · have hq : Hid (countT (xs.take k) = countT xs) := hide (by rw [List.take_of_length_le (by have := h.1; omega)])
      go_wp2
      go_ret
      exact ⟨ret_i (unhide hq), rfl⟩

theorem implcount_any (a : Option Addr) (len cap : Nat) (xs : List TbR) (w : World) (h : TbRs w a len xs) : Calls Try.prog 29 #[.slice a len cap] w fun e w' => e = .returned (.int .i64 (countT xs)) ∧ Below w.heap.size w w' := by
  have hm := h.2.1
  unfold maxLen at hm
  go_enter Try.func29, Try.ntmps29
  go_wp2
  go_loopw [3, 8] (fun nv i wr => ∃ k : Nat, k ≤ len ∧ i = .int .i64 k ∧ nv = .int .i64 (countT (xs.take k)) ∧ Below w.heap.size w wr) (fun _ i _ => len - (intOf i).toNat)
  case atStart => exact ⟨0, Nat.zero_le _, rfl, rfl, Below.refl _ _⟩
  case round =>
    obtain ⟨k, hk, rfl, rfl, hbw⟩ := hrel
    by_cases hlt : k < len
    · obtain ⟨hxl, _, hx⟩ := h
      obtain ⟨g, o, rfl, hr⟩ := hx.resolve_left (by omega)
      obtain ⟨x, hxk⟩ : ∃ x, xs[k]? = some x := ⟨_, List.getElem?_eq_getElem (by omega)⟩
      have hg : g < w.heap.size := hr.lt (by omega)
      have hX := hide hxk
      obtain ⟨d0, d1, d2, d3, d4, d5, d6⟩ := (hr k _ hxk).below hbw hg
      clear hx hxk
      have hst := hide (countT_snoc (unhide hX))
      go_wp2
      go_roundw
      case rel => exact ⟨k + 1, by omega, by go_num, by rw [unhide hst], (by repeat (first | (with_reducible refine bel_set ?_ (by first | (simp; done) | (simp; omega)) _) | (with_reducible refine bel_alloc ?_ _) | (with_reducible exact Below.refl _ _) | (with_reducible assumption) | (with_reducible refine bel_drew ?_) | (with_reducible refine bel_drewN ?_ _) | (with_reducible refine bel_trans ?_ (by with_reducible assumption))))⟩
      case measure => simp [intOf]; omega
    · have hq : Hid (countT (xs.take k) = countT xs) := hide (by rw [List.take_of_length_le (by have := h.1; omega)])
      go_wp2
      go_ret
      exact ⟨ret_i (unhide hq), hbw⟩

theorem lawTabCount (a0 : Option Addr) (len0 cap0 : Nat) (z0 : List TbR) (w : World) (w0 : TbRs w a0 len0 z0) : Calls Try.prog 7 #[.slice a0 len0 cap0] w fun e' w' => e' = .returned (.bool true) ∧ Below w.heap.size w w' := by
  have hm := w0.2.1
  by_cases hl : (len0 : Int) ≤ 1048576
  · have hl0 : len0 ≤ 1048576 := by omega
    have lt0 : ∀ g o, 0 < len0 → a0 = some ⟨g, o, none⟩ → g < w.heap.size := fun g o hp ha => by subst ha; exact w0.lt hp
    have H0 := w0
    go_enter Try.func7, Try.ntmps7
    go_wp2_with fail
    refine (szTb_small a0 len0 cap0 _ hm hl).mono ?_
    rintro e wx ⟨rfl, hw⟩
    obtain rfl := hw.symm
    clear hw
    go_wp2_with fail
    refine (toTb_any _ len0 _ z0 _ H0 hl0).mono ?_
    rintro e w1x ⟨b1, rfl, H1, R1, ge1, hb⟩
    have hb1 : Below w.heap.size w w1x := (by repeat (first | (with_reducible refine bel_set ?_ (by first | (simp; done) | (simp; omega)) _) | (with_reducible refine bel_alloc ?_ _) | (with_reducible exact Below.refl _ _) | (with_reducible assumption) | (with_reducible refine bel_drew ?_) | (with_reducible refine bel_drewN ?_ _) | (with_reducible refine bel_trans ?_ (by with_reducible assumption))))
    clear hb
    have hB1 : Below w.heap.size w w1x := hb1
    have hz1 := hb1.size
    replace H0 := H0.below hb1
    replace ge1 : ∀ g o, 0 < len0 → b1 = some ⟨g, o, none⟩ → w.heap.size ≤ g := fun g o hp e9 => Nat.le_trans (by first | exact Nat.le_refl _ | (simp; done) | (simp; omega)) (ge1 g o hp e9)
    have lt1 : ∀ g o, 0 < len0 → b1 = some ⟨g, o, none⟩ → g < w1x.heap.size := fun g o hp ha => by subst ha; exact H1.lt hp
    go_wp2_with fail
    refine (speccount_any _ _ _ z0 _ H1).mono ?_
    rintro e wx ⟨rfl, hw⟩
    obtain rfl := hw.symm
    clear hw
    go_wp2_with fail
    refine (toTb_any _ len0 _ z0 _ H0 hl0).mono ?_
    rintro e w2x ⟨b2, rfl, H2, R2, ge2, hb⟩
    have hb2 : Below w1x.heap.size w1x w2x := (by repeat (first | (with_reducible refine bel_set ?_ (by first | (simp; done) | (simp; omega)) _) | (with_reducible refine bel_alloc ?_ _) | (with_reducible exact Below.refl _ _) | (with_reducible assumption) | (with_reducible refine bel_drew ?_) | (with_reducible refine bel_drewN ?_ _) | (with_reducible refine bel_trans ?_ (by with_reducible assumption))))
    clear hb
    have hB2 : Below w.heap.size w w2x := bel_trans hB1 hb2
    have hz2 := hb2.size
    replace H0 := H0.below hb2
    replace H1 := H1.below hb2
    replace R1 := R1.below hb2
    replace ge2 : ∀ g o, 0 < len0 → b2 = some ⟨g, o, none⟩ → w1x.heap.size ≤ g := fun g o hp e9 => Nat.le_trans (by first | exact Nat.le_refl _ | (simp; done) | (simp; omega)) (ge2 g o hp e9)
    have lt2 : ∀ g o, 0 < len0 → b2 = some ⟨g, o, none⟩ → g < w2x.heap.size := fun g o hp ha => by subst ha; exact H2.lt hp
    go_wp2_with fail
    refine (implcount_any _ _ _ z0 _ H2).mono ?_
    rintro e w3x ⟨rfl, hb⟩
    have hb3 : Below w2x.heap.size w2x w3x := (by repeat (first | (with_reducible refine bel_set ?_ (by first | (simp; done) | (simp; omega)) _) | (with_reducible refine bel_alloc ?_ _) | (with_reducible exact Below.refl _ _) | (with_reducible assumption) | (with_reducible refine bel_drew ?_) | (with_reducible refine bel_drewN ?_ _) | (with_reducible refine bel_trans ?_ (by with_reducible assumption))))
    clear hb
    have hB3 : Below w.heap.size w w3x := bel_trans hB2 hb3
    have hz3 := hb3.size
    replace H0 := H0.below hb3
    replace H1 := H1.below hb3
    replace R1 := R1.below hb3
    replace H2 := H2.below hb3
    replace R2 := R2.below hb3
    go_wp2_with fail
    refine (toTb_any _ len0 _ z0 _ H0 hl0).mono ?_
    rintro e w4x ⟨b3, rfl, H3, R3, ge3, hb⟩
    have hb4 : Below w3x.heap.size w3x w4x := (by repeat (first | (with_reducible refine bel_set ?_ (by first | (simp; done) | (simp; omega)) _) | (with_reducible refine bel_alloc ?_ _) | (with_reducible exact Below.refl _ _) | (with_reducible assumption) | (with_reducible refine bel_drew ?_) | (with_reducible refine bel_drewN ?_ _) | (with_reducible refine bel_trans ?_ (by with_reducible assumption))))
    clear hb
    have hB4 : Below w.heap.size w w4x := bel_trans hB3 hb4
    have hz4 := hb4.size
    replace H0 := H0.below hb4
    replace H1 := H1.below hb4
    replace R1 := R1.below hb4
    replace H2 := H2.below hb4
    replace R2 := R2.below hb4
    replace ge3 : ∀ g o, 0 < len0 → b3 = some ⟨g, o, none⟩ → w3x.heap.size ≤ g := fun g o hp e9 => Nat.le_trans (by first | exact Nat.le_refl _ | (simp; done) | (simp; omega)) (ge3 g o hp e9)
    have lt3 : ∀ g o, 0 < len0 → b3 = some ⟨g, o, none⟩ → g < w4x.heap.size := fun g o hp ha => by subst ha; exact H3.lt hp
    go_wp2_with fail
    refine (eqTb_any _ _ len0 _ _ z0 _ H2 H3).mono ?_
    rintro e w5x ⟨rfl, hb⟩
    have hb5 : Below w4x.heap.size w4x w5x := (by repeat (first | (with_reducible refine bel_set ?_ (by first | (simp; done) | (simp; omega)) _) | (with_reducible refine bel_alloc ?_ _) | (with_reducible exact Below.refl _ _) | (with_reducible assumption) | (with_reducible refine bel_drew ?_) | (with_reducible refine bel_drewN ?_ _) | (with_reducible refine bel_trans ?_ (by with_reducible assumption))))
    clear hb
    have hB5 : Below w.heap.size w w5x := bel_trans hB4 hb5
    have hz5 := hb5.size
    replace H0 := H0.below hb5
    replace H1 := H1.below hb5
    replace R1 := R1.below hb5
    replace H2 := H2.below hb5
    replace R2 := R2.below hb5
    replace H3 := H3.below hb5
    replace R3 := R3.below hb5
    go_wp2_with fail
    go_ret
    exact ⟨rfl, hB5⟩
  · go_enter Try.func7, Try.ntmps7
    go_wp2_with fail
    refine (szTb_big a0 len0 cap0 _ hm (by omega)).mono ?_
    rintro e wx ⟨rfl, hw⟩
    obtain rfl := hw.symm
    go_wp2_with fail
    go_ret
    exact ⟨rfl, Below.refl _ _⟩

end Go.Proofs.Ytbcmoanmkonfpaa
