/- Laid together: what the claim needs of the texts that were built one by one. -/
import Derived.Test.YtikidpcgnmffcaaGreatPkSlide6
import Derived.Test.YtikidpcgnmffcaaGreatPkLat
import Derived.Test.YtikidpcgnmffcaaGreatPkRwaLat
import Derived.Test.YtikidpcgnmffcaaGreatPkRwaItm
import Derived.Test.YtikidpcgnmffcaaGreatPkBase
import Derived.Deep.RegionHeld3
namespace Go.Proofs.YtikidpcgnmffcaaGreat
open Go.ChangeShapes Go.WideShapes Go.ChangeAt Go.RowKit
set_option linter.unusedVariables false

theorem hd_10_5 {b0 b1 o0x0 o0x1 o0x2 o0x3 o0x4 o0x5 o0x6 o0x7 o0x8 o0x9 o1x0 o1x1 o1x2 o1x3 o1x4 : Nat} {v0x0 v0x1 v0x2 v0x3 v0x4 v0x5 v0x6 v0x7 v0x8 v0x9 v1x0 v1x1 v1x2 v1x3 v1x4 : Value} {W W' : World} (h : ((W.cell? ⟨b0, o0x0, none⟩ = some (v0x0) ∧ W.cell? ⟨b0, o0x1, none⟩ = some (v0x1) ∧ W.cell? ⟨b0, o0x2, none⟩ = some (v0x2) ∧ W.cell? ⟨b0, o0x3, none⟩ = some (v0x3) ∧ W.cell? ⟨b0, o0x4, none⟩ = some (v0x4) ∧ W.cell? ⟨b0, o0x5, none⟩ = some (v0x5) ∧ W.cell? ⟨b0, o0x6, none⟩ = some (v0x6) ∧ W.cell? ⟨b0, o0x7, none⟩ = some (v0x7) ∧ W.cell? ⟨b0, o0x8, none⟩ = some (v0x8) ∧ W.cell? ⟨b0, o0x9, none⟩ = some (v0x9) ∧ W.cell? ⟨b1, o1x0, none⟩ = some (v1x0) ∧ W.cell? ⟨b1, o1x1, none⟩ = some (v1x1) ∧ W.cell? ⟨b1, o1x2, none⟩ = some (v1x2) ∧ W.cell? ⟨b1, o1x3, none⟩ = some (v1x3) ∧ W.cell? ⟨b1, o1x4, none⟩ = some (v1x4)) ∧ b0 < W.heap.size ∧ b1 < W.heap.size)) (hb : Below W.heap.size W W') : ((W'.cell? ⟨b0, o0x0, none⟩ = some (v0x0) ∧ W'.cell? ⟨b0, o0x1, none⟩ = some (v0x1) ∧ W'.cell? ⟨b0, o0x2, none⟩ = some (v0x2) ∧ W'.cell? ⟨b0, o0x3, none⟩ = some (v0x3) ∧ W'.cell? ⟨b0, o0x4, none⟩ = some (v0x4) ∧ W'.cell? ⟨b0, o0x5, none⟩ = some (v0x5) ∧ W'.cell? ⟨b0, o0x6, none⟩ = some (v0x6) ∧ W'.cell? ⟨b0, o0x7, none⟩ = some (v0x7) ∧ W'.cell? ⟨b0, o0x8, none⟩ = some (v0x8) ∧ W'.cell? ⟨b0, o0x9, none⟩ = some (v0x9) ∧ W'.cell? ⟨b1, o1x0, none⟩ = some (v1x0) ∧ W'.cell? ⟨b1, o1x1, none⟩ = some (v1x1) ∧ W'.cell? ⟨b1, o1x2, none⟩ = some (v1x2) ∧ W'.cell? ⟨b1, o1x3, none⟩ = some (v1x3) ∧ W'.cell? ⟨b1, o1x4, none⟩ = some (v1x4)) ∧ b0 < W'.heap.size ∧ b1 < W'.heap.size) := by
  obtain ⟨⟨h0, h1, h2, h3, h4, h5, h6, h7, h8, h9, h10, h11, h12, h13, h14⟩, s0, s1⟩ := h
  refine ⟨⟨?_, ?_, ?_, ?_, ?_, ?_, ?_, ?_, ?_, ?_, ?_, ?_, ?_, ?_, ?_⟩, Nat.lt_of_lt_of_le s0 hb.size, Nat.lt_of_lt_of_le s1 hb.size⟩
  · rw [hb.cell s0]; exact h0
  · rw [hb.cell s0]; exact h1
  · rw [hb.cell s0]; exact h2
  · rw [hb.cell s0]; exact h3
  · rw [hb.cell s0]; exact h4
  · rw [hb.cell s0]; exact h5
  · rw [hb.cell s0]; exact h6
  · rw [hb.cell s0]; exact h7
  · rw [hb.cell s0]; exact h8
  · rw [hb.cell s0]; exact h9
  · rw [hb.cell s1]; exact h10
  · rw [hb.cell s1]; exact h11
  · rw [hb.cell s1]; exact h12
  · rw [hb.cell s1]; exact h13
  · rw [hb.cell s1]; exact h14

theorem hd_10_5_set {b0 b1 o0x0 o0x1 o0x2 o0x3 o0x4 o0x5 o0x6 o0x7 o0x8 o0x9 o1x0 o1x1 o1x2 o1x3 o1x4 : Nat} {v0x0 v0x1 v0x2 v0x3 v0x4 v0x5 v0x6 v0x7 v0x8 v0x9 v1x0 v1x1 v1x2 v1x3 v1x4 : Value} {W : World} {p : Addr} (h : ((W.cell? ⟨b0, o0x0, none⟩ = some (v0x0) ∧ W.cell? ⟨b0, o0x1, none⟩ = some (v0x1) ∧ W.cell? ⟨b0, o0x2, none⟩ = some (v0x2) ∧ W.cell? ⟨b0, o0x3, none⟩ = some (v0x3) ∧ W.cell? ⟨b0, o0x4, none⟩ = some (v0x4) ∧ W.cell? ⟨b0, o0x5, none⟩ = some (v0x5) ∧ W.cell? ⟨b0, o0x6, none⟩ = some (v0x6) ∧ W.cell? ⟨b0, o0x7, none⟩ = some (v0x7) ∧ W.cell? ⟨b0, o0x8, none⟩ = some (v0x8) ∧ W.cell? ⟨b0, o0x9, none⟩ = some (v0x9) ∧ W.cell? ⟨b1, o1x0, none⟩ = some (v1x0) ∧ W.cell? ⟨b1, o1x1, none⟩ = some (v1x1) ∧ W.cell? ⟨b1, o1x2, none⟩ = some (v1x2) ∧ W.cell? ⟨b1, o1x3, none⟩ = some (v1x3) ∧ W.cell? ⟨b1, o1x4, none⟩ = some (v1x4)) ∧ b0 < W.heap.size ∧ b1 < W.heap.size)) (p0 : p.block ≠ b0) (p1 : p.block ≠ b1) (u : Value) : (((W.setCell p u).cell? ⟨b0, o0x0, none⟩ = some (v0x0) ∧ (W.setCell p u).cell? ⟨b0, o0x1, none⟩ = some (v0x1) ∧ (W.setCell p u).cell? ⟨b0, o0x2, none⟩ = some (v0x2) ∧ (W.setCell p u).cell? ⟨b0, o0x3, none⟩ = some (v0x3) ∧ (W.setCell p u).cell? ⟨b0, o0x4, none⟩ = some (v0x4) ∧ (W.setCell p u).cell? ⟨b0, o0x5, none⟩ = some (v0x5) ∧ (W.setCell p u).cell? ⟨b0, o0x6, none⟩ = some (v0x6) ∧ (W.setCell p u).cell? ⟨b0, o0x7, none⟩ = some (v0x7) ∧ (W.setCell p u).cell? ⟨b0, o0x8, none⟩ = some (v0x8) ∧ (W.setCell p u).cell? ⟨b0, o0x9, none⟩ = some (v0x9) ∧ (W.setCell p u).cell? ⟨b1, o1x0, none⟩ = some (v1x0) ∧ (W.setCell p u).cell? ⟨b1, o1x1, none⟩ = some (v1x1) ∧ (W.setCell p u).cell? ⟨b1, o1x2, none⟩ = some (v1x2) ∧ (W.setCell p u).cell? ⟨b1, o1x3, none⟩ = some (v1x3) ∧ (W.setCell p u).cell? ⟨b1, o1x4, none⟩ = some (v1x4)) ∧ b0 < (W.setCell p u).heap.size ∧ b1 < (W.setCell p u).heap.size) := by
  obtain ⟨⟨h0, h1, h2, h3, h4, h5, h6, h7, h8, h9, h10, h11, h12, h13, h14⟩, s0, s1⟩ := h
  have hb : W.heap.size ≤ (W.setCell p u).heap.size := by simp [World.setCell]
  refine ⟨⟨?_, ?_, ?_, ?_, ?_, ?_, ?_, ?_, ?_, ?_, ?_, ?_, ?_, ?_, ?_⟩, Nat.lt_of_lt_of_le s0 hb, Nat.lt_of_lt_of_le s1 hb⟩
  · rw [cell_set_ne p0]; exact h0
  · rw [cell_set_ne p0]; exact h1
  · rw [cell_set_ne p0]; exact h2
  · rw [cell_set_ne p0]; exact h3
  · rw [cell_set_ne p0]; exact h4
  · rw [cell_set_ne p0]; exact h5
  · rw [cell_set_ne p0]; exact h6
  · rw [cell_set_ne p0]; exact h7
  · rw [cell_set_ne p0]; exact h8
  · rw [cell_set_ne p0]; exact h9
  · rw [cell_set_ne p1]; exact h10
  · rw [cell_set_ne p1]; exact h11
  · rw [cell_set_ne p1]; exact h12
  · rw [cell_set_ne p1]; exact h13
  · rw [cell_set_ne p1]; exact h14

theorem hd_10_5_re {b0 b1 o0x0 o0x1 o0x2 o0x3 o0x4 o0x5 o0x6 o0x7 o0x8 o0x9 o1x0 o1x1 o1x2 o1x3 o1x4 : Nat} {v0x0 v0x1 v0x2 v0x3 v0x4 v0x5 v0x6 v0x7 v0x8 v0x9 v1x0 v1x1 v1x2 v1x3 v1x4 : Value} {W : World} {o o' : Obj} (h : (((W.alloc o).cell? ⟨b0, o0x0, none⟩ = some (v0x0) ∧ (W.alloc o).cell? ⟨b0, o0x1, none⟩ = some (v0x1) ∧ (W.alloc o).cell? ⟨b0, o0x2, none⟩ = some (v0x2) ∧ (W.alloc o).cell? ⟨b0, o0x3, none⟩ = some (v0x3) ∧ (W.alloc o).cell? ⟨b0, o0x4, none⟩ = some (v0x4) ∧ (W.alloc o).cell? ⟨b0, o0x5, none⟩ = some (v0x5) ∧ (W.alloc o).cell? ⟨b0, o0x6, none⟩ = some (v0x6) ∧ (W.alloc o).cell? ⟨b0, o0x7, none⟩ = some (v0x7) ∧ (W.alloc o).cell? ⟨b0, o0x8, none⟩ = some (v0x8) ∧ (W.alloc o).cell? ⟨b0, o0x9, none⟩ = some (v0x9) ∧ (W.alloc o).cell? ⟨b1, o1x0, none⟩ = some (v1x0) ∧ (W.alloc o).cell? ⟨b1, o1x1, none⟩ = some (v1x1) ∧ (W.alloc o).cell? ⟨b1, o1x2, none⟩ = some (v1x2) ∧ (W.alloc o).cell? ⟨b1, o1x3, none⟩ = some (v1x3) ∧ (W.alloc o).cell? ⟨b1, o1x4, none⟩ = some (v1x4)) ∧ b0 < (W.alloc o).heap.size ∧ b1 < (W.alloc o).heap.size)) (p0 : b0 < W.heap.size) (p1 : b1 < W.heap.size) : (((W.alloc o').cell? ⟨b0, o0x0, none⟩ = some (v0x0) ∧ (W.alloc o').cell? ⟨b0, o0x1, none⟩ = some (v0x1) ∧ (W.alloc o').cell? ⟨b0, o0x2, none⟩ = some (v0x2) ∧ (W.alloc o').cell? ⟨b0, o0x3, none⟩ = some (v0x3) ∧ (W.alloc o').cell? ⟨b0, o0x4, none⟩ = some (v0x4) ∧ (W.alloc o').cell? ⟨b0, o0x5, none⟩ = some (v0x5) ∧ (W.alloc o').cell? ⟨b0, o0x6, none⟩ = some (v0x6) ∧ (W.alloc o').cell? ⟨b0, o0x7, none⟩ = some (v0x7) ∧ (W.alloc o').cell? ⟨b0, o0x8, none⟩ = some (v0x8) ∧ (W.alloc o').cell? ⟨b0, o0x9, none⟩ = some (v0x9) ∧ (W.alloc o').cell? ⟨b1, o1x0, none⟩ = some (v1x0) ∧ (W.alloc o').cell? ⟨b1, o1x1, none⟩ = some (v1x1) ∧ (W.alloc o').cell? ⟨b1, o1x2, none⟩ = some (v1x2) ∧ (W.alloc o').cell? ⟨b1, o1x3, none⟩ = some (v1x3) ∧ (W.alloc o').cell? ⟨b1, o1x4, none⟩ = some (v1x4)) ∧ b0 < (W.alloc o').heap.size ∧ b1 < (W.alloc o').heap.size) := by
  obtain ⟨⟨h0, h1, h2, h3, h4, h5, h6, h7, h8, h9, h10, h11, h12, h13, h14⟩, s0, s1⟩ := h
  have hb : Below W.heap.size (W.alloc o) (W.alloc o') := bel_re W o o'
  refine ⟨⟨?_, ?_, ?_, ?_, ?_, ?_, ?_, ?_, ?_, ?_, ?_, ?_, ?_, ?_, ?_⟩, Nat.lt_of_lt_of_le s0 hb.size, Nat.lt_of_lt_of_le s1 hb.size⟩
  · rw [hb.cell p0]; exact h0
  · rw [hb.cell p0]; exact h1
  · rw [hb.cell p0]; exact h2
  · rw [hb.cell p0]; exact h3
  · rw [hb.cell p0]; exact h4
  · rw [hb.cell p0]; exact h5
  · rw [hb.cell p0]; exact h6
  · rw [hb.cell p0]; exact h7
  · rw [hb.cell p0]; exact h8
  · rw [hb.cell p0]; exact h9
  · rw [hb.cell p1]; exact h10
  · rw [hb.cell p1]; exact h11
  · rw [hb.cell p1]; exact h12
  · rw [hb.cell p1]; exact h13
  · rw [hb.cell p1]; exact h14

/-- Whether items are records that may be looked at; a record and a window; all pairs. -/
def IwR.isB (x : IwR) : Bool := isRecB x.kd x.tm x.ke x.va x.nn

def recsB (xs : List IwR) : Bool := decide (xs.length ≤ 120) && xs.all IwR.isB

def mkP (x : IwR) (y : WnR) : LpR := ⟨x.kd, x.tm, x.ke, x.va, x.nn, y.a, y.b⟩

def prsOf (k z p : Int) (x : IwR) : List LpR := (winsOf k z p x.tm).map (mkP x)

def prsT (k z p : Int) (xs : List IwR) : List LpR := xs.flatMap (prsOf k z p)

def pairsT (s t k z p l e v r : Int) (xs : List IwR) : List LpR := if (okJob s t k z p l e v r && recsB xs) = true then prsT k z p xs else []

theorem take_snocI {α : Type} {xs : List α} {k : Nat} {x : α} (h : xs[k]? = some x) : xs.take (k + 1) = xs.take k ++ [x] := by
  obtain ⟨hk, he⟩ := List.getElem?_eq_some_iff.1 h
  rw [List.take_add_one, h]; rfl

theorem all_step {xs : List IwR} {k : Nat} {x : IwR} (h : xs[k]? = some x) (ha : (xs.take k).all IwR.isB = true) (hx : x.isB = true) : (xs.take (k + 1)).all IwR.isB = true := by
  rw [take_snocI h, List.all_append, ha]; simp [hx]

theorem all_no {xs : List IwR} {k : Nat} {x : IwR} (h : xs[k]? = some x) (hx : x.isB = false) : xs.all IwR.isB = false := by
  rw [List.all_eq_false]
  exact ⟨x, List.mem_of_getElem? h, by simp [hx]⟩

theorem recsB_len {xs : List IwR} (h : ¬ xs.length ≤ 120) : recsB xs = false := by simp [recsB, h]

theorem recsB_no {xs : List IwR} (h : xs.all IwR.isB = false) : recsB xs = false := by simp [recsB, h]

theorem recsB_ok {xs : List IwR} (h1 : xs.length ≤ 120) (h : xs.all IwR.isB = true) : recsB xs = true := by simp [recsB, h1, h]

theorem recsB_iff {xs : List IwR} (h : recsB xs = true) : xs.length ≤ 120 ∧ xs.all IwR.isB = true := by simpa [recsB] using h

theorem prsT_snoc {k z p : Int} {xs : List IwR} {i : Nat} {x : IwR} (h : xs[i]? = some x) : prsT k z p (xs.take (i + 1)) = prsT k z p (xs.take i) ++ prsOf k z p x := by
  unfold prsT; rw [take_snocI h, List.flatMap_append]; simp

theorem prsOf_len (k z p : Int) (x : IwR) : (prsOf k z p x).length ≤ 61 := by unfold prsOf; rw [List.length_map]; exact winsOf_len _ _ _ _

theorem prsT_len (k z p : Int) (xs : List IwR) : (prsT k z p xs).length ≤ xs.length * 61 := by
  induction xs with
  | nil => simp [prsT]
  | cons x r ih =>
    have e : prsT k z p (x :: r) = prsOf k z p x ++ prsT k z p r := by simp [prsT]
    have := prsOf_len k z p x
    rw [e, List.length_append, List.length_cons]
    omega

theorem isB_tm {x : IwR} (h : x.isB = true) : 0 ≤ x.tm ∧ x.tm ≤ 60 := by
  unfold IwR.isB isRecB okRec at h
  simp only [Bool.and_eq_true] at h
  exact inB_iff.1 h.2.1.1.1

theorem isB_n1 {x : IwR} (h : ¬ x.kd = 1) : x.isB = false := isRecB_n h _ _ _ _

theorem isB_e1 {x : IwR} (h : x.kd = 1) : x.isB = okItm x.kd x.tm x.ke x.va x.nn := by
  unfold IwR.isB; rw [h, isRecB_1, okItm_rec]

set_option maxRecDepth 20000 in
set_option maxHeartbeats 1000000 in
theorem l6recs_any (a : Option Addr) (len cap : Nat) (xs : List IwR) (w : World) (h : IwRs w a len xs) : Calls Tryz.prog 26 #[.slice a len cap] w fun e w' => e = .returned (.bool (recsB xs)) ∧ Below w.heap.size w w' := by
  have hm := h.2.1
  unfold maxLen at hm
  by_cases h120 : (len : Int) ≤ 120
  case neg =>
    have HV := hide (recsB_len (xs := xs) (by have := h.1; omega))
    go_enter Tryz.func26, Tryz.ntmps26
    go_wp2
    go_ret
    exact ⟨ret_b (unhide HV).symm, (belA)⟩
  go_enter Tryz.func26, Tryz.ntmps26
  go_wp2
  go_loopw [3] (fun i wr => ∃ j : Nat, j ≤ len ∧ i = .int .i64 j ∧ Hid ((xs.take j).all IwR.isB = true) ∧ Below w.heap.size w wr) (fun i _ => len - (intOf i).toNat)
  case atStart => exact ⟨0, Nat.zero_le _, rfl, hide rfl, Below.refl _ _⟩
  case round =>
    obtain ⟨j, hj, rfl, HA, hbw⟩ := hrel
    by_cases hlt : j < len
    · obtain ⟨hxl, _, hx⟩ := h
      obtain ⟨g, o, rfl, hr⟩ := hx.resolve_left (by omega)
      obtain ⟨x, hxk⟩ : ∃ x, xs[j]? = some x := ⟨_, List.getElem?_eq_getElem (by omega)⟩
      have hg : g < w.heap.size := hr.lt (by omega)
      have hX := hide hxk
      obtain ⟨d0, d1, d2, d3, d4⟩ := (hr j _ hxk).below hbw hg
      clear hx hxk hr
      by_cases k1 : x.kd = 1
      · cases hq : okItm x.kd x.tm x.ke x.va x.nn
        · have HV := hide (recsB_no (all_no (unhide hX) ((isB_e1 k1).trans hq)))
          have hq' : okItm 1 x.tm x.ke x.va x.nn = false := by rw [← k1]; exact hq
          clear hq
          go_wp2_with (go_at_call 42; refine (specitm_any _ _ _ _ _ _).mono ?_; rintro e w' ⟨rfl, hb⟩)
          go_ret
          exact ⟨ret_b (unhide HV).symm, (belA)⟩
        · have HA2 := hide (all_step (unhide hX) (unhide HA) ((isB_e1 k1).trans hq))
          have hq' : okItm 1 x.tm x.ke x.va x.nn = true := by rw [← k1]; exact hq
          clear hq
          go_wp2_with (go_at_call 42; refine (specitm_any _ _ _ _ _ _).mono ?_; rintro e w' ⟨rfl, hb⟩)
          go_roundw
          case rel => exact ⟨j + 1, by omega, by go_num, HA2, (belA)⟩
          case measure => simp [intOf]; omega
      · have HV := hide (recsB_no (all_no (unhide hX) (isB_n1 k1)))
        have k1' : (x.kd == 1) = false := by simpa using k1
        go_wp2_with (go_at_call 42; refine (specitm_any _ _ _ _ _ _).mono ?_; rintro e w' ⟨rfl, hb⟩)
        go_ret
        exact ⟨ret_b (unhide HV).symm, (belA)⟩
    · have HV := hide (recsB_ok (xs := xs) (by have := h.1; omega) (by have e := unhide HA; rw [List.take_of_length_le (by have := h.1; omega)] at e; exact e))
      go_wp2
      go_ret
      exact ⟨ret_b (unhide HV).symm, hbw⟩

theorem l4of_any (s t k z p l e : Int) (b : Bool) (v r : Int) (T : Int) (w : World) (hj : okJob s t k z p l e v r = true) (hT : 0 ≤ T ∧ T ≤ 60) : Calls Tryz.prog 27 #[.agg #[.int .i64 s, .int .i64 t, .int .i64 k, .int .i64 z, .int .i64 p, .int .i64 l, .int .i64 e, .bool b, .int .i64 v, .int .i64 r], .int .i64 T] w fun e' w' => ∃ v', e' = .returned v' ∧ OwnWn w' w.heap.size v' (winsOf k z p T) ∧ Below w.heap.size w w' := by
  obtain ⟨hk, hz, hp⟩ := okJob_parts hj
  rcases (show k = 1 ∨ k = 2 ∨ k = 3 by omega) with rfl | rfl | rfl
  · exact l4_1 s t z p l e b v r T hT hz w
  · rw [winsOf_2]
    exact specslide_any s t 2 z p l e b v r T hT hz (stepB_in hz hp) rfl w
  · exact l4_3 s t z p l e b v r T hT hz w
end Go.Proofs.YtikidpcgnmffcaaGreat
