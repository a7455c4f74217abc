/- Laid together: what the claim needs of the texts that were built one by one. -/
import Derived.Test.YtabphkmhafflbaaPkCkpS
import Derived.Test.YtabphkmhafflbaaPkOpOkI
import Derived.Deep.RegionHeld3
import Derived.Test.YtabphkmhafflbaaPkBase
namespace Go.Proofs.Ytabphkmhafflbaa
open Go.ChangeShapes Go.WideShapes Go.ChangeAt Go.RowKit Go.Deep
set_option linter.unusedVariables false

def okRngI (m : Int) : Bool := inB m (-1) 40

theorem markok_any (n : Int) (w : World) : Calls Try.prog 49 #[.int .i64 n] w fun e w' => e = .returned (.bool (okMk n)) ∧ Below w.heap.size w w' := by
  go_enter Try.func49, Try.ntmps49
  go_wp2_with (go_at_call 23; refine (within_any _ _ _ _).mono ?_; rintro e' w1 ⟨rfl, hw⟩; obtain rfl := hw.symm; clear hw)
  go_ret
  exact ⟨rfl, Below.refl _ _⟩

theorem atok_any (n : Int) (w : World) : Calls Try.prog 33 #[.int .i64 n] w fun e w' => e = .returned (.bool (okAtI n)) ∧ Below w.heap.size w w' := by
  go_enter Try.func33, Try.ntmps33
  go_wp2_with (go_at_call 23; refine (within_any _ _ _ _).mono ?_; rintro e' w1 ⟨rfl, hw⟩; obtain rfl := hw.symm; clear hw)
  go_ret
  exact ⟨rfl, Below.refl _ _⟩

theorem rngok_any (n : Int) (w : World) : Calls Try.prog 37 #[.int .i64 n] w fun e w' => e = .returned (.bool (okRngI n)) ∧ Below w.heap.size w w' := by
  go_enter Try.func37, Try.ntmps37
  go_wp2_with (go_at_call 23; refine (within_any _ _ _ _).mono ?_; rintro e' w1 ⟨rfl, hw⟩; obtain rfl := hw.symm; clear hw)
  go_ret
  exact ⟨rfl, Below.refl _ _⟩

set_option maxRecDepth 20000 in
set_option maxHeartbeats 1000000 in
theorem everyMk (a : Option Addr) (len cap : Nat) (xs : List Int) (w : World) (h : InRs w a len xs) : Calls Try.prog 32 #[.slice a len cap, .func (.func 49) #[] #[]] w fun e w' => e = .returned (.bool (xs.all okMk)) ∧ Below w.heap.size w w' := by
  have hm := h.2.1
  unfold maxLen at hm
  go_enter Try.func32, Try.ntmps32
  go_wp2
  go_loopw [9] (fun i wr => ∃ k : Nat, k ≤ len ∧ i = .int .i64 k ∧ Hid ((xs.take k).all okMk = true) ∧ Below w.heap.size w wr) (fun i _ => len - (intOf i).toNat)
  case atStart => exact ⟨0, Nat.zero_le _, rfl, hide (by simp), Below.refl _ _⟩
  case round =>
    obtain ⟨k, hk, rfl, hA, hbw⟩ := hrel
    by_cases hlt : k < len
    · obtain ⟨hxl, _, hx⟩ := h
      obtain ⟨g, o, rfl, hr⟩ := hx.resolve_left (by omega)
      obtain ⟨x, hxk⟩ : ∃ x, xs[k]? = some x := ⟨_, List.getElem?_eq_getElem (by omega)⟩
      have hX := hide hxk
      have d0 := (hbw.cell (p := ⟨g, o + k, none⟩) (hr.lt (by omega))).trans (hr k _ hxk)
      clear hx hxk hr
      cases hB : okMk x
      · have HE : Hid (xs.all okMk = false) := hide (all_ff (unhide hX) hB)
        go_wp2_with (go_at_call 49; refine (markok_any _ _).mono ?_; rw [hB]; rintro e wf ⟨rfl, hbf⟩)
        go_ret
        exact ⟨ret_b (unhide HE).symm, (belA)⟩
      · have HE : Hid ((xs.take (k + 1)).all okMk = true) := hide (all_tt (unhide hA) (unhide hX) hB)
        go_wp2_with (go_at_call 49; refine (markok_any _ _).mono ?_; rw [hB]; rintro e wf ⟨rfl, hbf⟩)
        go_roundw
        case rel => exact ⟨k + 1, by omega, by go_num, HE, (belA)⟩
        case measure => simp [intOf]; omega
    · have HE : Hid (xs.all okMk = true) := hide (by have h1 := unhide hA; rwa [List.take_of_length_le (by have := h.1; omega)] at h1)
      go_wp2
      go_ret
      exact ⟨ret_b (unhide HE).symm, hbw⟩

set_option maxRecDepth 20000 in
set_option maxHeartbeats 1000000 in
theorem everyAt (a : Option Addr) (len cap : Nat) (xs : List Int) (w : World) (h : InRs w a len xs) : Calls Try.prog 32 #[.slice a len cap, .func (.func 33) #[] #[]] w fun e w' => e = .returned (.bool (xs.all okAtI)) ∧ Below w.heap.size w w' := by
  have hm := h.2.1
  unfold maxLen at hm
  go_enter Try.func32, Try.ntmps32
  go_wp2
  go_loopw [9] (fun i wr => ∃ k : Nat, k ≤ len ∧ i = .int .i64 k ∧ Hid ((xs.take k).all okAtI = true) ∧ Below w.heap.size w wr) (fun i _ => len - (intOf i).toNat)
  case atStart => exact ⟨0, Nat.zero_le _, rfl, hide (by simp), Below.refl _ _⟩
  case round =>
    obtain ⟨k, hk, rfl, hA, hbw⟩ := hrel
    by_cases hlt : k < len
    · obtain ⟨hxl, _, hx⟩ := h
      obtain ⟨g, o, rfl, hr⟩ := hx.resolve_left (by omega)
      obtain ⟨x, hxk⟩ : ∃ x, xs[k]? = some x := ⟨_, List.getElem?_eq_getElem (by omega)⟩
      have hX := hide hxk
      have d0 := (hbw.cell (p := ⟨g, o + k, none⟩) (hr.lt (by omega))).trans (hr k _ hxk)
      clear hx hxk hr
      cases hB : okAtI x
      · have HE : Hid (xs.all okAtI = false) := hide (all_ff (unhide hX) hB)
        go_wp2_with (go_at_call 33; refine (atok_any _ _).mono ?_; rw [hB]; rintro e wf ⟨rfl, hbf⟩)
        go_ret
        exact ⟨ret_b (unhide HE).symm, (belA)⟩
      · have HE : Hid ((xs.take (k + 1)).all okAtI = true) := hide (all_tt (unhide hA) (unhide hX) hB)
        go_wp2_with (go_at_call 33; refine (atok_any _ _).mono ?_; rw [hB]; rintro e wf ⟨rfl, hbf⟩)
        go_roundw
        case rel => exact ⟨k + 1, by omega, by go_num, HE, (belA)⟩
        case measure => simp [intOf]; omega
    · have HE : Hid (xs.all okAtI = true) := hide (by have h1 := unhide hA; rwa [List.take_of_length_le (by have := h.1; omega)] at h1)
      go_wp2
      go_ret
      exact ⟨ret_b (unhide HE).symm, hbw⟩

set_option maxRecDepth 20000 in
set_option maxHeartbeats 1000000 in
theorem everyRng (a : Option Addr) (len cap : Nat) (xs : List Int) (w : World) (h : InRs w a len xs) : Calls Try.prog 32 #[.slice a len cap, .func (.func 37) #[] #[]] w fun e w' => e = .returned (.bool (xs.all okRngI)) ∧ Below w.heap.size w w' := by
  have hm := h.2.1
  unfold maxLen at hm
  go_enter Try.func32, Try.ntmps32
  go_wp2
  go_loopw [9] (fun i wr => ∃ k : Nat, k ≤ len ∧ i = .int .i64 k ∧ Hid ((xs.take k).all okRngI = true) ∧ Below w.heap.size w wr) (fun i _ => len - (intOf i).toNat)
  case atStart => exact ⟨0, Nat.zero_le _, rfl, hide (by simp), Below.refl _ _⟩
  case round =>
    obtain ⟨k, hk, rfl, hA, hbw⟩ := hrel
    by_cases hlt : k < len
    · obtain ⟨hxl, _, hx⟩ := h
      obtain ⟨g, o, rfl, hr⟩ := hx.resolve_left (by omega)
      obtain ⟨x, hxk⟩ : ∃ x, xs[k]? = some x := ⟨_, List.getElem?_eq_getElem (by omega)⟩
      have hX := hide hxk
      have d0 := (hbw.cell (p := ⟨g, o + k, none⟩) (hr.lt (by omega))).trans (hr k _ hxk)
      clear hx hxk hr
      cases hB : okRngI x
      · have HE : Hid (xs.all okRngI = false) := hide (all_ff (unhide hX) hB)
        go_wp2_with (go_at_call 37; refine (rngok_any _ _).mono ?_; rw [hB]; rintro e wf ⟨rfl, hbf⟩)
        go_ret
        exact ⟨ret_b (unhide HE).symm, (belA)⟩
      · have HE : Hid ((xs.take (k + 1)).all okRngI = true) := hide (all_tt (unhide hA) (unhide hX) hB)
        go_wp2_with (go_at_call 37; refine (rngok_any _ _).mono ?_; rw [hB]; rintro e wf ⟨rfl, hbf⟩)
        go_roundw
        case rel => exact ⟨k + 1, by omega, by go_num, HE, (belA)⟩
        case measure => simp [intOf]; omega
    · have HE : Hid (xs.all okRngI = true) := hide (by have h1 := unhide hA; rwa [List.take_of_length_le (by have := h.1; omega)] at h1)
      go_wp2
      go_ret
      exact ⟨ret_b (unhide HE).symm, hbw⟩

/-- The least of ints. -/
def minL : List Int → Int
  | [] => 0
  | m :: r => r.foldl loI m

theorem minL_take {ms : List Int} {k : Nat} {m : Int} (h0 : 1 ≤ k) (h : ms[k]? = some m) : minL (ms.take (k + 1)) = loI (minL (ms.take k)) m := by
  obtain ⟨hk, he⟩ := List.getElem?_eq_some_iff.1 h
  rw [List.take_succ_eq_append_getElem hk, he]
  cases ms with
  | nil => simp at hk
  | cons a r =>
    obtain ⟨k', rfl⟩ : ∃ k', k = k' + 1 := ⟨k - 1, by omega⟩
    simp [minL, List.foldl_append]

theorem minL_low {ms : List Int} (h : ms.all okMk = true) (h0 : 0 < ms.length) : minL ms = lowM ms := by
  cases ms with
  | nil => simp at h0
  | cons m r =>
    have hm : okMk m = true := by simp at h; exact h.1
    have hb := inB_iff.1 hm
    have e : loI 1000 m = m := by unfold loI; split <;> omega
    show r.foldl loI m = r.foldl loI (loI 1000 m)
    rw [e]

set_option maxRecDepth 20000 in
set_option maxHeartbeats 1000000 in
theorem min_any (a : Option Addr) (len cap : Nat) (xs : List Int) (w : World) (h : InRs w a len xs) (h0 : 0 < len) : Calls Try.prog 50 #[.slice a len cap] w fun e w' => e = .returned (.int .i64 (minL xs)) ∧ Below w.heap.size w w' := by
  have hm := h.2.1
  unfold maxLen at hm
  obtain ⟨hxl, _, hx⟩ := h
  obtain ⟨g, o, rfl, hr⟩ := hx.resolve_left (by omega)
  have hg := hr.lt (by omega)
  obtain ⟨x0, hx0⟩ : ∃ x, xs[0]? = some x := ⟨_, List.getElem?_eq_getElem (by omega)⟩
  have c0 := hr 0 _ hx0
  have hM : Hid (minL (xs.take 1) = x0) := hide (by cases xs with | nil => simp at hx0 | cons q r => simp at hx0; subst hx0; rfl)
  rw [Nat.add_zero] at c0
  have hn1 : ¬ (len : Int) < 1 := by omega
  go_enter Try.func50, Try.ntmps50
  go_wp2
  go_loopw [3, 4] (fun mv i wr => ∃ k : Nat, 1 ≤ k ∧ k ≤ len ∧ i = .int .i64 k ∧ mv = .int .i64 (minL (xs.take k)) ∧ Below w.heap.size w wr) (fun _ i _ => len - (intOf i).toNat)
  case atStart => exact ⟨1, Nat.le_refl _, by omega, rfl, by rw [unhide hM], Below.refl _ _⟩
  case round =>
    obtain ⟨k, hk1, hk, rfl, rfl, hbw⟩ := hrel
    by_cases hlt : k < len
    · obtain ⟨x, hxk⟩ : ∃ x, xs[k]? = some x := ⟨_, List.getElem?_eq_getElem (by omega)⟩
      have d0 := (hbw.cell (p := ⟨g, o + k, none⟩) hg).trans (hr k _ hxk)
      have hmt := minL_take hk1 hxk
      generalize minL (xs.take k) = lo at hmt
      have HM := hide hmt
      have hltI : (k : Int) < (len : Int) := by omega
      clear hxk hmt hr hx hx0
      by_cases hc : x < lo
      · have HL : Hid (minL (xs.take (k + 1)) = x) := hide (by rw [unhide HM, loI_c hc])
        go_wp2
        go_roundw
        case rel => exact ⟨k + 1, by omega, by omega, by go_num, by rw [unhide HL], (belA)⟩
        case measure => simp [intOf]; omega
      · have HL : Hid (minL (xs.take (k + 1)) = lo) := hide (by rw [unhide HM, loI_a hc])
        go_wp2
        go_roundw
        case rel => exact ⟨k + 1, by omega, by omega, by go_num, by rw [unhide HL], (belA)⟩
        case measure => simp [intOf]; omega
    · have HE : Hid (minL (xs.take k) = minL xs) := hide (by rw [List.take_of_length_le (by omega)])
      go_wp2
      go_ret
      exact ⟨ret_i (unhide HE), (belA)⟩

theorem hd_3_10 {b0 b1 o0x0 o0x1 o0x2 o1x0 o1x1 o1x2 o1x3 o1x4 o1x5 o1x6 o1x7 o1x8 o1x9 : Nat} {v0x0 v0x1 v0x2 v1x0 v1x1 v1x2 v1x3 v1x4 v1x5 v1x6 v1x7 v1x8 v1x9 : Value} {W W' : World} (h : ((W.cell? ⟨b0, o0x0, none⟩ = some (v0x0) ∧ W.cell? ⟨b0, o0x1, none⟩ = some (v0x1) ∧ W.cell? ⟨b0, o0x2, none⟩ = some (v0x2) ∧ W.cell? ⟨b1, o1x0, none⟩ = some (v1x0) ∧ W.cell? ⟨b1, o1x1, none⟩ = some (v1x1) ∧ W.cell? ⟨b1, o1x2, none⟩ = some (v1x2) ∧ W.cell? ⟨b1, o1x3, none⟩ = some (v1x3) ∧ W.cell? ⟨b1, o1x4, none⟩ = some (v1x4) ∧ W.cell? ⟨b1, o1x5, none⟩ = some (v1x5) ∧ W.cell? ⟨b1, o1x6, none⟩ = some (v1x6) ∧ W.cell? ⟨b1, o1x7, none⟩ = some (v1x7) ∧ W.cell? ⟨b1, o1x8, none⟩ = some (v1x8) ∧ W.cell? ⟨b1, o1x9, none⟩ = some (v1x9)) ∧ b0 < W.heap.size ∧ b1 < W.heap.size)) (hb : Below W.heap.size W W') : ((W'.cell? ⟨b0, o0x0, none⟩ = some (v0x0) ∧ W'.cell? ⟨b0, o0x1, none⟩ = some (v0x1) ∧ W'.cell? ⟨b0, o0x2, none⟩ = some (v0x2) ∧ W'.cell? ⟨b1, o1x0, none⟩ = some (v1x0) ∧ W'.cell? ⟨b1, o1x1, none⟩ = some (v1x1) ∧ W'.cell? ⟨b1, o1x2, none⟩ = some (v1x2) ∧ W'.cell? ⟨b1, o1x3, none⟩ = some (v1x3) ∧ W'.cell? ⟨b1, o1x4, none⟩ = some (v1x4) ∧ W'.cell? ⟨b1, o1x5, none⟩ = some (v1x5) ∧ W'.cell? ⟨b1, o1x6, none⟩ = some (v1x6) ∧ W'.cell? ⟨b1, o1x7, none⟩ = some (v1x7) ∧ W'.cell? ⟨b1, o1x8, none⟩ = some (v1x8) ∧ W'.cell? ⟨b1, o1x9, none⟩ = some (v1x9)) ∧ b0 < W'.heap.size ∧ b1 < W'.heap.size) := by
  obtain ⟨⟨h0, h1, h2, h3, h4, h5, h6, h7, h8, h9, h10, h11, h12⟩, s0, s1⟩ := h
  refine ⟨⟨?_, ?_, ?_, ?_, ?_, ?_, ?_, ?_, ?_, ?_, ?_, ?_, ?_⟩, Nat.lt_of_lt_of_le s0 hb.size, Nat.lt_of_lt_of_le s1 hb.size⟩
  · rw [hb.cell s0]; exact h0
  · rw [hb.cell s0]; exact h1
  · rw [hb.cell s0]; exact h2
  · rw [hb.cell s1]; exact h3
  · rw [hb.cell s1]; exact h4
  · rw [hb.cell s1]; exact h5
  · rw [hb.cell s1]; exact h6
  · rw [hb.cell s1]; exact h7
  · rw [hb.cell s1]; exact h8
  · rw [hb.cell s1]; exact h9
  · rw [hb.cell s1]; exact h10
  · rw [hb.cell s1]; exact h11
  · rw [hb.cell s1]; exact h12

theorem hd_3_10_set {b0 b1 o0x0 o0x1 o0x2 o1x0 o1x1 o1x2 o1x3 o1x4 o1x5 o1x6 o1x7 o1x8 o1x9 : Nat} {v0x0 v0x1 v0x2 v1x0 v1x1 v1x2 v1x3 v1x4 v1x5 v1x6 v1x7 v1x8 v1x9 : Value} {W : World} {p : Addr} (h : ((W.cell? ⟨b0, o0x0, none⟩ = some (v0x0) ∧ W.cell? ⟨b0, o0x1, none⟩ = some (v0x1) ∧ W.cell? ⟨b0, o0x2, none⟩ = some (v0x2) ∧ W.cell? ⟨b1, o1x0, none⟩ = some (v1x0) ∧ W.cell? ⟨b1, o1x1, none⟩ = some (v1x1) ∧ W.cell? ⟨b1, o1x2, none⟩ = some (v1x2) ∧ W.cell? ⟨b1, o1x3, none⟩ = some (v1x3) ∧ W.cell? ⟨b1, o1x4, none⟩ = some (v1x4) ∧ W.cell? ⟨b1, o1x5, none⟩ = some (v1x5) ∧ W.cell? ⟨b1, o1x6, none⟩ = some (v1x6) ∧ W.cell? ⟨b1, o1x7, none⟩ = some (v1x7) ∧ W.cell? ⟨b1, o1x8, none⟩ = some (v1x8) ∧ W.cell? ⟨b1, o1x9, none⟩ = some (v1x9)) ∧ b0 < W.heap.size ∧ b1 < W.heap.size)) (p0 : p.block ≠ b0) (p1 : p.block ≠ b1) (u : Value) : (((W.setCell p u).cell? ⟨b0, o0x0, none⟩ = some (v0x0) ∧ (W.setCell p u).cell? ⟨b0, o0x1, none⟩ = some (v0x1) ∧ (W.setCell p u).cell? ⟨b0, o0x2, none⟩ = some (v0x2) ∧ (W.setCell p u).cell? ⟨b1, o1x0, none⟩ = some (v1x0) ∧ (W.setCell p u).cell? ⟨b1, o1x1, none⟩ = some (v1x1) ∧ (W.setCell p u).cell? ⟨b1, o1x2, none⟩ = some (v1x2) ∧ (W.setCell p u).cell? ⟨b1, o1x3, none⟩ = some (v1x3) ∧ (W.setCell p u).cell? ⟨b1, o1x4, none⟩ = some (v1x4) ∧ (W.setCell p u).cell? ⟨b1, o1x5, none⟩ = some (v1x5) ∧ (W.setCell p u).cell? ⟨b1, o1x6, none⟩ = some (v1x6) ∧ (W.setCell p u).cell? ⟨b1, o1x7, none⟩ = some (v1x7) ∧ (W.setCell p u).cell? ⟨b1, o1x8, none⟩ = some (v1x8) ∧ (W.setCell p u).cell? ⟨b1, o1x9, none⟩ = some (v1x9)) ∧ b0 < (W.setCell p u).heap.size ∧ b1 < (W.setCell p u).heap.size) := by
  obtain ⟨⟨h0, h1, h2, h3, h4, h5, h6, h7, h8, h9, h10, h11, h12⟩, s0, s1⟩ := h
  have hb : W.heap.size ≤ (W.setCell p u).heap.size := by simp [World.setCell]
  refine ⟨⟨?_, ?_, ?_, ?_, ?_, ?_, ?_, ?_, ?_, ?_, ?_, ?_, ?_⟩, Nat.lt_of_lt_of_le s0 hb, Nat.lt_of_lt_of_le s1 hb⟩
  · rw [cell_set_ne p0]; exact h0
  · rw [cell_set_ne p0]; exact h1
  · rw [cell_set_ne p0]; exact h2
  · rw [cell_set_ne p1]; exact h3
  · rw [cell_set_ne p1]; exact h4
  · rw [cell_set_ne p1]; exact h5
  · rw [cell_set_ne p1]; exact h6
  · rw [cell_set_ne p1]; exact h7
  · rw [cell_set_ne p1]; exact h8
  · rw [cell_set_ne p1]; exact h9
  · rw [cell_set_ne p1]; exact h10
  · rw [cell_set_ne p1]; exact h11
  · rw [cell_set_ne p1]; exact h12

theorem hd_3_10_re {b0 b1 o0x0 o0x1 o0x2 o1x0 o1x1 o1x2 o1x3 o1x4 o1x5 o1x6 o1x7 o1x8 o1x9 : Nat} {v0x0 v0x1 v0x2 v1x0 v1x1 v1x2 v1x3 v1x4 v1x5 v1x6 v1x7 v1x8 v1x9 : Value} {W : World} {o o' : Obj} (h : (((W.alloc o).cell? ⟨b0, o0x0, none⟩ = some (v0x0) ∧ (W.alloc o).cell? ⟨b0, o0x1, none⟩ = some (v0x1) ∧ (W.alloc o).cell? ⟨b0, o0x2, none⟩ = some (v0x2) ∧ (W.alloc o).cell? ⟨b1, o1x0, none⟩ = some (v1x0) ∧ (W.alloc o).cell? ⟨b1, o1x1, none⟩ = some (v1x1) ∧ (W.alloc o).cell? ⟨b1, o1x2, none⟩ = some (v1x2) ∧ (W.alloc o).cell? ⟨b1, o1x3, none⟩ = some (v1x3) ∧ (W.alloc o).cell? ⟨b1, o1x4, none⟩ = some (v1x4) ∧ (W.alloc o).cell? ⟨b1, o1x5, none⟩ = some (v1x5) ∧ (W.alloc o).cell? ⟨b1, o1x6, none⟩ = some (v1x6) ∧ (W.alloc o).cell? ⟨b1, o1x7, none⟩ = some (v1x7) ∧ (W.alloc o).cell? ⟨b1, o1x8, none⟩ = some (v1x8) ∧ (W.alloc o).cell? ⟨b1, o1x9, none⟩ = some (v1x9)) ∧ b0 < (W.alloc o).heap.size ∧ b1 < (W.alloc o).heap.size)) (p0 : b0 < W.heap.size) (p1 : b1 < W.heap.size) : (((W.alloc o').cell? ⟨b0, o0x0, none⟩ = some (v0x0) ∧ (W.alloc o').cell? ⟨b0, o0x1, none⟩ = some (v0x1) ∧ (W.alloc o').cell? ⟨b0, o0x2, none⟩ = some (v0x2) ∧ (W.alloc o').cell? ⟨b1, o1x0, none⟩ = some (v1x0) ∧ (W.alloc o').cell? ⟨b1, o1x1, none⟩ = some (v1x1) ∧ (W.alloc o').cell? ⟨b1, o1x2, none⟩ = some (v1x2) ∧ (W.alloc o').cell? ⟨b1, o1x3, none⟩ = some (v1x3) ∧ (W.alloc o').cell? ⟨b1, o1x4, none⟩ = some (v1x4) ∧ (W.alloc o').cell? ⟨b1, o1x5, none⟩ = some (v1x5) ∧ (W.alloc o').cell? ⟨b1, o1x6, none⟩ = some (v1x6) ∧ (W.alloc o').cell? ⟨b1, o1x7, none⟩ = some (v1x7) ∧ (W.alloc o').cell? ⟨b1, o1x8, none⟩ = some (v1x8) ∧ (W.alloc o').cell? ⟨b1, o1x9, none⟩ = some (v1x9)) ∧ b0 < (W.alloc o').heap.size ∧ b1 < (W.alloc o').heap.size) := by
  obtain ⟨⟨h0, h1, h2, h3, h4, h5, h6, h7, h8, h9, h10, h11, h12⟩, s0, s1⟩ := h
  have hb : Below W.heap.size (W.alloc o) (W.alloc o') := bel_re W o o'
  refine ⟨⟨?_, ?_, ?_, ?_, ?_, ?_, ?_, ?_, ?_, ?_, ?_, ?_, ?_⟩, Nat.lt_of_lt_of_le s0 hb.size, Nat.lt_of_lt_of_le s1 hb.size⟩
  · rw [hb.cell p0]; exact h0
  · rw [hb.cell p0]; exact h1
  · rw [hb.cell p0]; exact h2
  · rw [hb.cell p1]; exact h3
  · rw [hb.cell p1]; exact h4
  · rw [hb.cell p1]; exact h5
  · rw [hb.cell p1]; exact h6
  · rw [hb.cell p1]; exact h7
  · rw [hb.cell p1]; exact h8
  · rw [hb.cell p1]; exact h9
  · rw [hb.cell p1]; exact h10
  · rw [hb.cell p1]; exact h11
  · rw [hb.cell p1]; exact h12

set_option linter.unusedSimpArgs false in
set_option maxRecDepth 20000 in
set_option maxHeartbeats 4000000 in
theorem snapok_any (s t k z p l e : Int) (b : Bool) (v r : Int) (x : SnD) (a1 : Option Addr) (l1 c1 : Nat) (a2 : Option Addr) (l2 c2 : Nat) (B : Nat) (w : World) (h1 : OrB w B a1 l1 x.rows) (h2 : InB w B a2 l2 x.marks) : Calls Try.prog 36 #[.agg #[.int .i64 x.ma, .slice a1 l1 c1, .slice a2 l2 c2], .agg #[.int .i64 s, .int .i64 t, .int .i64 k, .int .i64 z, .int .i64 p, .int .i64 l, .int .i64 e, .bool b, .int .i64 v, .int .i64 r]] w fun e' w' => e' = .returned (.bool (okSn s t k z p l e v r x)) ∧ Below w.heap.size w w' := by
  have le2 := h2.len.1
  have hm2 := h2.len.2
  unfold maxLen at hm2
  cases ho : okOp s t k z p l e v r x.ma x.rows
  · skip
    have HE : Hid (okSn s t k z p l e v r x = false) := hide (by unfold okSn; rw [ho]; rfl)
    go_enter Try.func36, Try.ntmps36
    go_wp2_with fail
    refine wp_region_held_drew (S := (fun W => ((W.cell? ⟨w.heap.size, 0, none⟩ = some (.int .i64 x.ma) ∧ W.cell? ⟨w.heap.size, 1, none⟩ = some (.slice a1 l1 c1) ∧ W.cell? ⟨w.heap.size, 2, none⟩ = some (.slice a2 l2 c2) ∧ W.cell? ⟨w.heap.size + 1, 0, none⟩ = some (.int .i64 s) ∧ W.cell? ⟨w.heap.size + 1, 1, none⟩ = some (.int .i64 t) ∧ W.cell? ⟨w.heap.size + 1, 2, none⟩ = some (.int .i64 k) ∧ W.cell? ⟨w.heap.size + 1, 3, none⟩ = some (.int .i64 z) ∧ W.cell? ⟨w.heap.size + 1, 4, none⟩ = some (.int .i64 p) ∧ W.cell? ⟨w.heap.size + 1, 5, none⟩ = some (.int .i64 l) ∧ W.cell? ⟨w.heap.size + 1, 6, none⟩ = some (.int .i64 e) ∧ W.cell? ⟨w.heap.size + 1, 7, none⟩ = some (.bool b) ∧ W.cell? ⟨w.heap.size + 1, 8, none⟩ = some (.int .i64 v) ∧ W.cell? ⟨w.heap.size + 1, 9, none⟩ = some (.int .i64 r)) ∧ w.heap.size < W.heap.size ∧ w.heap.size + 1 < W.heap.size))) (by kernel_rfl) ?_ (fun hHeld => ?_)
    · (try dsimp only); ((first | ((repeat (first | (with_reducible assumption) | (with_reducible refine hd_3_10 ?_ (by with_reducible assumption)) | (with_reducible refine hd_3_10 ?_ (bel_drew (Below.refl _ _))) | (with_reducible exact hd_3_10_re (by with_reducible assumption) (sB) (sB)) | (with_reducible refine hd_3_10 ?_ (bel_one _ _)) | (with_reducible refine hd_3_10_set ?_ (sB) (sB) _))); done) | (refine ⟨⟨?_, ?_, ?_, ?_, ?_, ?_, ?_, ?_, ?_, ?_, ?_, ?_, ?_⟩, ?_, ?_⟩ <;> first | (go_keep; done) | (simp; done) | (simp; omega) | omega)))
    refine kT 0 ?_ ?_ ?_
    rotate_left
    · (intro w9 hSw; (try dsimp only at hSw); go_simp <;> with_reducible rfl)
    try simp only [Act.put, tA, tZ, tS]
    refine kT 1 ?_ ?_ ?_
    rotate_left
    · (intro w9 hSw; (try dsimp only at hSw); go_simp <;> with_reducible rfl)
    try simp only [Act.put, tA, tZ, tS]
    refine kT 2 ?_ ?_ ?_
    rotate_left
    · (intro w9 hSw; (try dsimp only at hSw); go_simp <;> with_reducible rfl)
    try simp only [Act.put, tA, tZ, tS]
    refine wpAnyH_ready (rs := [3]) (by kernel_rfl) (by simp) ?_
    refine AllReadyH.cons (by simp only [gA, gZ, gS]; rfl) (fun K hK => ?_) AllReadyH.nil
    go_simp
    (go_at_call 48; refine (implopok_any s t k z p l e b v r x.ma a1 l1 c1 x.rows _ (h1.1.below (belA))).mono ?_; rw [ho]; rintro e' y1 ⟨rfl, hb⟩; obtain ⟨hc, hf, hs⟩ := bcell hb)
    (try go_wp2_with fail)
    refine hK.out _ _ ?_ (fun hHeld2 => ?_)
    · (try dsimp only); ((first | ((repeat (first | (with_reducible assumption) | (with_reducible refine hd_3_10 ?_ (by with_reducible assumption)) | (with_reducible refine hd_3_10 ?_ (bel_drew (Below.refl _ _))) | (with_reducible exact hd_3_10_re (by with_reducible assumption) (sB) (sB)) | (with_reducible refine hd_3_10 ?_ (bel_one _ _)) | (with_reducible refine hd_3_10_set ?_ (sB) (sB) _))); done) | (refine ⟨⟨?_, ?_, ?_, ?_, ?_, ?_, ?_, ?_, ?_, ?_, ?_, ?_, ?_⟩, ?_, ?_⟩ <;> first | (go_keep; done) | (simp; done) | (simp; omega) | omega)))
    clear hK K hHeld
    have hHeld := hHeld2
    clear hHeld2
    try simp only [Act.put, tA, tZ, tS]
    refine kT 4 ?_ ?_ ?_
    rotate_left
    · (intro w9 hSw; (try dsimp only at hSw); go_simp <;> with_reducible rfl)
    try simp only [Act.put, tA, tZ, tS]
    refine kU 5 ?_
    try simp only [Act.put, tA, tZ, tS]
    refine kU 6 ?_
    try simp only [Act.put, tA, tZ, tS]
    refine kU 7 ?_
    try simp only [Act.put, tA, tZ, tS]
    refine kU 8 ?_
    try simp only [Act.put, tA, tZ, tS]
    refine kU 9 ?_
    try simp only [Act.put, tA, tZ, tS]
    refine kU 10 ?_
    try simp only [Act.put, tA, tZ, tS]
    refine kT 11 ?_ ?_ ?_
    rotate_left
    · (intro w9 hSw; (try dsimp only at hSw); go_simp <;> with_reducible rfl)
    try simp only [Act.put, tA, tZ, tS]
    refine kT 12 ?_ ?_ ?_
    rotate_left
    · (intro w9 hSw; (try dsimp only at hSw); go_simp <;> with_reducible rfl)
    try simp only [Act.put, tA, tZ, tS]
    refine kU 13 ?_
    try simp only [Act.put, tA, tZ, tS]
    refine kU 14 ?_
    try simp only [Act.put, tA, tZ, tS]
    refine kU 15 ?_
    try simp only [Act.put, tA, tZ, tS]
    refine kT 16 ?_ ?_ ?_
    rotate_left
    · (intro w9 hSw; (try dsimp only at hSw); go_simp <;> with_reducible rfl)
    try simp only [Act.put, tA, tZ, tS]
    refine kT 17 ?_ ?_ ?_
    rotate_left
    · (intro w9 hSw; (try dsimp only at hSw); go_simp <;> with_reducible rfl)
    try simp only [Act.put, tA, tZ, tS]
    refine kU 18 ?_
    try simp only [Act.put, tA, tZ, tS]
    refine kU 19 ?_
    try simp only [Act.put, tA, tZ, tS]
    refine kU 20 ?_
    try simp only [Act.put, tA, tZ, tS]
    refine kU 21 ?_
    try simp only [Act.put, tA, tZ, tS]
    refine kU 22 ?_
    try simp only [Act.put, tA, tZ, tS]
    refine kU 23 ?_
    try simp only [Act.put, tA, tZ, tS]
    refine kU 24 ?_
    try simp only [Act.put, tA, tZ, tS]
    refine kT 25 ?_ ?_ ?_
    rotate_left
    · (intro w9 hSw; (try dsimp only at hSw); go_simp <;> with_reducible rfl)
    try simp only [Act.put, tA, tZ, tS]
    refine kT 26 ?_ ?_ ?_
    rotate_left
    · (intro w9 hSw; (try dsimp only at hSw); go_simp <;> with_reducible rfl)
    try simp only [Act.put, tA, tZ, tS]
    refine wpAnyH_done (by kernel_rfl) ?_ _
    go_wp2
    go_ret
    exact ⟨ret_b (unhide HE).symm, (belA)⟩
  by_cases hl : (l2 : Int) = s
  rotate_left
  · have hl1 : ((l2 : Int) == s) = false := beq_eq_false_iff_ne.2 hl
    have HE : Hid (okSn s t k z p l e v r x = false) := hide (by unfold okSn; rw [ho, decide_eq_false (by rw [le2]; exact hl)]; rfl)
    go_enter Try.func36, Try.ntmps36
    go_wp2_with fail
    refine wp_region_held_drew (S := (fun W => ((W.cell? ⟨w.heap.size, 0, none⟩ = some (.int .i64 x.ma) ∧ W.cell? ⟨w.heap.size, 1, none⟩ = some (.slice a1 l1 c1) ∧ W.cell? ⟨w.heap.size, 2, none⟩ = some (.slice a2 l2 c2) ∧ W.cell? ⟨w.heap.size + 1, 0, none⟩ = some (.int .i64 s) ∧ W.cell? ⟨w.heap.size + 1, 1, none⟩ = some (.int .i64 t) ∧ W.cell? ⟨w.heap.size + 1, 2, none⟩ = some (.int .i64 k) ∧ W.cell? ⟨w.heap.size + 1, 3, none⟩ = some (.int .i64 z) ∧ W.cell? ⟨w.heap.size + 1, 4, none⟩ = some (.int .i64 p) ∧ W.cell? ⟨w.heap.size + 1, 5, none⟩ = some (.int .i64 l) ∧ W.cell? ⟨w.heap.size + 1, 6, none⟩ = some (.int .i64 e) ∧ W.cell? ⟨w.heap.size + 1, 7, none⟩ = some (.bool b) ∧ W.cell? ⟨w.heap.size + 1, 8, none⟩ = some (.int .i64 v) ∧ W.cell? ⟨w.heap.size + 1, 9, none⟩ = some (.int .i64 r)) ∧ w.heap.size < W.heap.size ∧ w.heap.size + 1 < W.heap.size))) (by kernel_rfl) ?_ (fun hHeld => ?_)
    · (try dsimp only); ((first | ((repeat (first | (with_reducible assumption) | (with_reducible refine hd_3_10 ?_ (by with_reducible assumption)) | (with_reducible refine hd_3_10 ?_ (bel_drew (Below.refl _ _))) | (with_reducible exact hd_3_10_re (by with_reducible assumption) (sB) (sB)) | (with_reducible refine hd_3_10 ?_ (bel_one _ _)) | (with_reducible refine hd_3_10_set ?_ (sB) (sB) _))); done) | (refine ⟨⟨?_, ?_, ?_, ?_, ?_, ?_, ?_, ?_, ?_, ?_, ?_, ?_, ?_⟩, ?_, ?_⟩ <;> first | (go_keep; done) | (simp; done) | (simp; omega) | omega)))
    refine kT 0 ?_ ?_ ?_
    rotate_left
    · (intro w9 hSw; (try dsimp only at hSw); go_simp <;> with_reducible rfl)
    try simp only [Act.put, tA, tZ, tS]
    refine kT 1 ?_ ?_ ?_
    rotate_left
    · (intro w9 hSw; (try dsimp only at hSw); go_simp <;> with_reducible rfl)
    try simp only [Act.put, tA, tZ, tS]
    refine kT 2 ?_ ?_ ?_
    rotate_left
    · (intro w9 hSw; (try dsimp only at hSw); go_simp <;> with_reducible rfl)
    try simp only [Act.put, tA, tZ, tS]
    refine wpAnyH_ready (rs := [3]) (by kernel_rfl) (by simp) ?_
    refine AllReadyH.cons (by simp only [gA, gZ, gS]; rfl) (fun K hK => ?_) AllReadyH.nil
    go_simp
    (go_at_call 48; refine (implopok_any s t k z p l e b v r x.ma a1 l1 c1 x.rows _ (h1.1.below (belA))).mono ?_; rw [ho]; rintro e' y1 ⟨rfl, hb⟩; obtain ⟨hc, hf, hs⟩ := bcell hb)
    (try go_wp2_with fail)
    refine hK.out _ _ ?_ (fun hHeld2 => ?_)
    · (try dsimp only); ((first | ((repeat (first | (with_reducible assumption) | (with_reducible refine hd_3_10 ?_ (by with_reducible assumption)) | (with_reducible refine hd_3_10 ?_ (bel_drew (Below.refl _ _))) | (with_reducible exact hd_3_10_re (by with_reducible assumption) (sB) (sB)) | (with_reducible refine hd_3_10 ?_ (bel_one _ _)) | (with_reducible refine hd_3_10_set ?_ (sB) (sB) _))); done) | (refine ⟨⟨?_, ?_, ?_, ?_, ?_, ?_, ?_, ?_, ?_, ?_, ?_, ?_, ?_⟩, ?_, ?_⟩ <;> first | (go_keep; done) | (simp; done) | (simp; omega) | omega)))
    clear hK K hHeld
    have hHeld := hHeld2
    clear hHeld2
    try simp only [Act.put, tA, tZ, tS]
    refine kT 4 ?_ ?_ ?_
    rotate_left
    · (intro w9 hSw; (try dsimp only at hSw); go_simp <;> with_reducible rfl)
    try simp only [Act.put, tA, tZ, tS]
    refine kT 5 ?_ ?_ ?_
    rotate_left
    · (intro w9 hSw; (try dsimp only at hSw); go_simp <;> with_reducible rfl)
    try simp only [Act.put, tA, tZ, tS]
    refine kT 6 ?_ ?_ ?_
    rotate_left
    · (intro w9 hSw; (try dsimp only at hSw); go_simp <;> with_reducible rfl)
    try simp only [Act.put, tA, tZ, tS]
    refine kT 7 ?_ ?_ ?_
    rotate_left
    · (intro w9 hSw; (try dsimp only at hSw); go_simp <;> with_reducible rfl)
    try simp only [Act.put, tA, tZ, tS]
    refine kT 8 ?_ ?_ ?_
    rotate_left
    · (intro w9 hSw; (try dsimp only at hSw); go_simp <;> with_reducible rfl)
    try simp only [Act.put, tA, tZ, tS]
    refine kT 9 ?_ ?_ ?_
    rotate_left
    · (intro w9 hSw; (try dsimp only at hSw); go_simp <;> with_reducible rfl)
    try simp only [Act.put, tA, tZ, tS]
    refine kT 10 ?_ ?_ ?_
    rotate_left
    · (intro w9 hSw; (try dsimp only at hSw); go_simp <;> with_reducible rfl)
    try simp only [Act.put, tA, tZ, tS]
    refine kT 11 ?_ ?_ ?_
    rotate_left
    · (intro w9 hSw; (try dsimp only at hSw); go_simp <;> with_reducible rfl)
    try simp only [Act.put, tA, tZ, tS]
    refine kT 12 ?_ ?_ ?_
    rotate_left
    · (intro w9 hSw; (try dsimp only at hSw); go_simp <;> with_reducible rfl)
    try simp only [Act.put, tA, tZ, tS]
    refine kU 13 ?_
    try simp only [Act.put, tA, tZ, tS]
    refine kU 14 ?_
    try simp only [Act.put, tA, tZ, tS]
    refine kU 15 ?_
    try simp only [Act.put, tA, tZ, tS]
    refine kT 16 ?_ ?_ ?_
    rotate_left
    · (intro w9 hSw; (try dsimp only at hSw); go_simp <;> with_reducible rfl)
    try simp only [Act.put, tA, tZ, tS]
    refine kT 17 ?_ ?_ ?_
    rotate_left
    · (intro w9 hSw; (try dsimp only at hSw); go_simp <;> with_reducible rfl)
    try simp only [Act.put, tA, tZ, tS]
    refine kU 18 ?_
    try simp only [Act.put, tA, tZ, tS]
    refine kU 19 ?_
    try simp only [Act.put, tA, tZ, tS]
    refine kU 20 ?_
    try simp only [Act.put, tA, tZ, tS]
    refine kU 21 ?_
    try simp only [Act.put, tA, tZ, tS]
    refine kU 22 ?_
    try simp only [Act.put, tA, tZ, tS]
    refine kU 23 ?_
    try simp only [Act.put, tA, tZ, tS]
    refine kU 24 ?_
    try simp only [Act.put, tA, tZ, tS]
    refine kT 25 ?_ ?_ ?_
    rotate_left
    · (intro w9 hSw; (try dsimp only at hSw); go_simp <;> with_reducible rfl)
    try simp only [Act.put, tA, tZ, tS]
    refine kT 26 ?_ ?_ ?_
    rotate_left
    · (intro w9 hSw; (try dsimp only at hSw); go_simp <;> with_reducible rfl)
    try simp only [Act.put, tA, tZ, tS]
    refine wpAnyH_done (by kernel_rfl) ?_ _
    go_wp2
    go_ret
    exact ⟨ret_b (unhide HE).symm, (belA)⟩
  subst hl
  have hj : okJob (l2 : Int) t k z p l e v r = true := by unfold okOp at ho; simp only [Bool.and_eq_true] at ho; exact ho.1.1.1
  have hs1 : 1 ≤ (l2 : Int) := by unfold okJob at hj; simp only [Bool.and_eq_true] at hj; exact (inB_iff.1 hj.1.1.1.1.1.1.1.1).1
  clear hj
  cases ha : x.marks.all okMk
  · skip
    have HE : Hid (okSn (l2 : Int) t k z p l e v r x = false) := hide (by unfold okSn; rw [ho, ha]; simp)
    go_enter Try.func36, Try.ntmps36
    go_wp2_with fail
    refine wp_region_held_drew (S := (fun W => ((W.cell? ⟨w.heap.size, 0, none⟩ = some (.int .i64 x.ma) ∧ W.cell? ⟨w.heap.size, 1, none⟩ = some (.slice a1 l1 c1) ∧ W.cell? ⟨w.heap.size, 2, none⟩ = some (.slice a2 l2 c2) ∧ W.cell? ⟨w.heap.size + 1, 0, none⟩ = some (.int .i64 (l2 : Int)) ∧ W.cell? ⟨w.heap.size + 1, 1, none⟩ = some (.int .i64 t) ∧ W.cell? ⟨w.heap.size + 1, 2, none⟩ = some (.int .i64 k) ∧ W.cell? ⟨w.heap.size + 1, 3, none⟩ = some (.int .i64 z) ∧ W.cell? ⟨w.heap.size + 1, 4, none⟩ = some (.int .i64 p) ∧ W.cell? ⟨w.heap.size + 1, 5, none⟩ = some (.int .i64 l) ∧ W.cell? ⟨w.heap.size + 1, 6, none⟩ = some (.int .i64 e) ∧ W.cell? ⟨w.heap.size + 1, 7, none⟩ = some (.bool b) ∧ W.cell? ⟨w.heap.size + 1, 8, none⟩ = some (.int .i64 v) ∧ W.cell? ⟨w.heap.size + 1, 9, none⟩ = some (.int .i64 r)) ∧ w.heap.size < W.heap.size ∧ w.heap.size + 1 < W.heap.size))) (by kernel_rfl) ?_ (fun hHeld => ?_)
    · (try dsimp only); ((first | ((repeat (first | (with_reducible assumption) | (with_reducible refine hd_3_10 ?_ (by with_reducible assumption)) | (with_reducible refine hd_3_10 ?_ (bel_drew (Below.refl _ _))) | (with_reducible exact hd_3_10_re (by with_reducible assumption) (sB) (sB)) | (with_reducible refine hd_3_10 ?_ (bel_one _ _)) | (with_reducible refine hd_3_10_set ?_ (sB) (sB) _))); done) | (refine ⟨⟨?_, ?_, ?_, ?_, ?_, ?_, ?_, ?_, ?_, ?_, ?_, ?_, ?_⟩, ?_, ?_⟩ <;> first | (go_keep; done) | (simp; done) | (simp; omega) | omega)))
    refine kT 0 ?_ ?_ ?_
    rotate_left
    · (intro w9 hSw; (try dsimp only at hSw); go_simp <;> with_reducible rfl)
    try simp only [Act.put, tA, tZ, tS]
    refine kT 1 ?_ ?_ ?_
    rotate_left
    · (intro w9 hSw; (try dsimp only at hSw); go_simp <;> with_reducible rfl)
    try simp only [Act.put, tA, tZ, tS]
    refine kT 2 ?_ ?_ ?_
    rotate_left
    · (intro w9 hSw; (try dsimp only at hSw); go_simp <;> with_reducible rfl)
    try simp only [Act.put, tA, tZ, tS]
    refine wpAnyH_ready (rs := [3]) (by kernel_rfl) (by simp) ?_
    refine AllReadyH.cons (by simp only [gA, gZ, gS]; rfl) (fun K hK => ?_) AllReadyH.nil
    go_simp
    (go_at_call 48; refine (implopok_any (l2 : Int) t k z p l e b v r x.ma a1 l1 c1 x.rows _ (h1.1.below (belA))).mono ?_; rw [ho]; rintro e' y1 ⟨rfl, hb⟩; obtain ⟨hc, hf, hs⟩ := bcell hb)
    (try go_wp2_with fail)
    refine hK.out _ _ ?_ (fun hHeld2 => ?_)
    · (try dsimp only); ((first | ((repeat (first | (with_reducible assumption) | (with_reducible refine hd_3_10 ?_ (by with_reducible assumption)) | (with_reducible refine hd_3_10 ?_ (bel_drew (Below.refl _ _))) | (with_reducible exact hd_3_10_re (by with_reducible assumption) (sB) (sB)) | (with_reducible refine hd_3_10 ?_ (bel_one _ _)) | (with_reducible refine hd_3_10_set ?_ (sB) (sB) _))); done) | (refine ⟨⟨?_, ?_, ?_, ?_, ?_, ?_, ?_, ?_, ?_, ?_, ?_, ?_, ?_⟩, ?_, ?_⟩ <;> first | (go_keep; done) | (simp; done) | (simp; omega) | omega)))
    clear hK K hHeld
    have hHeld := hHeld2
    clear hHeld2
    try simp only [Act.put, tA, tZ, tS]
    refine kT 4 ?_ ?_ ?_
    rotate_left
    · (intro w9 hSw; (try dsimp only at hSw); go_simp <;> with_reducible rfl)
    try simp only [Act.put, tA, tZ, tS]
    refine kT 5 ?_ ?_ ?_
    rotate_left
    · (intro w9 hSw; (try dsimp only at hSw); go_simp <;> with_reducible rfl)
    try simp only [Act.put, tA, tZ, tS]
    refine kT 6 ?_ ?_ ?_
    rotate_left
    · (intro w9 hSw; (try dsimp only at hSw); go_simp <;> with_reducible rfl)
    try simp only [Act.put, tA, tZ, tS]
    refine kT 7 ?_ ?_ ?_
    rotate_left
    · (intro w9 hSw; (try dsimp only at hSw); go_simp <;> with_reducible rfl)
    try simp only [Act.put, tA, tZ, tS]
    refine kT 8 ?_ ?_ ?_
    rotate_left
    · (intro w9 hSw; (try dsimp only at hSw); go_simp <;> with_reducible rfl)
    try simp only [Act.put, tA, tZ, tS]
    refine kT 9 ?_ ?_ ?_
    rotate_left
    · (intro w9 hSw; (try dsimp only at hSw); go_simp <;> with_reducible rfl)
    try simp only [Act.put, tA, tZ, tS]
    refine kT 10 ?_ ?_ ?_
    rotate_left
    · (intro w9 hSw; (try dsimp only at hSw); go_simp <;> with_reducible rfl)
    try simp only [Act.put, tA, tZ, tS]
    refine kT 11 ?_ ?_ ?_
    rotate_left
    · (intro w9 hSw; (try dsimp only at hSw); go_simp <;> with_reducible rfl)
    try simp only [Act.put, tA, tZ, tS]
    refine kT 12 ?_ ?_ ?_
    rotate_left
    · (intro w9 hSw; (try dsimp only at hSw); go_simp <;> with_reducible rfl)
    try simp only [Act.put, tA, tZ, tS]
    refine kT 13 ?_ ?_ ?_
    rotate_left
    · (intro w9 hSw; (try dsimp only at hSw); go_simp <;> with_reducible rfl)
    try simp only [Act.put, tA, tZ, tS]
    refine kT 14 ?_ ?_ ?_
    rotate_left
    · (intro w9 hSw; (try dsimp only at hSw); go_simp <;> with_reducible rfl)
    try simp only [Act.put, tA, tZ, tS]
    refine wpAnyH_ready (rs := [15]) (by kernel_rfl) (by simp) ?_
    refine AllReadyH.cons (by simp only [gA, gZ, gS]; rfl) (fun K hK => ?_) AllReadyH.nil
    go_simp
    (go_at_call 32; refine (everyMk a2 l2 c2 x.marks _ (h2.1.below (belA))).mono ?_; rw [ha]; rintro e' y2 ⟨rfl, hb⟩; obtain ⟨hc, hf, hs⟩ := bcell hb)
    (try go_wp2_with fail)
    refine hK.out _ _ ?_ (fun hHeld2 => ?_)
    · (try dsimp only); ((first | ((repeat (first | (with_reducible assumption) | (with_reducible refine hd_3_10 ?_ (by with_reducible assumption)) | (with_reducible refine hd_3_10 ?_ (bel_drew (Below.refl _ _))) | (with_reducible exact hd_3_10_re (by with_reducible assumption) (sB) (sB)) | (with_reducible refine hd_3_10 ?_ (bel_one _ _)) | (with_reducible refine hd_3_10_set ?_ (sB) (sB) _))); done) | (refine ⟨⟨?_, ?_, ?_, ?_, ?_, ?_, ?_, ?_, ?_, ?_, ?_, ?_, ?_⟩, ?_, ?_⟩ <;> first | (go_keep; done) | (simp; done) | (simp; omega) | omega)))
    clear hK K hHeld
    have hHeld := hHeld2
    clear hHeld2
    try simp only [Act.put, tA, tZ, tS]
    refine kT 16 ?_ ?_ ?_
    rotate_left
    · (intro w9 hSw; (try dsimp only at hSw); go_simp <;> with_reducible rfl)
    try simp only [Act.put, tA, tZ, tS]
    refine kT 17 ?_ ?_ ?_
    rotate_left
    · (intro w9 hSw; (try dsimp only at hSw); go_simp <;> with_reducible rfl)
    try simp only [Act.put, tA, tZ, tS]
    refine kU 18 ?_
    try simp only [Act.put, tA, tZ, tS]
    refine kU 19 ?_
    try simp only [Act.put, tA, tZ, tS]
    refine kU 20 ?_
    try simp only [Act.put, tA, tZ, tS]
    refine kU 21 ?_
    try simp only [Act.put, tA, tZ, tS]
    refine kU 22 ?_
    try simp only [Act.put, tA, tZ, tS]
    refine kU 23 ?_
    try simp only [Act.put, tA, tZ, tS]
    refine kU 24 ?_
    try simp only [Act.put, tA, tZ, tS]
    refine kT 25 ?_ ?_ ?_
    rotate_left
    · (intro w9 hSw; (try dsimp only at hSw); go_simp <;> with_reducible rfl)
    try simp only [Act.put, tA, tZ, tS]
    refine kT 26 ?_ ?_ ?_
    rotate_left
    · (intro w9 hSw; (try dsimp only at hSw); go_simp <;> with_reducible rfl)
    try simp only [Act.put, tA, tZ, tS]
    refine wpAnyH_done (by kernel_rfl) ?_ _
    go_wp2
    go_ret
    exact ⟨ret_b (unhide HE).symm, (belA)⟩
  have hml : Hid (minL x.marks = lowM x.marks) := hide (minL_low ha (by omega))
  have HE : Hid (okSn (l2 : Int) t k z p l e v r x = (x.ma == lowM x.marks)) := hide (by unfold okSn; rw [ho, ha, decide_eq_true (by rw [le2])]; rfl)
  go_enter Try.func36, Try.ntmps36
  go_wp2_with fail
  refine wp_region_held_drew (S := (fun W => ((W.cell? ⟨w.heap.size, 0, none⟩ = some (.int .i64 x.ma) ∧ W.cell? ⟨w.heap.size, 1, none⟩ = some (.slice a1 l1 c1) ∧ W.cell? ⟨w.heap.size, 2, none⟩ = some (.slice a2 l2 c2) ∧ W.cell? ⟨w.heap.size + 1, 0, none⟩ = some (.int .i64 (l2 : Int)) ∧ W.cell? ⟨w.heap.size + 1, 1, none⟩ = some (.int .i64 t) ∧ W.cell? ⟨w.heap.size + 1, 2, none⟩ = some (.int .i64 k) ∧ W.cell? ⟨w.heap.size + 1, 3, none⟩ = some (.int .i64 z) ∧ W.cell? ⟨w.heap.size + 1, 4, none⟩ = some (.int .i64 p) ∧ W.cell? ⟨w.heap.size + 1, 5, none⟩ = some (.int .i64 l) ∧ W.cell? ⟨w.heap.size + 1, 6, none⟩ = some (.int .i64 e) ∧ W.cell? ⟨w.heap.size + 1, 7, none⟩ = some (.bool b) ∧ W.cell? ⟨w.heap.size + 1, 8, none⟩ = some (.int .i64 v) ∧ W.cell? ⟨w.heap.size + 1, 9, none⟩ = some (.int .i64 r)) ∧ w.heap.size < W.heap.size ∧ w.heap.size + 1 < W.heap.size))) (by kernel_rfl) ?_ (fun hHeld => ?_)
  · (try dsimp only); ((first | ((repeat (first | (with_reducible assumption) | (with_reducible refine hd_3_10 ?_ (by with_reducible assumption)) | (with_reducible refine hd_3_10 ?_ (bel_drew (Below.refl _ _))) | (with_reducible exact hd_3_10_re (by with_reducible assumption) (sB) (sB)) | (with_reducible refine hd_3_10 ?_ (bel_one _ _)) | (with_reducible refine hd_3_10_set ?_ (sB) (sB) _))); done) | (refine ⟨⟨?_, ?_, ?_, ?_, ?_, ?_, ?_, ?_, ?_, ?_, ?_, ?_, ?_⟩, ?_, ?_⟩ <;> first | (go_keep; done) | (simp; done) | (simp; omega) | omega)))
  refine kT 0 ?_ ?_ ?_
  rotate_left
  · (intro w9 hSw; (try dsimp only at hSw); go_simp <;> with_reducible rfl)
  try simp only [Act.put, tA, tZ, tS]
  refine kT 1 ?_ ?_ ?_
  rotate_left
  · (intro w9 hSw; (try dsimp only at hSw); go_simp <;> with_reducible rfl)
  try simp only [Act.put, tA, tZ, tS]
  refine kT 2 ?_ ?_ ?_
  rotate_left
  · (intro w9 hSw; (try dsimp only at hSw); go_simp <;> with_reducible rfl)
  try simp only [Act.put, tA, tZ, tS]
  refine wpAnyH_ready (rs := [3]) (by kernel_rfl) (by simp) ?_
  refine AllReadyH.cons (by simp only [gA, gZ, gS]; rfl) (fun K hK => ?_) AllReadyH.nil
  go_simp
  (go_at_call 48; refine (implopok_any (l2 : Int) t k z p l e b v r x.ma a1 l1 c1 x.rows _ (h1.1.below (belA))).mono ?_; rw [ho]; rintro e' y1 ⟨rfl, hb⟩; obtain ⟨hc, hf, hs⟩ := bcell hb)
  (try go_wp2_with fail)
  refine hK.out _ _ ?_ (fun hHeld2 => ?_)
  · (try dsimp only); ((first | ((repeat (first | (with_reducible assumption) | (with_reducible refine hd_3_10 ?_ (by with_reducible assumption)) | (with_reducible refine hd_3_10 ?_ (bel_drew (Below.refl _ _))) | (with_reducible exact hd_3_10_re (by with_reducible assumption) (sB) (sB)) | (with_reducible refine hd_3_10 ?_ (bel_one _ _)) | (with_reducible refine hd_3_10_set ?_ (sB) (sB) _))); done) | (refine ⟨⟨?_, ?_, ?_, ?_, ?_, ?_, ?_, ?_, ?_, ?_, ?_, ?_, ?_⟩, ?_, ?_⟩ <;> first | (go_keep; done) | (simp; done) | (simp; omega) | omega)))
  clear hK K hHeld
  have hHeld := hHeld2
  clear hHeld2
  try simp only [Act.put, tA, tZ, tS]
  refine kT 4 ?_ ?_ ?_
  rotate_left
  · (intro w9 hSw; (try dsimp only at hSw); go_simp <;> with_reducible rfl)
  try simp only [Act.put, tA, tZ, tS]
  refine kT 5 ?_ ?_ ?_
  rotate_left
  · (intro w9 hSw; (try dsimp only at hSw); go_simp <;> with_reducible rfl)
  try simp only [Act.put, tA, tZ, tS]
  refine kT 6 ?_ ?_ ?_
  rotate_left
  · (intro w9 hSw; (try dsimp only at hSw); go_simp <;> with_reducible rfl)
  try simp only [Act.put, tA, tZ, tS]
  refine kT 7 ?_ ?_ ?_
  rotate_left
  · (intro w9 hSw; (try dsimp only at hSw); go_simp <;> with_reducible rfl)
  try simp only [Act.put, tA, tZ, tS]
  refine kT 8 ?_ ?_ ?_
  rotate_left
  · (intro w9 hSw; (try dsimp only at hSw); go_simp <;> with_reducible rfl)
  try simp only [Act.put, tA, tZ, tS]
  refine kT 9 ?_ ?_ ?_
  rotate_left
  · (intro w9 hSw; (try dsimp only at hSw); go_simp <;> with_reducible rfl)
  try simp only [Act.put, tA, tZ, tS]
  refine kT 10 ?_ ?_ ?_
  rotate_left
  · (intro w9 hSw; (try dsimp only at hSw); go_simp <;> with_reducible rfl)
  try simp only [Act.put, tA, tZ, tS]
  refine kT 11 ?_ ?_ ?_
  rotate_left
  · (intro w9 hSw; (try dsimp only at hSw); go_simp <;> with_reducible rfl)
  try simp only [Act.put, tA, tZ, tS]
  refine kT 12 ?_ ?_ ?_
  rotate_left
  · (intro w9 hSw; (try dsimp only at hSw); go_simp <;> with_reducible rfl)
  try simp only [Act.put, tA, tZ, tS]
  refine kT 13 ?_ ?_ ?_
  rotate_left
  · (intro w9 hSw; (try dsimp only at hSw); go_simp <;> with_reducible rfl)
  try simp only [Act.put, tA, tZ, tS]
  refine kT 14 ?_ ?_ ?_
  rotate_left
  · (intro w9 hSw; (try dsimp only at hSw); go_simp <;> with_reducible rfl)
  try simp only [Act.put, tA, tZ, tS]
  refine wpAnyH_ready (rs := [15]) (by kernel_rfl) (by simp) ?_
  refine AllReadyH.cons (by simp only [gA, gZ, gS]; rfl) (fun K hK => ?_) AllReadyH.nil
  go_simp
  (go_at_call 32; refine (everyMk a2 l2 c2 x.marks _ (h2.1.below (belA))).mono ?_; rw [ha]; rintro e' y2 ⟨rfl, hb⟩; obtain ⟨hc, hf, hs⟩ := bcell hb)
  (try go_wp2_with fail)
  refine hK.out _ _ ?_ (fun hHeld2 => ?_)
  · (try dsimp only); ((first | ((repeat (first | (with_reducible assumption) | (with_reducible refine hd_3_10 ?_ (by with_reducible assumption)) | (with_reducible refine hd_3_10 ?_ (bel_drew (Below.refl _ _))) | (with_reducible exact hd_3_10_re (by with_reducible assumption) (sB) (sB)) | (with_reducible refine hd_3_10 ?_ (bel_one _ _)) | (with_reducible refine hd_3_10_set ?_ (sB) (sB) _))); done) | (refine ⟨⟨?_, ?_, ?_, ?_, ?_, ?_, ?_, ?_, ?_, ?_, ?_, ?_, ?_⟩, ?_, ?_⟩ <;> first | (go_keep; done) | (simp; done) | (simp; omega) | omega)))
  clear hK K hHeld
  have hHeld := hHeld2
  clear hHeld2
  try simp only [Act.put, tA, tZ, tS]
  refine kT 16 ?_ ?_ ?_
  rotate_left
  · (intro w9 hSw; (try dsimp only at hSw); go_simp <;> with_reducible rfl)
  try simp only [Act.put, tA, tZ, tS]
  refine kT 17 ?_ ?_ ?_
  rotate_left
  · (intro w9 hSw; (try dsimp only at hSw); go_simp <;> with_reducible rfl)
  try simp only [Act.put, tA, tZ, tS]
  refine kT 18 ?_ ?_ ?_
  rotate_left
  · (intro w9 hSw; (try dsimp only at hSw); go_simp <;> with_reducible rfl)
  try simp only [Act.put, tA, tZ, tS]
  refine kT 19 ?_ ?_ ?_
  rotate_left
  · (intro w9 hSw; (try dsimp only at hSw); go_simp <;> with_reducible rfl)
  try simp only [Act.put, tA, tZ, tS]
  refine kT 20 ?_ ?_ ?_
  rotate_left
  · (intro w9 hSw; (try dsimp only at hSw); go_simp <;> with_reducible rfl)
  try simp only [Act.put, tA, tZ, tS]
  refine kT 21 ?_ ?_ ?_
  rotate_left
  · (intro w9 hSw; (try dsimp only at hSw); go_simp <;> with_reducible rfl)
  try simp only [Act.put, tA, tZ, tS]
  refine kT 22 ?_ ?_ ?_
  rotate_left
  · (intro w9 hSw; (try dsimp only at hSw); go_simp <;> with_reducible rfl)
  try simp only [Act.put, tA, tZ, tS]
  refine wpAnyH_ready (rs := [23]) (by kernel_rfl) (by simp) ?_
  refine AllReadyH.cons (by simp only [gA, gZ, gS]; rfl) (fun K hK => ?_) AllReadyH.nil
  go_simp
  (go_at_call 50; refine (min_any a2 l2 c2 x.marks _ (h2.1.below (belA)) (by omega)).mono ?_; rw [unhide hml]; rintro e' y3 ⟨rfl, hb⟩; obtain ⟨hc, hf, hs⟩ := bcell hb)
  (try go_wp2_with fail)
  refine hK.out _ _ ?_ (fun hHeld2 => ?_)
  · (try dsimp only); ((first | ((repeat (first | (with_reducible assumption) | (with_reducible refine hd_3_10 ?_ (by with_reducible assumption)) | (with_reducible refine hd_3_10 ?_ (bel_drew (Below.refl _ _))) | (with_reducible exact hd_3_10_re (by with_reducible assumption) (sB) (sB)) | (with_reducible refine hd_3_10 ?_ (bel_one _ _)) | (with_reducible refine hd_3_10_set ?_ (sB) (sB) _))); done) | (refine ⟨⟨?_, ?_, ?_, ?_, ?_, ?_, ?_, ?_, ?_, ?_, ?_, ?_, ?_⟩, ?_, ?_⟩ <;> first | (go_keep; done) | (simp; done) | (simp; omega) | omega)))
  clear hK K hHeld
  have hHeld := hHeld2
  clear hHeld2
  try simp only [Act.put, tA, tZ, tS]
  refine kT 24 ?_ ?_ ?_
  rotate_left
  · (intro w9 hSw; (try dsimp only at hSw); go_simp <;> with_reducible rfl)
  try simp only [Act.put, tA, tZ, tS]
  refine kT 25 ?_ ?_ ?_
  rotate_left
  · (intro w9 hSw; (try dsimp only at hSw); go_simp <;> with_reducible rfl)
  try simp only [Act.put, tA, tZ, tS]
  refine kT 26 ?_ ?_ ?_
  rotate_left
  · (intro w9 hSw; (try dsimp only at hSw); go_simp <;> with_reducible rfl)
  try simp only [Act.put, tA, tZ, tS]
  refine wpAnyH_done (by kernel_rfl) ?_ _
  go_wp2
  go_ret
  exact ⟨ret_b (unhide HE).symm, (belA)⟩
end Go.Proofs.Ytabphkmhafflbaa
