/- Proved here: the law on the line of an event returns true at every code. -/
import Derived.Test.YtbbjjpgmekfbeaaDoorDrawTxt
import Derived.Test.YtbbjjpgmekfbeaaDoorDskM
namespace Go.Proofs.YtbbjjpgmekfbeaaDoor
open Go.ChangeShapes Go.WideShapes Go.ChangeAt Go.RowKit
set_option linter.unusedVariables false


theorem el13 (y : Int) (h3 : 0 ≤ y) (h4 : y < 13) : ∃ t : ByteArray, (#[Value.string ⟨#[115, 111, 117, 114, 99, 101]⟩, .string ⟨#[115, 111, 117, 114, 99, 101]⟩, .string ⟨#[115, 111, 117, 114, 99, 101]⟩, .string ⟨#[116, 97, 115, 107]⟩, .string ⟨#[116, 97, 115, 107]⟩, .string ⟨#[116, 97, 115, 107]⟩, .string ⟨#[116, 97, 115, 107]⟩, .string ⟨#[97, 115, 107]⟩, .string ⟨#[115, 97, 118, 101]⟩, .string ⟨#[100, 114, 111, 112]⟩, .string ⟨#[99, 111, 109, 109, 105, 116]⟩, .string ⟨#[99, 114, 97, 115, 104]⟩, .string ⟨#[100, 114, 97, 105, 110]⟩] : Array Value)[y.toNat]? = some (.string t) ∧ ([Value.string ⟨#[115, 111, 117, 114, 99, 101]⟩, .string ⟨#[115, 111, 117, 114, 99, 101]⟩, .string ⟨#[115, 111, 117, 114, 99, 101]⟩, .string ⟨#[116, 97, 115, 107]⟩, .string ⟨#[116, 97, 115, 107]⟩, .string ⟨#[116, 97, 115, 107]⟩, .string ⟨#[116, 97, 115, 107]⟩, .string ⟨#[97, 115, 107]⟩, .string ⟨#[115, 97, 118, 101]⟩, .string ⟨#[100, 114, 111, 112]⟩, .string ⟨#[99, 111, 109, 109, 105, 116]⟩, .string ⟨#[99, 114, 97, 115, 104]⟩, .string ⟨#[100, 114, 97, 105, 110]⟩] : List Value)[y.toNat]? = some (.string t) ∧ (∀ h, ([Value.string ⟨#[115, 111, 117, 114, 99, 101]⟩, .string ⟨#[115, 111, 117, 114, 99, 101]⟩, .string ⟨#[115, 111, 117, 114, 99, 101]⟩, .string ⟨#[116, 97, 115, 107]⟩, .string ⟨#[116, 97, 115, 107]⟩, .string ⟨#[116, 97, 115, 107]⟩, .string ⟨#[116, 97, 115, 107]⟩, .string ⟨#[97, 115, 107]⟩, .string ⟨#[115, 97, 118, 101]⟩, .string ⟨#[100, 114, 111, 112]⟩, .string ⟨#[99, 111, 109, 109, 105, 116]⟩, .string ⟨#[99, 114, 97, 115, 104]⟩, .string ⟨#[100, 114, 97, 105, 110]⟩] : List Value)[y.toNat]'h = .string t) ∧ t.size ≤ 6 := by
  have : y = 0 ∨ y = 1 ∨ y = 2 ∨ y = 3 ∨ y = 4 ∨ y = 5 ∨ y = 6 ∨ y = 7 ∨ y = 8 ∨ y = 9 ∨ y = 10 ∨ y = 11 ∨ y = 12 := by omega
  rcases this with rfl | rfl | rfl | rfl | rfl | rfl | rfl | rfl | rfl | rfl | rfl | rfl | rfl
  · exact ⟨⟨#[115, 111, 117, 114, 99, 101]⟩, rfl, rfl, fun _ => rfl, by decide⟩
  · exact ⟨⟨#[115, 111, 117, 114, 99, 101]⟩, rfl, rfl, fun _ => rfl, by decide⟩
  · exact ⟨⟨#[115, 111, 117, 114, 99, 101]⟩, rfl, rfl, fun _ => rfl, by decide⟩
  · exact ⟨⟨#[116, 97, 115, 107]⟩, rfl, rfl, fun _ => rfl, by decide⟩
  · exact ⟨⟨#[116, 97, 115, 107]⟩, rfl, rfl, fun _ => rfl, by decide⟩
  · exact ⟨⟨#[116, 97, 115, 107]⟩, rfl, rfl, fun _ => rfl, by decide⟩
  · exact ⟨⟨#[116, 97, 115, 107]⟩, rfl, rfl, fun _ => rfl, by decide⟩
  · exact ⟨⟨#[97, 115, 107]⟩, rfl, rfl, fun _ => rfl, by decide⟩
  · exact ⟨⟨#[115, 97, 118, 101]⟩, rfl, rfl, fun _ => rfl, by decide⟩
  · exact ⟨⟨#[100, 114, 111, 112]⟩, rfl, rfl, fun _ => rfl, by decide⟩
  · exact ⟨⟨#[99, 111, 109, 109, 105, 116]⟩, rfl, rfl, fun _ => rfl, by decide⟩
  · exact ⟨⟨#[99, 114, 97, 115, 104]⟩, rfl, rfl, fun _ => rfl, by decide⟩
  · exact ⟨⟨#[100, 114, 97, 105, 110]⟩, rfl, rfl, fun _ => rfl, by decide⟩

theorem dg_size (n : Nat) (h : n ≤ 99999999) : (⟨(Lib.decDigits n).toArray⟩ : ByteArray).size ≤ 21 := by
  have := dec_len n h
  simpa [ByteArray.size] using this
theorem digits_at {n : Int} (w : World) (h0 : 0 ≤ n) (h1 : n ≤ 99999999) : Calls Tryd.prog 33 #[.int .i64 n] w fun e w' => ∃ s : ByteArray, e = .returned (.string s) ∧ s.size ≤ 21 ∧ Below w.heap.size w w' := by
  obtain ⟨k, rfl⟩ : ∃ k : Nat, n = k := ⟨n.toNat, by omega⟩
  refine (digits_any k w (by omega)).mono ?_
  rintro e w' ⟨rfl, hb⟩
  exact ⟨_, rfl, dg_size k (by omega), hb⟩
theorem Rd.kpB {R : Nat} {w w' : World} {a : Option Addr} {len cap p : Nat} (h : Rd R w a len cap p) (hR : R < w.heap.size) (hb : Below w.heap.size w w') : Rd R w' a len cap p := h.kp hR hb
/-- The end of a line that is drawn: bent, one in eight. -/
def LnP (n : Nat) (R : Nat) (w : World) (e : Ending) (w' : World) : Prop := ∃ s : ByteArray, e = .returned (.string s) ∧ s.size ≤ n ∧ Kp R w w'
theorem kp_below {R : Nat} {w w' : World} (hR : R < w.heap.size) (hb : Below w.heap.size w w') : Kp R w w' := Kp.of_bel (Nat.le_of_lt hR) hb
set_option linter.unusedSimpArgs false in
set_option maxRecDepth 20000 in
set_option maxHeartbeats 4000000 in
theorem line_any (R : Nat) (a : Option Addr) (len cap p : Nat) (w : World) (hp : p ≤ 800000) (hR : R < w.heap.size) (h : Rd R w a len cap p) : Calls Tryd.prog 27 #[.pointer (some ⟨R, 0, none⟩)] w fun e w' => LnP 90 R w e w' := by
  have hbX : Below w.heap.size w (w.alloc (.cells #[Value.string ⟨#[115, 111, 117, 114, 99, 101]⟩, .string ⟨#[115, 111, 117, 114, 99, 101]⟩, .string ⟨#[115, 111, 117, 114, 99, 101]⟩, .string ⟨#[116, 97, 115, 107]⟩, .string ⟨#[116, 97, 115, 107]⟩, .string ⟨#[116, 97, 115, 107]⟩, .string ⟨#[116, 97, 115, 107]⟩, .string ⟨#[97, 115, 107]⟩, .string ⟨#[115, 97, 118, 101]⟩, .string ⟨#[100, 114, 111, 112]⟩, .string ⟨#[99, 111, 109, 109, 105, 116]⟩, .string ⟨#[99, 114, 97, 115, 104]⟩, .string ⟨#[100, 114, 97, 105, 110]⟩] 9)) := bel_one _ _
  have r0 := hide (h.kp hR hbX)
  have hR0 : R < (w.alloc (.cells #[Value.string ⟨#[115, 111, 117, 114, 99, 101]⟩, .string ⟨#[115, 111, 117, 114, 99, 101]⟩, .string ⟨#[115, 111, 117, 114, 99, 101]⟩, .string ⟨#[116, 97, 115, 107]⟩, .string ⟨#[116, 97, 115, 107]⟩, .string ⟨#[116, 97, 115, 107]⟩, .string ⟨#[116, 97, 115, 107]⟩, .string ⟨#[97, 115, 107]⟩, .string ⟨#[115, 97, 118, 101]⟩, .string ⟨#[100, 114, 111, 112]⟩, .string ⟨#[99, 111, 109, 109, 105, 116]⟩, .string ⟨#[99, 114, 97, 115, 104]⟩, .string ⟨#[100, 114, 97, 105, 110]⟩] 9)).heap.size := Nat.lt_of_lt_of_le hR hbX.size
  have K0 : Kp R w (w.alloc (.cells #[Value.string ⟨#[115, 111, 117, 114, 99, 101]⟩, .string ⟨#[115, 111, 117, 114, 99, 101]⟩, .string ⟨#[115, 111, 117, 114, 99, 101]⟩, .string ⟨#[116, 97, 115, 107]⟩, .string ⟨#[116, 97, 115, 107]⟩, .string ⟨#[116, 97, 115, 107]⟩, .string ⟨#[116, 97, 115, 107]⟩, .string ⟨#[97, 115, 107]⟩, .string ⟨#[115, 97, 118, 101]⟩, .string ⟨#[100, 114, 111, 112]⟩, .string ⟨#[99, 111, 109, 109, 105, 116]⟩, .string ⟨#[99, 114, 97, 115, 104]⟩, .string ⟨#[100, 114, 97, 105, 110]⟩] 9)) := kp_below hR hbX
  have hne : w.heap.size ≠ R := by omega
  clear h hbX
  go_enter Tryd.func27, Tryd.ntmps27
  go_wp2_with fail
  refine (pick_any R a len cap p 13 _ (by omega) (by omega) (unhide r0)).mono ?_
  rintro e wa ⟨y, rfl, by1, by2, kwa, qwa⟩
  have rwa := hide (qwa (by omega))
  have hRwa : R < wa.heap.size := Nat.lt_of_lt_of_le hR0 kwa.low.size
  have Kwa : Kp R w wa := Kp.trans K0 kwa
  obtain ⟨x, hx1, hx2, hx3, zx⟩ := el13 y by1 by2
  have hcx : wa.cell? ⟨w.heap.size, y.toNat, none⟩ = some (.string x) := (kwa.cell (b := w.heap.size) (o := y.toNat) (by simp) hne).trans (by simp [go_sem, hx1, hx2])
  clear qwa kwa hx1 hx2 hx3 r0 hR0 K0
  have b1 : (⟨#[32]⟩ : ByteArray).size = 1 := rfl
  by_cases e1 : x = ⟨#[115, 111, 117, 114, 99, 101]⟩ ∨ x = ⟨#[99, 111, 109, 109, 105, 116]⟩
  · have t1 : (x.toList == [115, 111, 117, 114, 99, 101]) = true ∨ ((x.toList == [115, 111, 117, 114, 99, 101]) = false ∧ (x.toList == [99, 111, 109, 109, 105, 116]) = true) := by
      rcases e1 with e1 | e1
      · exact Or.inl (toL_yes e1)
      · exact Or.inr ⟨toL_no (by rw [e1]; decide), toL_yes e1⟩
    clear e1
    rcases t1 with t1 | ⟨t1, t2⟩
    · go_wp2_with fail
      refine (pick_any R a len cap (p + 1) 3 _ (by omega) (by omega) (unhide rwa)).mono ?_
      rintro e wb ⟨n1, rfl, bn11, bn12, kwb, qwb⟩
      have rwb := hide (qwb (by omega))
      have hRwb : R < wb.heap.size := Nat.lt_of_lt_of_le hRwa kwb.low.size
      have Kwb : Kp R w wb := Kp.trans Kwa kwb
      clear qwb kwb
      go_wp2_with fail
      refine (digits_at _ bn11 (by omega)).mono ?_
      rintro e wc ⟨s1, rfl, zs1, hbwc⟩
      have rwc := hide ((unhide rwb).kp hRwb hbwc)
      have hRwc : R < wc.heap.size := Nat.lt_of_lt_of_le hRwb hbwc.size
      have Kwc : Kp R w wc := Kp.trans Kwb (kp_below hRwb hbwc)
      clear hbwc
      go_wp2_with fail
      refine (pick_any R a len cap (p + 2) 8 _ (by omega) (by omega) (unhide rwc)).mono ?_
      rintro e wz ⟨kz, rfl, bz1, bz2, kwz, qwz⟩
      have rwz := hide (qwz (by omega))
      have hRz : R < wz.heap.size := Nat.lt_of_lt_of_le hRwc kwz.low.size
      have hKz : Kp R w wz := Kp.trans Kwc kwz
      clear qwz kwz
      by_cases hkz : kz = 0
      · subst hkz
        go_wp2_with fail
        refine (bent_any R a len cap _ _ _ (by (try simp only [ByteArray.size_append]); omega) (by omega) hRz (unhide rwz)).mono ?_
        rintro e9 wb ⟨s', rfl, hs', kwb, p', _, _⟩
        go_wp2
        go_ret
        exact ⟨_, rfl, (by (try simp only [ByteArray.size_append] at hs'); omega), hKz.trans kwb⟩
      · have hkz2 : (kz == 0) = false := by simp [hkz]
        go_wp2
        go_ret
        exact ⟨_, rfl, (by (try simp only [ByteArray.size_append]); omega), hKz⟩
    · go_wp2_with fail
      refine (pick_any R a len cap (p + 1) 3 _ (by omega) (by omega) (unhide rwa)).mono ?_
      rintro e wb ⟨n1, rfl, bn11, bn12, kwb, qwb⟩
      have rwb := hide (qwb (by omega))
      have hRwb : R < wb.heap.size := Nat.lt_of_lt_of_le hRwa kwb.low.size
      have Kwb : Kp R w wb := Kp.trans Kwa kwb
      clear qwb kwb
      go_wp2_with fail
      refine (digits_at _ bn11 (by omega)).mono ?_
      rintro e wc ⟨s1, rfl, zs1, hbwc⟩
      have rwc := hide ((unhide rwb).kp hRwb hbwc)
      have hRwc : R < wc.heap.size := Nat.lt_of_lt_of_le hRwb hbwc.size
      have Kwc : Kp R w wc := Kp.trans Kwb (kp_below hRwb hbwc)
      clear hbwc
      go_wp2_with fail
      refine (pick_any R a len cap (p + 2) 8 _ (by omega) (by omega) (unhide rwc)).mono ?_
      rintro e wz ⟨kz, rfl, bz1, bz2, kwz, qwz⟩
      have rwz := hide (qwz (by omega))
      have hRz : R < wz.heap.size := Nat.lt_of_lt_of_le hRwc kwz.low.size
      have hKz : Kp R w wz := Kp.trans Kwc kwz
      clear qwz kwz
      by_cases hkz : kz = 0
      · subst hkz
        go_wp2_with fail
        refine (bent_any R a len cap _ _ _ (by (try simp only [ByteArray.size_append]); omega) (by omega) hRz (unhide rwz)).mono ?_
        rintro e9 wb ⟨s', rfl, hs', kwb, p', _, _⟩
        go_wp2
        go_ret
        exact ⟨_, rfl, (by (try simp only [ByteArray.size_append] at hs'); omega), hKz.trans kwb⟩
      · have hkz2 : (kz == 0) = false := by simp [hkz]
        go_wp2
        go_ret
        exact ⟨_, rfl, (by (try simp only [ByteArray.size_append]); omega), hKz⟩
  · have t1 : (x.toList == [115, 111, 117, 114, 99, 101]) = false := toL_no (fun e => e1 (Or.inl e))
    have t2 : (x.toList == [99, 111, 109, 109, 105, 116]) = false := toL_no (fun e => e1 (Or.inr e))
    clear e1
    by_cases e2 : x = ⟨#[116, 97, 115, 107]⟩
    · have t3 : (x.toList == [116, 97, 115, 107]) = true := toL_yes e2
      clear e2
      go_wp2_with fail
      refine (pick_any R a len cap (p + 1) 2 _ (by omega) (by omega) (unhide rwa)).mono ?_
      rintro e wb ⟨n1, rfl, bn11, bn12, kwb, qwb⟩
      have rwb := hide (qwb (by omega))
      have hRwb : R < wb.heap.size := Nat.lt_of_lt_of_le hRwa kwb.low.size
      have Kwb : Kp R w wb := Kp.trans Kwa kwb
      clear qwb kwb
      go_wp2_with fail
      refine (digits_at _ bn11 (by omega)).mono ?_
      rintro e wc ⟨s1, rfl, zs1, hbwc⟩
      have rwc := hide ((unhide rwb).kp hRwb hbwc)
      have hRwc : R < wc.heap.size := Nat.lt_of_lt_of_le hRwb hbwc.size
      have Kwc : Kp R w wc := Kp.trans Kwb (kp_below hRwb hbwc)
      clear hbwc
      go_wp2_with fail
      refine (pick_any R a len cap (p + 2) 3 _ (by omega) (by omega) (unhide rwc)).mono ?_
      rintro e wd ⟨n2, rfl, bn21, bn22, kwd, qwd⟩
      have rwd := hide (qwd (by omega))
      have hRwd : R < wd.heap.size := Nat.lt_of_lt_of_le hRwc kwd.low.size
      have Kwd : Kp R w wd := Kp.trans Kwc kwd
      clear qwd kwd
      go_wp2_with fail
      refine (digits_at _ bn21 (by omega)).mono ?_
      rintro e wf ⟨s2, rfl, zs2, hbwf⟩
      have rwf := hide ((unhide rwd).kp hRwd hbwf)
      have hRwf : R < wf.heap.size := Nat.lt_of_lt_of_le hRwd hbwf.size
      have Kwf : Kp R w wf := Kp.trans Kwd (kp_below hRwd hbwf)
      clear hbwf
      go_wp2_with fail
      refine (pick_any R a len cap (p + 3) 8 _ (by omega) (by omega) (unhide rwf)).mono ?_
      rintro e wz ⟨kz, rfl, bz1, bz2, kwz, qwz⟩
      have rwz := hide (qwz (by omega))
      have hRz : R < wz.heap.size := Nat.lt_of_lt_of_le hRwf kwz.low.size
      have hKz : Kp R w wz := Kp.trans Kwf kwz
      clear qwz kwz
      by_cases hkz : kz = 0
      · subst hkz
        go_wp2_with fail
        refine (bent_any R a len cap _ _ _ (by (try simp only [ByteArray.size_append]); omega) (by omega) hRz (unhide rwz)).mono ?_
        rintro e9 wb ⟨s', rfl, hs', kwb, p', _, _⟩
        go_wp2
        go_ret
        exact ⟨_, rfl, (by (try simp only [ByteArray.size_append] at hs'); omega), hKz.trans kwb⟩
      · have hkz2 : (kz == 0) = false := by simp [hkz]
        go_wp2
        go_ret
        exact ⟨_, rfl, (by (try simp only [ByteArray.size_append]); omega), hKz⟩
    · have t3 : (x.toList == [116, 97, 115, 107]) = false := toL_no e2
      clear e2
      go_wp2_with fail
      refine (pick_any R a len cap (p + 1) 8 _ (by omega) (by omega) (unhide rwa)).mono ?_
      rintro e wz ⟨kz, rfl, bz1, bz2, kwz, qwz⟩
      have rwz := hide (qwz (by omega))
      have hRz : R < wz.heap.size := Nat.lt_of_lt_of_le hRwa kwz.low.size
      have hKz : Kp R w wz := Kp.trans Kwa kwz
      clear qwz kwz
      by_cases hkz : kz = 0
      · subst hkz
        go_wp2_with fail
        refine (bent_any R a len cap _ _ _ (by (try simp only [ByteArray.size_append]); omega) (by omega) hRz (unhide rwz)).mono ?_
        rintro e9 wb ⟨s', rfl, hs', kwb, p', _, _⟩
        go_wp2
        go_ret
        exact ⟨_, rfl, (by (try simp only [ByteArray.size_append] at hs'); omega), hKz.trans kwb⟩
      · have hkz2 : (kz == 0) = false := by simp [hkz]
        go_wp2
        go_ret
        exact ⟨_, rfl, (by (try simp only [ByteArray.size_append]); omega), hKz⟩

set_option maxRecDepth 20000 in
theorem drawde_any (a : Option Addr) (len cap : Nat) (w : World) (hlc : len ≤ cap) (hlm : len ≤ 1048576) (hb : BytesAt w a len) (hl : ∀ g o, a = some ⟨g, o, none⟩ → 0 < len → g < w.heap.size) (hn : a = none → cap = 0) : Calls Tryd.prog 13 #[.slice a len cap] w fun e w' => ∃ s : ByteArray, e = .returned (.string s) ∧ s.size ≤ 90 ∧ Below w.heap.size w w' := by
  go_enter Tryd.func13, Tryd.ntmps13
  go_wp2_with fail
  refine (open_any a len cap _ hlc hlm hb hl hn).mono ?_
  rintro e w1 ⟨R, len', cap', rfl, h1, h2, hb1, hr⟩
  clear hb hl
  go_wp2_with fail
  refine (line_any R a len' cap' 0 w1 (by omega) h2 hr).mono ?_
  rintro e w2 ⟨s, rfl, hs, kp⟩
  go_wp2
  go_ret
  exact ⟨_, rfl, hs, hb1.trans (kp.low.mono h1)⟩

theorem bl_app (L M : List ByteArray) : bl (L ++ M) = bl L ++ bl M := by simp [bl]
theorem wo_more {L : List (List UInt8)} {s y : List UInt8} (h : Wo L s) (hy : (32 : UInt8) ∉ y) : Wo (L ++ [y]) (s ++ 32 :: y) := by
  obtain ⟨h1, h2, h3⟩ := h
  obtain ⟨M, x, rfl⟩ : ∃ M x, L = M ++ [x] := ⟨L.dropLast, L.getLast h1, (List.dropLast_concat_getLast _).symm⟩
  refine ⟨by simp, fun z hz => ?_, ?_⟩
  · rcases List.mem_append.1 hz with hz | hz
    · exact h2 z hz
    · obtain rfl := List.mem_singleton.1 hz
      exact hy
  · rw [joinW_snoc, h3]
theorem wo_three {L : List ByteArray} {s : ByteArray} (h : Wo (bl L) s.data.toList) : Wo (bl (L ++ [⟨#[49]⟩, ⟨#[49]⟩, ⟨#[49]⟩])) (s ++ ⟨#[32, 49, 32, 49, 32, 49]⟩).data.toList := by
  have h1 := wo_more (wo_more (wo_more h (y := [49]) (by decide)) (y := [49]) (by decide)) (y := [49]) (by decide)
  rw [bl_app]
  have e : (s ++ ⟨#[32, 49, 32, 49, 32, 49]⟩ : ByteArray).data.toList = s.data.toList ++ 32 :: [49] ++ 32 :: [49] ++ 32 :: [49] := by rw [app_l]; simp
  rw [e]
  have e2 : bl L ++ bl [⟨#[49]⟩, ⟨#[49]⟩, ⟨#[49]⟩] = bl L ++ [[49]] ++ [[49]] ++ [[49]] := by simp [bl]
  rw [e2]
  exact h1
theorem evK_two (x : ByteArray) : (evK x).2 ≤ 2 := by
  unfold evK
  repeat (split; · decide)
  decide
theorem long_ev {x : ByteArray} {M : List ByteArray} (h : 3 ≤ M.length) : evX (x :: M) = (0, 0, 0, false) := by
  by_cases h0 : (evK x).1 = 0
  · exact if_pos h0
  · refine (if_neg h0).trans (if_neg (fun h9 => ?_))
    have := evK_two x
    omega
theorem three_ev {L L' : List ByteArray} {s : ByteArray} (h1 : s.size ≤ 100 → Wo (bl L) s.data.toList) (g1 : (s ++ ⟨#[32, 49, 32, 49, 32, 49]⟩ : ByteArray).size ≤ 100 → Wo (bl L') (s ++ ⟨#[32, 49, 32, 49, 32, 49]⟩ : ByteArray).data.toList) (g2 : ¬ (s ++ ⟨#[32, 49, 32, 49, 32, 49]⟩ : ByteArray).size ≤ 100 → L' = []) : evX L' = (0, 0, 0, false) := by
  by_cases h : (s ++ ⟨#[32, 49, 32, 49, 32, 49]⟩ : ByteArray).size ≤ 100
  · have hs : s.size ≤ 100 := by rw [ByteArray.size_append] at h; omega
    have e := bl_inj (wo_uniq _ (g1 h) (wo_three (h1 hs)))
    have hL := (h1 hs).1
    match L, hL with
    | [], hL => exact absurd rfl hL
    | x :: M, _ =>
      rw [e, List.cons_append]
      exact long_ev (by simp)
  · rw [g2 h]; rfl
theorem task12 {L : List ByteArray} (h1 : (⟨#[116, 97, 115, 107, 32, 49, 32, 50]⟩ : ByteArray).size ≤ 100 → Wo (bl L) (⟨#[116, 97, 115, 107, 32, 49, 32, 50]⟩ : ByteArray).data.toList) : evX L = (2, 1, 2, true) := by
  have h2 := h1 (by decide)
  have e := bl_inj (wo_uniq _ h2 (M := bl [⟨#[116, 97, 115, 107]⟩, ⟨#[49]⟩, ⟨#[50]⟩]) ⟨by simp [bl], by simp [bl], by simp [bl, joinW]⟩)
  rw [e]
  decide

set_option linter.unusedSimpArgs false in
set_option maxRecDepth 20000 in
set_option maxHeartbeats 4000000 in
theorem lawDskEventP (a : Option Addr) (len cap : Nat) (w : World) (hlc : len ≤ cap) (hm : len ≤ maxLen) (hb : BytesAt w a len) (hl : ∀ g o, a = some ⟨g, o, none⟩ → 0 < len → g < w.heap.size) (hn : a = none → cap = 0) {tp1 tp2 : TypeId} {p1 p2 : Value} {m : Int} (hE : Env tp1 tp2 p1 p2 m w) : Calls Tryd.prog 5 #[.slice a len cap] w fun e w' => e = .returned (.bool true) ∧ Below w.heap.size w w' := by
  unfold maxLen at hm
  by_cases hlen : (1048576 : Int) < (len : Int)
  · go_enter Tryd.func5, Tryd.ntmps5
    go_wp2
    go_ret
    exact ⟨rfl, Below.refl _ _⟩
  have HE := hide hE
  clear hE
  go_enter Tryd.func5, Tryd.ntmps5
  go_wp2_with fail
  refine (drawde_any a len cap w hlc (by omega) hb hl hn).mono ?_
  rintro e w1 ⟨s, rfl, hs, hb1⟩
  clear hb hl
  go_wp2_with fail
  refine (implde_any s _ ((unhide HE).bel hb1)).mono ?_
  rintro e w2 ⟨L, hL1, hL2, k, at1, i, b, rfl, hR1, hb2⟩
  have HR1 := hide hR1
  have HL1 := hide hL1
  have HL2 := hide hL2
  clear hR1 hL1 hL2
  have hbA : Below w.heap.size w w2 := bel_trans hb1 hb2
  clear hb2 hb1
  go_wp2_with fail
  refine (specdskevent_any s _ (by omega)).mono ?_
  rintro e w3 ⟨L', hM1, hM2, k', a', i', b', rfl, hR2, hb3⟩
  obtain rfl := bl_inj9 (unhide HL1) (unhide HL2) hM1 hM2
  have h9 := (unhide HR1).symm.trans hR2
  simp only [Prod.mk.injEq] at h9
  obtain ⟨rfl, rfl, rfl, rfl⟩ := h9
  clear HR1 hR2 HL2 hM1 hM2
  have hX3 := (hb3.block w2.heap.size (by simp)).trans blk_at0
  have z3 : w2.heap.size < w3.heap.size := by have h9 := hb3.size; simp at h9; omega
  have x0 : w3.cell? ⟨w2.heap.size, 0, none⟩ = some (.int .i64 k) := by simp [World.cell?, hX3, go_sem]
  have x1 : w3.cell? ⟨w2.heap.size, 1, none⟩ = some (.int .i64 at1) := by simp [World.cell?, hX3, go_sem]
  have x2 : w3.cell? ⟨w2.heap.size, 2, none⟩ = some (.int .i64 i) := by simp [World.cell?, hX3, go_sem]
  have hbB : Below w.heap.size w w3 := bel_trans hbA (bel_trans (bel_one _ _) hb3)
  clear hb3 hX3 hbA
  have hcc : (b != b) = false := by cases b <;> rfl
  have hsz : (s ++ ⟨#[32, 49, 32, 49, 32, 49]⟩ : ByteArray).size ≤ 1000 := by
    rw [ByteArray.size_append]
    have : (⟨#[32, 49, 32, 49, 32, 49]⟩ : ByteArray).size = 6 := rfl
    omega
  go_wp2_with fail
  refine (implde_any _ _ ((unhide HE).bel (bel_alloc hbB _))).mono ?_
  rintro e w4 ⟨L4, hM1, hM2, k4, a4, i4, b4, rfl, hR4, hb4⟩
  have h9 := hR4.symm.trans (three_ev (unhide HL1) hM1 hM2)
  simp only [Prod.mk.injEq] at h9
  obtain ⟨rfl, rfl, rfl, rfl⟩ := h9
  clear hR4 hM1 hM2 HL1 x0 x1 x2
  have hbC : Below w.heap.size w w4 := bel_trans (bel_alloc hbB _) hb4
  clear hb4 hbB
  go_wp2_with fail
  refine (implde_any _ _ ((unhide HE).bel (bel_alloc hbC _))).mono ?_
  rintro e w5 ⟨L5, hM1, hM2, k5, a5, i5, b5, rfl, hR5, hb5⟩
  have h9 := hR5.symm.trans (task12 hM1)
  simp only [Prod.mk.injEq] at h9
  obtain ⟨rfl, rfl, rfl, rfl⟩ := h9
  clear hR5 hM1 hM2
  have hbD : Below w.heap.size w w5 := bel_trans (bel_alloc hbC _) hb5
  clear hb5 hbC
  go_wp2
  go_ret
  exact ⟨by first | rfl | (simp; done), bel_alloc hbD _⟩
end Go.Proofs.YtbbjjpgmekfbeaaDoor
