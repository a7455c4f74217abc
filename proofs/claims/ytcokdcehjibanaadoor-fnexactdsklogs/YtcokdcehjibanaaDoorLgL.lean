/- Proved here: the law on DskLogs returns true at every argument. -/
import Derived.Test.YtcokdcehjibanaaDoorLgS
import Derived.Test.YtcokdcehjibanaaDoorLgI
import Derived.Test.YtcokdcehjibanaaDoorLgE
namespace Go.Proofs.YtcokdcehjibanaaDoor
open Go.ChangeShapes Go.WideShapes Go.ChangeAt Go.RowKit
set_option linter.unusedVariables false
set_option linter.unusedSimpArgs false

theorem specdsk_eq (a : Option Addr) (len cap : Nat) (L : List ByteArray) (rs : List (Option (Option It))) (Ls : List (List It)) (c : Int) (w : World) (h : StRs w a len (stL L)) (hs : ∀ x ∈ L, x.size ≤ 1048576) (hl : len ≤ 1048576) (hr : LnAll L rs) (hN : Hid (dskL rs = (Ls, c))) : Calls Tryd.prog 5 #[.slice a len cap] w fun e w' => ∃ v us, e = .returned (.tuple #[v, .int .i64 c]) ∧ LgO w' w.heap.size v us Ls ∧ Below w.heap.size w w' := by
  have h1 := specdsk_any a len cap L rs w h hs hl hr
  unfold DsP at h1
  rw [unhide hN] at h1
  exact h1
theorem impldsk_eq {tp1 tp2 : TypeId} {p1 p2 : Value} {m : Int} (a : Option Addr) (len cap : Nat) (L : List ByteArray) (rs : List (Option (Option It))) (Ls : List (List It)) (c : Int) (w : World) (h : StRs w a len (stL L)) (hl : len ≤ 1048576) (hr : LnAll L rs) (hE : Env tp1 tp2 p1 p2 m w) (hN : Hid (dskL rs = (Ls, c))) : Calls Tryd.prog 7 #[.slice a len cap] w fun e w' => ∃ v us, e = .returned (.tuple #[v, .int .i64 c]) ∧ LgO w' w.heap.size v us Ls ∧ Below w.heap.size w w' := by
  have h1 := impldsk_any a len cap L rs w h hl hr hE
  unfold DsP at h1
  rw [unhide hN] at h1
  exact h1

set_option maxRecDepth 20000 in
set_option maxHeartbeats 4000000 in
theorem lawDskLogs {tp1 tp2 : TypeId} {p1 p2 : Value} {m : Int} (a0 : Option Addr) (len0 cap0 : Nat) (L : List ByteArray) (w : World) (w0 : StRs w a0 len0 (stL L)) (hs : ∀ x ∈ L, x.size ≤ maxLen) (hE : Env tp1 tp2 p1 p2 m w) : Calls Tryd.prog 3 #[.slice a0 len0 cap0] w fun e' w' => e' = .returned (.bool true) ∧ Below w.heap.size w w' := by
  have hLl : L.length = len0 := by have := w0.1; rw [stL_len] at this; exact this
  obtain ⟨rs, hrs⟩ := lnAll_ex L
  obtain ⟨Ls, c, hN0⟩ : ∃ Ls c, dskL rs = (Ls, c) := ⟨_, _, rfl⟩
  have hle := dskL_len rs
  rw [hN0] at hle
  obtain ⟨hl1, hl2⟩ := hle
  dsimp only at hl1 hl2
  have HL1 := hide (show Ls.length ≤ 1048576 by omega)
  have HL2 := hide (show ∀ l ∈ Ls, l.length ≤ 1048576 from fun l h9 => by have := hl2 l h9; omega)
  have hkb := kLg_at Ls.length (unhide HL2) (unhide HL1)
  rw [List.take_length] at hkb
  have hN := hide hN0
  have HR := hide hrs
  clear hN0 hrs hl1 hl2
  go_enter Tryd.func3, Tryd.ntmps3
  go_wp2_with fail
  refine (szSt_any a0 len0 cap0 L _ w0 hs).mono ?_
  rintro e wx ⟨lf, rfl, hw, hcase⟩
  obtain rfl := hw.symm
  clear hw
  rcases hcase with hneg | ⟨hpos, hlen, hsz⟩
  · go_wp2_with fail
    go_ret
    exact ⟨rfl, Below.refl _ _⟩
  · have hl : len0 ≤ 1048576 := by omega
    have HS := hide hsz
    clear hs hsz
    go_wp2_with fail
    refine (toSt_any _ len0 _ (stL L) _ w0 hl).mono ?_
    rintro e1 w1 ⟨b1, rfl, H1, R1, ge1, hb1⟩
    clear R1 ge1
    go_wp2_with fail
    refine (specdsk_eq _ _ _ L rs Ls c _ H1 (unhide HS) hl (unhide HR) hN).mono ?_
    rintro e2 w2 ⟨v0, us0, rfl, hO0, hb2⟩
    have hB2 : Below w.heap.size w w2 := bel_trans hb1 hb2
    have HO0 := hide hO0
    clear H1 hb1 hb2 hO0
    go_wp2_with fail
    refine (toSt_any _ len0 _ (stL L) _ (w0.below hB2) hl).mono ?_
    rintro e3 w3 ⟨b3, rfl, H3, R3, ge3, hb3⟩
    have hB3 : Below w.heap.size w w3 := bel_trans hB2 hb3
    have hC3 : Hid (Below w2.heap.size w2 w3) := hide hb3
    have lt3 : Hid (∀ g o, 0 < len0 → b3 = some ⟨g, o, none⟩ → g < w3.heap.size) := hide (fun g o hp ha => by subst ha; exact H3.lt hp)
    have GE3 := hide ge3
    clear hb3 ge3
    go_wp2_with fail
    refine (impldsk_eq _ _ _ L rs Ls c _ H3 hl (unhide HR) (hE.bel hB3) hN).mono ?_
    rintro e4 w4 ⟨v1, us1, rfl, hO1, hb4⟩
    have hB4 : Below w.heap.size w w4 := bel_trans hB3 hb4
    have hC4 : Hid (Below w2.heap.size w2 w4) := hide (bel_trans (unhide hC3) hb4)
    have HO1 := hide hO1
    have H4 := H3.below hb4
    have R4 := R3.below hb4
    have z34 := hb4.size
    have z23 := (unhide hC3).size
    clear hO1 hb4 hC3 H3 R3 hB3
    go_wp2_with fail
    refine (eqLg_any _ (unhide HO1) ((unhide HO0).bel (unhide hC4)) (unhide HL2) (unhide HL1)).mono ?_
    rintro e5 w5 ⟨rfl, hb5⟩
    have hB5 : Below w.heap.size w w5 := bel_trans hB4 hb5
    have hC5 : Hid (Below w2.heap.size w2 w5) := hide (bel_trans (unhide hC4) hb5)
    have HO5 := hide ((unhide HO1).bel hb5)
    have H5 := H4.below hb5
    have R5 := R4.below hb5
    have z45 := hb5.size
    clear hb5 hC4 HO1 H4 R4 hB4
    go_wp2_with fail
    refine (toSt_any _ len0 _ (stL L) _ (w0.below hB5) hl).mono ?_
    rintro e6 w6 ⟨b6, rfl, H6, R6, ge6, hb6⟩
    have hB6 : Below w.heap.size w w6 := bel_trans hB5 hb6
    have hC6 : Hid (Below w2.heap.size w2 w6) := hide (bel_trans (unhide hC5) hb6)
    have HO6 := hide ((unhide HO5).bel hb6)
    have H5' := H5.below hb6
    have R6' := R5.below hb6
    have z56 := hb6.size
    clear hb6 hC5 HO5 H5 R5 hB5 R6 ge6
    go_wp2_with fail
    refine (eqSt_any _ _ len0 _ _ (stL L) _ H5' H6).mono ?_
    rintro e7 w7 ⟨rfl, hb7⟩
    have hB7 : Below w.heap.size w w7 := bel_trans hB6 hb7
    have hC7 : Hid (Below w2.heap.size w2 w7) := hide (bel_trans (unhide hC6) hb7)
    have HO7 := hide ((unhide HO6).bel hb7)
    have R7 := R6'.below hb7
    have z67 := hb7.size
    clear hb7 hC6 HO6 H5' H6 hB6 R6'
    go_wp2_with fail
    refine (markSt_any b3 len0 len0 _ R7 hl).mono ?_
    rintro e8 w8 ⟨rfl, M8, hg8⟩
    have hlow : ∀ k, rowSt b3 len0 = some k → w2.heap.size ≤ k ∧ k < w3.heap.size := fun k hk => by
      rcases R7.shape with h0 | ⟨g', e9⟩
      · subst h0; simp [rowSt] at hk
      · subst e9
        by_cases h0 : len0 = 0
        · subst h0; simp [rowSt] at hk
        · rw [rowSt_pos h0] at hk
          cases hk
          exact ⟨unhide GE3 _ 0 (by omega) rfl, unhide lt3 _ 0 (by omega) rfl⟩
    have zww := hB2.size
    have hB8 : Below w.heap.size w w8 := hB7.grown hg8 hB7.size (fun k hk => by have := hlow k hk; omega)
    have hC8 : Hid (Below w2.heap.size w2 w8) := hide ((unhide hC7).grown hg8 (unhide hC7).size (fun k hk => (hlow k hk).1))
    have HO8 := hide ((unhide HO7).low hg8 (fun k hk => (hlow k hk).2))
    have z78 := hg8.size
    clear hg8 hC7 HO7 R7 hB7 hlow M8 GE3 lt3
    go_wp2_with fail
    refine (eqLg_any _ (unhide HO8) ((unhide HO0).bel (unhide hC8)) (unhide HL2) (unhide HL1)).mono ?_
    rintro e9 w9 ⟨rfl, hb9⟩
    have hB9 : Below w.heap.size w w9 := bel_trans hB8 hb9
    have hC9 : Hid (Below w2.heap.size w2 w9) := hide (bel_trans (unhide hC8) hb9)
    have HO9 := hide ((unhide HO8).bel hb9)
    have z89 := hb9.size
    clear hb9 hC8 HO8 hB8
    go_wp2_with fail
    refine (markLg_any _ (unhide HO9) (by omega) (unhide HL2) (unhide HL1)).mono ?_
    rintro e10 w10 ⟨rfl, M10, hb10⟩
    have hB10 : Below w.heap.size w w10 := hB9.trans (hb10.mono (by omega))
    have hC10 : Hid (Below w2.heap.size w2 w10) := hide ((unhide hC9).trans (hb10.mono (by omega)))
    have HM10 := hide M10
    clear hb10 hC9 HO9 hB9 M10
    obtain ⟨KL, hKL⟩ : ∃ KL, KL = kLg 1 Ls := ⟨_, rfl⟩
    have HK := hide hKL
    rw [← hKL] at hkb
    rw [← hKL]
    clear hKL
    have n1 : ¬ KL < 0 := by omega
    go_wp2_with fail
    refine (heldLg_any _ (unhide HM10) (unhide HL2) (unhide HL1)).mono ?_
    rw [← unhide HK]
    rintro e11 w11 ⟨rfl, hw11⟩
    obtain rfl := hw11.symm
    clear hw11
    go_wp2_with fail
    refine (toSt_any _ len0 _ (stL L) _ (w0.below hB10) hl).mono ?_
    rintro e12 w12 ⟨b12, rfl, H12, R12, ge12, hb12⟩
    have hB12 : Below w.heap.size w w12 := bel_trans hB10 hb12
    have hC12 : Hid (Below w2.heap.size w2 w12) := hide (bel_trans (unhide hC10) hb12)
    have HM12 := hide ((unhide HM10).bel hb12)
    clear hb12 hC10 HM10 hB10 R12 ge12
    go_wp2_with fail
    refine (impldsk_eq _ _ _ L rs Ls c _ H12 hl (unhide HR) (hE.bel hB12) hN).mono ?_
    rintro e13 w13 ⟨v13, us13, rfl, hO13, hb13⟩
    have hB13 : Below w.heap.size w w13 := bel_trans hB12 hb13
    have hC13 : Hid (Below w2.heap.size w2 w13) := hide (bel_trans (unhide hC12) hb13)
    have HM13 := hide ((unhide HM12).bel hb13)
    have HO13 := hide hO13
    clear hb13 hC12 HM12 hB12 H12 hO13
    go_wp2_with fail
    refine (eqLg_any _ (unhide HO13) ((unhide HO0).bel (unhide hC13)) (unhide HL2) (unhide HL1)).mono ?_
    rintro e14 w14 ⟨rfl, hb14⟩
    have hB14 : Below w.heap.size w w14 := bel_trans hB13 hb14
    have HM14 := hide ((unhide HM13).bel hb14)
    clear hb14 hC13 HM13 hB13 HO13
    go_wp2_with fail
    refine (heldLg_any _ (unhide HM14) (unhide HL2) (unhide HL1)).mono ?_
    rw [← unhide HK]
    rintro e15 w15 ⟨rfl, hw15⟩
    obtain rfl := hw15.symm
    clear hw15
    go_wp2_with fail
    go_ret
    exact ⟨rfl, hB14⟩
end Go.Proofs.YtcokdcehjibanaaDoor
