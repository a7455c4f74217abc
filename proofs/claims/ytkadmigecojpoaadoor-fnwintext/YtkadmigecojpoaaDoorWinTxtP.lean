/- Proved here: the law on the windows' texts returns true at every two codes. -/
import Derived.Test.YtkadmigecojpoaaDoorDrawWin
import Derived.Test.YtkadmigecojpoaaDoorDrawTxt
import Derived.Test.YtkadmigecojpoaaDoorReadImpl
namespace Go.Proofs.YtkadmigecojpoaaDoor
open Go.ChangeShapes Go.WideShapes Go.ChangeAt Go.RowKit
set_option linter.unusedVariables false


set_option maxRecDepth 20000 in
theorem drawwt_any (a : Option Addr) (len cap : Nat) (w : World) (hlc : len ≤ cap) (hlm : len ≤ 1048576) (hb : BytesAt w a len) (hl : ∀ g o, a = some ⟨g, o, none⟩ → 0 < len → g < w.heap.size) (hn : a = none → cap = 0) : Calls Tryd.prog 6 #[.slice a len cap] w fun e w' => ∃ s0 e0 : Int, e = .returned (.agg #[.int .i64 s0, .int .i64 e0]) ∧ Below w.heap.size w w' := by
  have hbX : Below w.heap.size w (w.alloc (.cells #[.int .i64 0, .int .i64 0] 24)) := bel_one _ _
  have hb' := BytesAt.bel hb hl hbX
  have hl' : ∀ g o, a = some ⟨g, o, none⟩ → 0 < len → g < (w.alloc (.cells #[.int .i64 0, .int .i64 0] 24)).heap.size := fun g o ha hp => Nat.lt_of_lt_of_le (hl g o ha hp) hbX.size
  go_enter Tryd.func6, Tryd.ntmps6
  go_wp2_with fail
  refine (open_any a len cap _ hlc hlm hb' hl' hn).mono ?_
  rintro e w1 ⟨R, len', cap', rfl, h1, h2, hb1, hr⟩
  have h1' : w.heap.size < R := by simp at h1; omega
  go_wp2_with fail
  refine (win_any R a len' cap' 0 3 w1 (by omega) (by omega) (by omega) h2 hr).mono ?_
  rintro e w2 ⟨s0, e0, rfl, _, _, k, _⟩
  have h3 := k.low.size
  have h4 : w.heap.size < w2.heap.size := by omega
  have hbW : Below (w.alloc (.cells #[.int .i64 0, .int .i64 0] 24)).heap.size (w.alloc (.cells #[.int .i64 0, .int .i64 0] 24)) w2 := hb1.trans (k.low.mono h1)
  have c0 : w2.cell? ⟨w.heap.size, 0, none⟩ = some (.int .i64 0) := (hbW.cell (p := ⟨w.heap.size, 0, none⟩) (by simp)).trans (by simp [go_sem])
  have c1 : w2.cell? ⟨w.heap.size, 1, none⟩ = some (.int .i64 0) := (hbW.cell (p := ⟨w.heap.size, 1, none⟩) (by simp)).trans (by simp [go_sem])
  have f0 : w2.frozen? ⟨w.heap.size, 0, none⟩ = false := (hbW.frozen (p := ⟨w.heap.size, 0, none⟩) (by simp)).trans (by simp [go_sem])
  have f1 : w2.frozen? ⟨w.heap.size, 1, none⟩ = false := (hbW.frozen (p := ⟨w.heap.size, 1, none⟩) (by simp)).trans (by simp [go_sem])
  have hbF : Below w.heap.size w w2 := bel_trans hbX hbW
  clear hr hb hb' hl hl' k
  go_wp2
  refine bodyPost_ret (v := .agg #[.int .i64 s0, .int .i64 e0]) (by simp (maxDischargeDepth := 9) [results, Tryd.results6, go_sem, *]) rfl ⟨s0, e0, rfl, (by repeat (first | (with_reducible exact Below.refl _ _) | (with_reducible assumption) | (with_reducible refine bel_set ?_ (by first | (simp; done) | (simp; omega)) _) | (with_reducible refine bel_alloc ?_ _) | (with_reducible refine bel_drew ?_) | (with_reducible refine bel_drewN ?_ _) | (with_reducible refine bel_trans ?_ (by with_reducible assumption))))⟩

theorem winText_size (a b : Int) : (winText a b).size ≤ 100 := by
  cases ho : okWin a b
  · rw [winText_no ho]; decide
  · obtain ⟨b1, b2, b3, b4⟩ := okWin_bd ho
    have s1 := decS_size a (by omega)
    have s2 := decS_size b (by omega)
    have s3 : (⟨#[46, 46]⟩ : ByteArray).size = 2 := rfl
    rw [winText_ok ho]
    unfold winTxt
    simp only [ByteArray.size_append]
    omega
set_option maxRecDepth 20000 in
theorem drawwr_any (a : Option Addr) (len cap : Nat) (w : World) (hlc : len ≤ cap) (hlm : len ≤ 1048576) (hb : BytesAt w a len) (hl : ∀ g o, a = some ⟨g, o, none⟩ → 0 < len → g < w.heap.size) (hn : a = none → cap = 0) : Calls Tryd.prog 8 #[.slice a len cap] w fun e w' => ∃ s : ByteArray, e = .returned (.string s) ∧ s.size ≤ 101 ∧ Below w.heap.size w w' := by
  go_enter Tryd.func8, Tryd.ntmps8
  go_wp2_with fail
  refine (open_any a len cap _ hlc hlm hb hl hn).mono ?_
  rintro e w1 ⟨R, len', cap', rfl, h1, h2, hb1, hr⟩
  clear hb hl
  go_wp2_with fail
  refine (win_any R a len' cap' 0 99 w1 (by omega) (by omega) (by omega) h2 hr).mono ?_
  rintro e w2 ⟨s0, e0, rfl, _, _, k, p', hp', hr2⟩
  have h3 : R < w2.heap.size := Nat.lt_of_lt_of_le h2 k.low.size
  go_wp2_with fail
  refine (specwintext_any s0 e0 _).mono ?_
  rintro e w3 ⟨rfl, hb3⟩
  have hz := winText_size s0 e0
  generalize winText s0 e0 = ST at hz ⊢
  have h4 : R < w3.heap.size := Nat.lt_of_lt_of_le h3 hb3.size
  go_wp2_with fail
  refine (maybe_any R a len' cap' p' ST w3 (by omega) (by omega) h4 (hr2.kp h3 hb3)).mono ?_
  rintro e w4 ⟨s', rfl, hs', k2⟩
  go_wp2
  go_ret
  exact ⟨_, rfl, by omega, (hb1.trans (k.low.mono h1)).trans ((hb3.mono (by omega)).trans (k2.low.mono h1))⟩

theorem implwt_eq {a b : Int} {ST : ByteArray} (w : World) (htab : Lib.TabIs Tryd.prog w "internal/strconv.uint64pow10" .u64 Lib.pow10Tab) (h : Hid (winText a b = ST)) : Calls Tryd.prog 7 #[.agg #[.int .i64 a, .int .i64 b]] w fun e w' => e = .returned (.string ST) ∧ Below w.heap.size w w' := by
  rw [← unhide h]; exact implwintext_any a b w htab
theorem specwt_eq {a b : Int} {ST : ByteArray} (w : World) (h : Hid (winText a b = ST)) : Calls Tryd.prog 11 #[.agg #[.int .i64 a, .int .i64 b]] w fun e w' => e = .returned (.string ST) ∧ Below w.heap.size w w' := by
  rw [← unhide h]; exact specwintext_any a b w
theorem implwo_eq {a b : Int} {o : Bool} (w : World) (h : Hid (okWin a b = o)) : Calls Tryd.prog 12 #[.agg #[.int .i64 a, .int .i64 b]] w fun e w' => e = .returned (.bool o) ∧ Below w.heap.size w w' := by
  rw [← unhide h]; exact implwinok_any a b w
theorem win312 : winText 3 12 = ⟨#[51, 46, 46, 49, 50]⟩ := by
  have h1 : decS 3 = ⟨#[51]⟩ := by
    unfold decS
    rw [show (3 : Int).toNat = 3 from rfl, dec_lt (by omega)]; rfl
  have h2 : decS 12 = ⟨#[49, 50]⟩ := by
    unfold decS
    rw [show (12 : Int).toNat = 12 from rfl, dec_ge (by omega), dec_lt (by omega)]; rfl
  rw [winText_ok (by decide), winTxt, h1, h2]
  rfl
theorem wr_text {s : ByteArray} {a b : Int} (h : WinR s a b true) : winText a b = s := by
  rcases h with ⟨_, h1, h2⟩ | ⟨h1, _⟩
  · rw [winText_ok h1, h2]
  · cases h1
theorem toList_data (s : ByteArray) : s.toList = s.data.toList := by rw [Go.ByteArray.toList_eq]
theorem size_ne {s : ByteArray} (h : 0 < s.size) : s ≠ ⟨#[]⟩ := fun e => by rw [e] at h; exact absurd h (by decide)

set_option linter.unusedSimpArgs false in
set_option maxRecDepth 20000 in
set_option maxHeartbeats 8000000 in
theorem lawWinTextP (a : Option Addr) (len cap : Nat) (a2 : Option Addr) (len2 cap2 : Nat) (w : World) (hlc : len ≤ cap) (hm : len ≤ maxLen) (hb : BytesAt w a len) (hl : ∀ g o, a = some ⟨g, o, none⟩ → 0 < len → g < w.heap.size) (hn : a = none → cap = 0) (hlc2 : len2 ≤ cap2) (hm2 : len2 ≤ maxLen) (hb2 : BytesAt w a2 len2) (hl2 : ∀ g o, a2 = some ⟨g, o, none⟩ → 0 < len2 → g < w.heap.size) (hn2 : a2 = none → cap2 = 0) {tp1 tp2 : TypeId} {p1 p2 : Value} {m : Int} (hE : Env tp1 tp2 p1 p2 m w) : Calls Tryd.prog 3 #[.slice a len cap, .slice a2 len2 cap2] w fun e w' => e = .returned (.bool true) ∧ Below w.heap.size w w' := by
  unfold maxLen at hm hm2
  by_cases hlen : (1048576 : Int) < (len : Int)
  · go_enter Tryd.func3, Tryd.ntmps3
    go_wp2
    go_ret
    exact ⟨rfl, Below.refl _ _⟩
  by_cases hlen2 : (1048576 : Int) < (len2 : Int)
  · go_enter Tryd.func3, Tryd.ntmps3
    go_wp2
    go_ret
    exact ⟨rfl, Below.refl _ _⟩
  have HE := hide hE
  clear hE
  go_enter Tryd.func3, Tryd.ntmps3
  go_wp2_with fail
  refine (drawwt_any a len cap w hlc (by omega) hb hl hn).mono ?_
  rintro e w1 ⟨s0, e0, rfl, hb1⟩
  obtain ⟨ST, hST⟩ : ∃ ST, winText s0 e0 = ST := ⟨_, rfl⟩
  have HST := hide hST
  have hbA : Below w.heap.size w (w1.alloc (.cells #[.int .i64 s0, .int .i64 e0] 24)) := bel_alloc hb1 _
  go_wp2_with fail
  refine (implwt_eq _ ((unhide HE).bel hbA).tab HST).mono ?_
  rintro e w3 ⟨rfl, hb3⟩
  have hbB : Below w.heap.size w w3 := bel_trans hbA hb3
  have hb2' := BytesAt.bel hb2 hl2 hbB
  have hl2' : ∀ g o, a2 = some ⟨g, o, none⟩ → 0 < len2 → g < w3.heap.size := fun g o ha hp => Nat.lt_of_lt_of_le (hl2 g o ha hp) hbB.size
  clear hb hl hb2 hl2
  go_wp2_with fail
  refine (drawwr_any a2 len2 cap2 w3 hlc2 (by omega) hb2' hl2' hn2).mono ?_
  rintro e w4 ⟨TT, rfl, hTT, hb4⟩
  have hbC : Below w.heap.size w w4 := bel_trans hbB hb4
  clear hb2' hl2'
  go_wp2_with fail
  refine (implread_any ((unhide HE).bel hbC) (by omega)).mono ?_
  rintro e w5 ⟨x, y, c, rfl, hR1, hb5⟩
  have hbD : Below w.heap.size w w5 := bel_trans hbC hb5
  have HR1 := hide hR1
  clear hR1
  go_wp2_with fail
  refine (specread_any TT _ (by omega)).mono ?_
  rintro e w6 ⟨x', y', c', rfl, hR2, hb6⟩
  obtain ⟨rfl, rfl, rfl⟩ := (unhide HR1).same hR2
  clear hR2
  have hbE : Below w.heap.size w w6 := bel_trans hbD (bel_trans (bel_one _ _) hb6)
  have z1 : w1.heap.size < w3.heap.size := by have h9 := hb3.size; simp at h9; omega
  have z4 : w3.heap.size ≤ w4.heap.size := hb4.size
  have z5 : w4.heap.size ≤ w5.heap.size := hb5.size
  have z6 : w5.heap.size < w6.heap.size := by have h9 := hb6.size; simp at h9; omega
  have z16 : w1.heap.size < w6.heap.size := by omega
  have cw : ∀ k9, w6.cell? ⟨w1.heap.size, k9, none⟩ = (w1.alloc (.cells #[.int .i64 s0, .int .i64 e0] 24)).cell? ⟨w1.heap.size, k9, none⟩ := fun k9 => (hb6.cell (p := ⟨w1.heap.size, k9, none⟩) (by simp; omega)).trans (((bel_one w5 _).cell (p := ⟨w1.heap.size, k9, none⟩) (by simp; omega)).trans ((hb5.cell (p := ⟨w1.heap.size, k9, none⟩) (by simp; omega)).trans ((hb4.cell (p := ⟨w1.heap.size, k9, none⟩) (by simp; omega)).trans (hb3.cell (p := ⟨w1.heap.size, k9, none⟩) (by simp)))))
  have c0 : w6.cell? ⟨w1.heap.size, 0, none⟩ = some (.int .i64 s0) := (cw 0).trans (by simp [go_sem])
  have c1 : w6.cell? ⟨w1.heap.size, 1, none⟩ = some (.int .i64 e0) := (cw 1).trans (by simp [go_sem])
  have d0 : w6.cell? ⟨w5.heap.size, 0, none⟩ = some (.int .i64 x) := (hb6.cell (p := ⟨w5.heap.size, 0, none⟩) (by simp)).trans (by simp [go_sem])
  have d1 : w6.cell? ⟨w5.heap.size, 1, none⟩ = some (.int .i64 y) := (hb6.cell (p := ⟨w5.heap.size, 1, none⟩) (by simp)).trans (by simp [go_sem])
  clear cw hb1 hb3 hb4 hb5 hb6 hbA hbB hbC hbD
  have hSz : ST.size ≤ 1048576 := by rw [← hST]; have := winText_size s0 e0; omega
  cases ho : okWin s0 e0
  · have HO := hide ho
    obtain rfl : ST = ⟨#[]⟩ := hST.symm.trans (winText_no ho)
    clear hST ho
    cases c
    · go_wp2_with fail
      refine (specwt_eq _ HST).mono ?_
      rintro e w7 ⟨rfl, hb7⟩
      have zw7 : w6.heap.size < w7.heap.size := by have h9 := hb7.size; (try simp at h9); omega
      have zw7a : w1.heap.size < w7.heap.size := by omega
      have zw7b : w5.heap.size < w7.heap.size := by omega
      have c0w7 : w7.cell? ⟨w1.heap.size, 0, none⟩ = some (.int .i64 s0) := (hb7.cell (p := ⟨w1.heap.size, 0, none⟩) (by simp <;> omega)).trans (by first | assumption | (simp (maxDischargeDepth := 9) [go_sem, *]; done))
      have c1w7 : w7.cell? ⟨w1.heap.size, 1, none⟩ = some (.int .i64 e0) := (hb7.cell (p := ⟨w1.heap.size, 1, none⟩) (by simp <;> omega)).trans (by first | assumption | (simp (maxDischargeDepth := 9) [go_sem, *]; done))
      have d0w7 : w7.cell? ⟨w5.heap.size, 0, none⟩ = some (.int .i64 x) := (hb7.cell (p := ⟨w5.heap.size, 0, none⟩) (by simp <;> omega)).trans (by first | assumption | (simp (maxDischargeDepth := 9) [go_sem, *]; done))
      have d1w7 : w7.cell? ⟨w5.heap.size, 1, none⟩ = some (.int .i64 y) := (hb7.cell (p := ⟨w5.heap.size, 1, none⟩) (by simp <;> omega)).trans (by first | assumption | (simp (maxDischargeDepth := 9) [go_sem, *]; done))
      have g0w7 : w7.cell? ⟨w6.heap.size, 0, none⟩ = some (.int .i64 x) := (hb7.cell (p := ⟨w6.heap.size, 0, none⟩) (by simp <;> omega)).trans (by first | assumption | (simp (maxDischargeDepth := 9) [go_sem, *]; done))
      have g1w7 : w7.cell? ⟨w6.heap.size, 1, none⟩ = some (.int .i64 y) := (hb7.cell (p := ⟨w6.heap.size, 1, none⟩) (by simp <;> omega)).trans (by first | assumption | (simp (maxDischargeDepth := 9) [go_sem, *]; done))
      have hbG : Below w.heap.size w w7 := bel_trans (bel_alloc hbE _) hb7
      go_wp2_with fail
      refine (implwo_eq _ HO).mono ?_
      rintro e w9 ⟨rfl, hb9⟩
      have zw9 : w6.heap.size < w9.heap.size := by have h9 := hb9.size; (try simp at h9); omega
      have zw9a : w1.heap.size < w9.heap.size := by omega
      have zw9b : w5.heap.size < w9.heap.size := by omega
      have c0w9 : w9.cell? ⟨w1.heap.size, 0, none⟩ = some (.int .i64 s0) := (hb9.cell (p := ⟨w1.heap.size, 0, none⟩) (by simp <;> omega)).trans (by first | assumption | (simp (maxDischargeDepth := 9) [go_sem, *]; done))
      have c1w9 : w9.cell? ⟨w1.heap.size, 1, none⟩ = some (.int .i64 e0) := (hb9.cell (p := ⟨w1.heap.size, 1, none⟩) (by simp <;> omega)).trans (by first | assumption | (simp (maxDischargeDepth := 9) [go_sem, *]; done))
      have d0w9 : w9.cell? ⟨w5.heap.size, 0, none⟩ = some (.int .i64 x) := (hb9.cell (p := ⟨w5.heap.size, 0, none⟩) (by simp <;> omega)).trans (by first | assumption | (simp (maxDischargeDepth := 9) [go_sem, *]; done))
      have d1w9 : w9.cell? ⟨w5.heap.size, 1, none⟩ = some (.int .i64 y) := (hb9.cell (p := ⟨w5.heap.size, 1, none⟩) (by simp <;> omega)).trans (by first | assumption | (simp (maxDischargeDepth := 9) [go_sem, *]; done))
      have g0w9 : w9.cell? ⟨w6.heap.size, 0, none⟩ = some (.int .i64 x) := (hb9.cell (p := ⟨w6.heap.size, 0, none⟩) (by simp <;> omega)).trans (by first | assumption | (simp (maxDischargeDepth := 9) [go_sem, *]; done))
      have g1w9 : w9.cell? ⟨w6.heap.size, 1, none⟩ = some (.int .i64 y) := (hb9.cell (p := ⟨w6.heap.size, 1, none⟩) (by simp <;> omega)).trans (by first | assumption | (simp (maxDischargeDepth := 9) [go_sem, *]; done))
      have hbI : Below w.heap.size w w9 := bel_trans hbG hb9
      go_wp2_with fail
      refine (implwt_eq (ST := ⟨#[51, 46, 46, 49, 50]⟩) _ ((unhide HE).bel hbI).tab (hide win312)).mono ?_
      rintro e w10 ⟨rfl, hb10⟩
      go_wp2
      go_ret
      exact ⟨by first | rfl | (simp; done), bel_trans hbI hb10⟩
    · go_wp2_with fail
      refine (specwt_eq _ HST).mono ?_
      rintro e w7 ⟨rfl, hb7⟩
      have zw7 : w6.heap.size < w7.heap.size := by have h9 := hb7.size; (try simp at h9); omega
      have zw7a : w1.heap.size < w7.heap.size := by omega
      have zw7b : w5.heap.size < w7.heap.size := by omega
      have c0w7 : w7.cell? ⟨w1.heap.size, 0, none⟩ = some (.int .i64 s0) := (hb7.cell (p := ⟨w1.heap.size, 0, none⟩) (by simp <;> omega)).trans (by first | assumption | (simp (maxDischargeDepth := 9) [go_sem, *]; done))
      have c1w7 : w7.cell? ⟨w1.heap.size, 1, none⟩ = some (.int .i64 e0) := (hb7.cell (p := ⟨w1.heap.size, 1, none⟩) (by simp <;> omega)).trans (by first | assumption | (simp (maxDischargeDepth := 9) [go_sem, *]; done))
      have d0w7 : w7.cell? ⟨w5.heap.size, 0, none⟩ = some (.int .i64 x) := (hb7.cell (p := ⟨w5.heap.size, 0, none⟩) (by simp <;> omega)).trans (by first | assumption | (simp (maxDischargeDepth := 9) [go_sem, *]; done))
      have d1w7 : w7.cell? ⟨w5.heap.size, 1, none⟩ = some (.int .i64 y) := (hb7.cell (p := ⟨w5.heap.size, 1, none⟩) (by simp <;> omega)).trans (by first | assumption | (simp (maxDischargeDepth := 9) [go_sem, *]; done))
      have g0w7 : w7.cell? ⟨w6.heap.size, 0, none⟩ = some (.int .i64 x) := (hb7.cell (p := ⟨w6.heap.size, 0, none⟩) (by simp <;> omega)).trans (by first | assumption | (simp (maxDischargeDepth := 9) [go_sem, *]; done))
      have g1w7 : w7.cell? ⟨w6.heap.size, 1, none⟩ = some (.int .i64 y) := (hb7.cell (p := ⟨w6.heap.size, 1, none⟩) (by simp <;> omega)).trans (by first | assumption | (simp (maxDischargeDepth := 9) [go_sem, *]; done))
      have hbG : Below w.heap.size w w7 := bel_trans (bel_alloc hbE _) hb7
      have HTT : Hid (winText x y = TT) := hide (wr_text (unhide HR1))
      go_wp2_with fail
      refine (implwt_eq _ ((unhide HE).bel hbG).tab HTT).mono ?_
      rintro e w8 ⟨rfl, hb8⟩
      have zw8 : w6.heap.size < w8.heap.size := by have h9 := hb8.size; (try simp at h9); omega
      have zw8a : w1.heap.size < w8.heap.size := by omega
      have zw8b : w5.heap.size < w8.heap.size := by omega
      have c0w8 : w8.cell? ⟨w1.heap.size, 0, none⟩ = some (.int .i64 s0) := (hb8.cell (p := ⟨w1.heap.size, 0, none⟩) (by simp <;> omega)).trans (by first | assumption | (simp (maxDischargeDepth := 9) [go_sem, *]; done))
      have c1w8 : w8.cell? ⟨w1.heap.size, 1, none⟩ = some (.int .i64 e0) := (hb8.cell (p := ⟨w1.heap.size, 1, none⟩) (by simp <;> omega)).trans (by first | assumption | (simp (maxDischargeDepth := 9) [go_sem, *]; done))
      have d0w8 : w8.cell? ⟨w5.heap.size, 0, none⟩ = some (.int .i64 x) := (hb8.cell (p := ⟨w5.heap.size, 0, none⟩) (by simp <;> omega)).trans (by first | assumption | (simp (maxDischargeDepth := 9) [go_sem, *]; done))
      have d1w8 : w8.cell? ⟨w5.heap.size, 1, none⟩ = some (.int .i64 y) := (hb8.cell (p := ⟨w5.heap.size, 1, none⟩) (by simp <;> omega)).trans (by first | assumption | (simp (maxDischargeDepth := 9) [go_sem, *]; done))
      have g0w8 : w8.cell? ⟨w6.heap.size, 0, none⟩ = some (.int .i64 x) := (hb8.cell (p := ⟨w6.heap.size, 0, none⟩) (by simp <;> omega)).trans (by first | assumption | (simp (maxDischargeDepth := 9) [go_sem, *]; done))
      have g1w8 : w8.cell? ⟨w6.heap.size, 1, none⟩ = some (.int .i64 y) := (hb8.cell (p := ⟨w6.heap.size, 1, none⟩) (by simp <;> omega)).trans (by first | assumption | (simp (maxDischargeDepth := 9) [go_sem, *]; done))
      have hbH : Below w.heap.size w w8 := bel_trans hbG hb8
      go_wp2_with fail
      refine (implwo_eq _ HO).mono ?_
      rintro e w9 ⟨rfl, hb9⟩
      have zw9 : w6.heap.size < w9.heap.size := by have h9 := hb9.size; (try simp at h9); omega
      have zw9a : w1.heap.size < w9.heap.size := by omega
      have zw9b : w5.heap.size < w9.heap.size := by omega
      have c0w9 : w9.cell? ⟨w1.heap.size, 0, none⟩ = some (.int .i64 s0) := (hb9.cell (p := ⟨w1.heap.size, 0, none⟩) (by simp <;> omega)).trans (by first | assumption | (simp (maxDischargeDepth := 9) [go_sem, *]; done))
      have c1w9 : w9.cell? ⟨w1.heap.size, 1, none⟩ = some (.int .i64 e0) := (hb9.cell (p := ⟨w1.heap.size, 1, none⟩) (by simp <;> omega)).trans (by first | assumption | (simp (maxDischargeDepth := 9) [go_sem, *]; done))
      have d0w9 : w9.cell? ⟨w5.heap.size, 0, none⟩ = some (.int .i64 x) := (hb9.cell (p := ⟨w5.heap.size, 0, none⟩) (by simp <;> omega)).trans (by first | assumption | (simp (maxDischargeDepth := 9) [go_sem, *]; done))
      have d1w9 : w9.cell? ⟨w5.heap.size, 1, none⟩ = some (.int .i64 y) := (hb9.cell (p := ⟨w5.heap.size, 1, none⟩) (by simp <;> omega)).trans (by first | assumption | (simp (maxDischargeDepth := 9) [go_sem, *]; done))
      have g0w9 : w9.cell? ⟨w6.heap.size, 0, none⟩ = some (.int .i64 x) := (hb9.cell (p := ⟨w6.heap.size, 0, none⟩) (by simp <;> omega)).trans (by first | assumption | (simp (maxDischargeDepth := 9) [go_sem, *]; done))
      have g1w9 : w9.cell? ⟨w6.heap.size, 1, none⟩ = some (.int .i64 y) := (hb9.cell (p := ⟨w6.heap.size, 1, none⟩) (by simp <;> omega)).trans (by first | assumption | (simp (maxDischargeDepth := 9) [go_sem, *]; done))
      have hbI : Below w.heap.size w w9 := bel_trans hbH hb9
      go_wp2_with fail
      refine (implwt_eq (ST := ⟨#[51, 46, 46, 49, 50]⟩) _ ((unhide HE).bel hbI).tab (hide win312)).mono ?_
      rintro e w10 ⟨rfl, hb10⟩
      go_wp2
      go_ret
      exact ⟨by first | rfl | (simp; done), bel_trans hbI hb10⟩
  · have HO := hide ho
    have HSW : Hid (WinR ST s0 e0 true) := hide (Or.inl ⟨rfl, ho, (winText_ok ho).symm.trans hST⟩)
    have hne : ST ≠ ⟨#[]⟩ := by
      rw [← hST, winText_ok ho]
      exact size_ne (by unfold winTxt; simp only [ByteArray.size_append]; have : (⟨#[46, 46]⟩ : ByteArray).size = 2 := rfl; omega)
    have hne2 : ST.toList.isEmpty = false := by
      rw [toList_data]
      cases h9 : ST.data.toList with
      | nil => exact absurd (ByteArray.ext (Array.toList_inj.1 (by rw [h9]))) hne
      | cons _ _ => rfl
    clear hST ho
    cases c
    · go_wp2_with fail
      refine (specwt_eq _ HST).mono ?_
      rintro e w7 ⟨rfl, hb7⟩
      have zw7 : w6.heap.size < w7.heap.size := by have h9 := hb7.size; (try simp at h9); omega
      have zw7a : w1.heap.size < w7.heap.size := by omega
      have zw7b : w5.heap.size < w7.heap.size := by omega
      have c0w7 : w7.cell? ⟨w1.heap.size, 0, none⟩ = some (.int .i64 s0) := (hb7.cell (p := ⟨w1.heap.size, 0, none⟩) (by simp <;> omega)).trans (by first | assumption | (simp (maxDischargeDepth := 9) [go_sem, *]; done))
      have c1w7 : w7.cell? ⟨w1.heap.size, 1, none⟩ = some (.int .i64 e0) := (hb7.cell (p := ⟨w1.heap.size, 1, none⟩) (by simp <;> omega)).trans (by first | assumption | (simp (maxDischargeDepth := 9) [go_sem, *]; done))
      have d0w7 : w7.cell? ⟨w5.heap.size, 0, none⟩ = some (.int .i64 x) := (hb7.cell (p := ⟨w5.heap.size, 0, none⟩) (by simp <;> omega)).trans (by first | assumption | (simp (maxDischargeDepth := 9) [go_sem, *]; done))
      have d1w7 : w7.cell? ⟨w5.heap.size, 1, none⟩ = some (.int .i64 y) := (hb7.cell (p := ⟨w5.heap.size, 1, none⟩) (by simp <;> omega)).trans (by first | assumption | (simp (maxDischargeDepth := 9) [go_sem, *]; done))
      have g0w7 : w7.cell? ⟨w6.heap.size, 0, none⟩ = some (.int .i64 x) := (hb7.cell (p := ⟨w6.heap.size, 0, none⟩) (by simp <;> omega)).trans (by first | assumption | (simp (maxDischargeDepth := 9) [go_sem, *]; done))
      have g1w7 : w7.cell? ⟨w6.heap.size, 1, none⟩ = some (.int .i64 y) := (hb7.cell (p := ⟨w6.heap.size, 1, none⟩) (by simp <;> omega)).trans (by first | assumption | (simp (maxDischargeDepth := 9) [go_sem, *]; done))
      have hbG : Below w.heap.size w w7 := bel_trans (bel_alloc hbE _) hb7
      go_wp2_with fail
      refine (implwo_eq _ HO).mono ?_
      rintro e w9 ⟨rfl, hb9⟩
      have zw9 : w6.heap.size < w9.heap.size := by have h9 := hb9.size; (try simp at h9); omega
      have zw9a : w1.heap.size < w9.heap.size := by omega
      have zw9b : w5.heap.size < w9.heap.size := by omega
      have c0w9 : w9.cell? ⟨w1.heap.size, 0, none⟩ = some (.int .i64 s0) := (hb9.cell (p := ⟨w1.heap.size, 0, none⟩) (by simp <;> omega)).trans (by first | assumption | (simp (maxDischargeDepth := 9) [go_sem, *]; done))
      have c1w9 : w9.cell? ⟨w1.heap.size, 1, none⟩ = some (.int .i64 e0) := (hb9.cell (p := ⟨w1.heap.size, 1, none⟩) (by simp <;> omega)).trans (by first | assumption | (simp (maxDischargeDepth := 9) [go_sem, *]; done))
      have d0w9 : w9.cell? ⟨w5.heap.size, 0, none⟩ = some (.int .i64 x) := (hb9.cell (p := ⟨w5.heap.size, 0, none⟩) (by simp <;> omega)).trans (by first | assumption | (simp (maxDischargeDepth := 9) [go_sem, *]; done))
      have d1w9 : w9.cell? ⟨w5.heap.size, 1, none⟩ = some (.int .i64 y) := (hb9.cell (p := ⟨w5.heap.size, 1, none⟩) (by simp <;> omega)).trans (by first | assumption | (simp (maxDischargeDepth := 9) [go_sem, *]; done))
      have g0w9 : w9.cell? ⟨w6.heap.size, 0, none⟩ = some (.int .i64 x) := (hb9.cell (p := ⟨w6.heap.size, 0, none⟩) (by simp <;> omega)).trans (by first | assumption | (simp (maxDischargeDepth := 9) [go_sem, *]; done))
      have g1w9 : w9.cell? ⟨w6.heap.size, 1, none⟩ = some (.int .i64 y) := (hb9.cell (p := ⟨w6.heap.size, 1, none⟩) (by simp <;> omega)).trans (by first | assumption | (simp (maxDischargeDepth := 9) [go_sem, *]; done))
      have hbI : Below w.heap.size w w9 := bel_trans hbG hb9
      go_wp2_with fail
      refine (implread_any ((unhide HE).bel hbI) hSz).mono ?_
      rintro e w10 ⟨x', y', c', rfl, hR2, hb10⟩
      obtain ⟨rfl, rfl, rfl⟩ := (unhide HSW).same hR2
      clear hR2
      have zw10 : w6.heap.size < w10.heap.size := by have h9 := hb10.size; (try simp at h9); omega
      have zw10a : w1.heap.size < w10.heap.size := by omega
      have zw10b : w5.heap.size < w10.heap.size := by omega
      have c0w10 : w10.cell? ⟨w1.heap.size, 0, none⟩ = some (.int .i64 s0) := (hb10.cell (p := ⟨w1.heap.size, 0, none⟩) (by simp <;> omega)).trans (by first | assumption | (simp (maxDischargeDepth := 9) [go_sem, *]; done))
      have c1w10 : w10.cell? ⟨w1.heap.size, 1, none⟩ = some (.int .i64 e0) := (hb10.cell (p := ⟨w1.heap.size, 1, none⟩) (by simp <;> omega)).trans (by first | assumption | (simp (maxDischargeDepth := 9) [go_sem, *]; done))
      have d0w10 : w10.cell? ⟨w5.heap.size, 0, none⟩ = some (.int .i64 x) := (hb10.cell (p := ⟨w5.heap.size, 0, none⟩) (by simp <;> omega)).trans (by first | assumption | (simp (maxDischargeDepth := 9) [go_sem, *]; done))
      have d1w10 : w10.cell? ⟨w5.heap.size, 1, none⟩ = some (.int .i64 y) := (hb10.cell (p := ⟨w5.heap.size, 1, none⟩) (by simp <;> omega)).trans (by first | assumption | (simp (maxDischargeDepth := 9) [go_sem, *]; done))
      have g0w10 : w10.cell? ⟨w6.heap.size, 0, none⟩ = some (.int .i64 x) := (hb10.cell (p := ⟨w6.heap.size, 0, none⟩) (by simp <;> omega)).trans (by first | assumption | (simp (maxDischargeDepth := 9) [go_sem, *]; done))
      have g1w10 : w10.cell? ⟨w6.heap.size, 1, none⟩ = some (.int .i64 y) := (hb10.cell (p := ⟨w6.heap.size, 1, none⟩) (by simp <;> omega)).trans (by first | assumption | (simp (maxDischargeDepth := 9) [go_sem, *]; done))
      have hbJ : Below w.heap.size w w10 := bel_trans hbI hb10
      go_wp2
      go_ret
      exact ⟨by first | rfl | (simp; done), bel_alloc hbJ _⟩
    · go_wp2_with fail
      refine (specwt_eq _ HST).mono ?_
      rintro e w7 ⟨rfl, hb7⟩
      have zw7 : w6.heap.size < w7.heap.size := by have h9 := hb7.size; (try simp at h9); omega
      have zw7a : w1.heap.size < w7.heap.size := by omega
      have zw7b : w5.heap.size < w7.heap.size := by omega
      have c0w7 : w7.cell? ⟨w1.heap.size, 0, none⟩ = some (.int .i64 s0) := (hb7.cell (p := ⟨w1.heap.size, 0, none⟩) (by simp <;> omega)).trans (by first | assumption | (simp (maxDischargeDepth := 9) [go_sem, *]; done))
      have c1w7 : w7.cell? ⟨w1.heap.size, 1, none⟩ = some (.int .i64 e0) := (hb7.cell (p := ⟨w1.heap.size, 1, none⟩) (by simp <;> omega)).trans (by first | assumption | (simp (maxDischargeDepth := 9) [go_sem, *]; done))
      have d0w7 : w7.cell? ⟨w5.heap.size, 0, none⟩ = some (.int .i64 x) := (hb7.cell (p := ⟨w5.heap.size, 0, none⟩) (by simp <;> omega)).trans (by first | assumption | (simp (maxDischargeDepth := 9) [go_sem, *]; done))
      have d1w7 : w7.cell? ⟨w5.heap.size, 1, none⟩ = some (.int .i64 y) := (hb7.cell (p := ⟨w5.heap.size, 1, none⟩) (by simp <;> omega)).trans (by first | assumption | (simp (maxDischargeDepth := 9) [go_sem, *]; done))
      have g0w7 : w7.cell? ⟨w6.heap.size, 0, none⟩ = some (.int .i64 x) := (hb7.cell (p := ⟨w6.heap.size, 0, none⟩) (by simp <;> omega)).trans (by first | assumption | (simp (maxDischargeDepth := 9) [go_sem, *]; done))
      have g1w7 : w7.cell? ⟨w6.heap.size, 1, none⟩ = some (.int .i64 y) := (hb7.cell (p := ⟨w6.heap.size, 1, none⟩) (by simp <;> omega)).trans (by first | assumption | (simp (maxDischargeDepth := 9) [go_sem, *]; done))
      have hbG : Below w.heap.size w w7 := bel_trans (bel_alloc hbE _) hb7
      have HTT : Hid (winText x y = TT) := hide (wr_text (unhide HR1))
      go_wp2_with fail
      refine (implwt_eq _ ((unhide HE).bel hbG).tab HTT).mono ?_
      rintro e w8 ⟨rfl, hb8⟩
      have zw8 : w6.heap.size < w8.heap.size := by have h9 := hb8.size; (try simp at h9); omega
      have zw8a : w1.heap.size < w8.heap.size := by omega
      have zw8b : w5.heap.size < w8.heap.size := by omega
      have c0w8 : w8.cell? ⟨w1.heap.size, 0, none⟩ = some (.int .i64 s0) := (hb8.cell (p := ⟨w1.heap.size, 0, none⟩) (by simp <;> omega)).trans (by first | assumption | (simp (maxDischargeDepth := 9) [go_sem, *]; done))
      have c1w8 : w8.cell? ⟨w1.heap.size, 1, none⟩ = some (.int .i64 e0) := (hb8.cell (p := ⟨w1.heap.size, 1, none⟩) (by simp <;> omega)).trans (by first | assumption | (simp (maxDischargeDepth := 9) [go_sem, *]; done))
      have d0w8 : w8.cell? ⟨w5.heap.size, 0, none⟩ = some (.int .i64 x) := (hb8.cell (p := ⟨w5.heap.size, 0, none⟩) (by simp <;> omega)).trans (by first | assumption | (simp (maxDischargeDepth := 9) [go_sem, *]; done))
      have d1w8 : w8.cell? ⟨w5.heap.size, 1, none⟩ = some (.int .i64 y) := (hb8.cell (p := ⟨w5.heap.size, 1, none⟩) (by simp <;> omega)).trans (by first | assumption | (simp (maxDischargeDepth := 9) [go_sem, *]; done))
      have g0w8 : w8.cell? ⟨w6.heap.size, 0, none⟩ = some (.int .i64 x) := (hb8.cell (p := ⟨w6.heap.size, 0, none⟩) (by simp <;> omega)).trans (by first | assumption | (simp (maxDischargeDepth := 9) [go_sem, *]; done))
      have g1w8 : w8.cell? ⟨w6.heap.size, 1, none⟩ = some (.int .i64 y) := (hb8.cell (p := ⟨w6.heap.size, 1, none⟩) (by simp <;> omega)).trans (by first | assumption | (simp (maxDischargeDepth := 9) [go_sem, *]; done))
      have hbH : Below w.heap.size w w8 := bel_trans hbG hb8
      go_wp2_with fail
      refine (implwo_eq _ HO).mono ?_
      rintro e w9 ⟨rfl, hb9⟩
      have zw9 : w6.heap.size < w9.heap.size := by have h9 := hb9.size; (try simp at h9); omega
      have zw9a : w1.heap.size < w9.heap.size := by omega
      have zw9b : w5.heap.size < w9.heap.size := by omega
      have c0w9 : w9.cell? ⟨w1.heap.size, 0, none⟩ = some (.int .i64 s0) := (hb9.cell (p := ⟨w1.heap.size, 0, none⟩) (by simp <;> omega)).trans (by first | assumption | (simp (maxDischargeDepth := 9) [go_sem, *]; done))
      have c1w9 : w9.cell? ⟨w1.heap.size, 1, none⟩ = some (.int .i64 e0) := (hb9.cell (p := ⟨w1.heap.size, 1, none⟩) (by simp <;> omega)).trans (by first | assumption | (simp (maxDischargeDepth := 9) [go_sem, *]; done))
      have d0w9 : w9.cell? ⟨w5.heap.size, 0, none⟩ = some (.int .i64 x) := (hb9.cell (p := ⟨w5.heap.size, 0, none⟩) (by simp <;> omega)).trans (by first | assumption | (simp (maxDischargeDepth := 9) [go_sem, *]; done))
      have d1w9 : w9.cell? ⟨w5.heap.size, 1, none⟩ = some (.int .i64 y) := (hb9.cell (p := ⟨w5.heap.size, 1, none⟩) (by simp <;> omega)).trans (by first | assumption | (simp (maxDischargeDepth := 9) [go_sem, *]; done))
      have g0w9 : w9.cell? ⟨w6.heap.size, 0, none⟩ = some (.int .i64 x) := (hb9.cell (p := ⟨w6.heap.size, 0, none⟩) (by simp <;> omega)).trans (by first | assumption | (simp (maxDischargeDepth := 9) [go_sem, *]; done))
      have g1w9 : w9.cell? ⟨w6.heap.size, 1, none⟩ = some (.int .i64 y) := (hb9.cell (p := ⟨w6.heap.size, 1, none⟩) (by simp <;> omega)).trans (by first | assumption | (simp (maxDischargeDepth := 9) [go_sem, *]; done))
      have hbI : Below w.heap.size w w9 := bel_trans hbH hb9
      go_wp2_with fail
      refine (implread_any ((unhide HE).bel hbI) hSz).mono ?_
      rintro e w10 ⟨x', y', c', rfl, hR2, hb10⟩
      obtain ⟨rfl, rfl, rfl⟩ := (unhide HSW).same hR2
      clear hR2
      have zw10 : w6.heap.size < w10.heap.size := by have h9 := hb10.size; (try simp at h9); omega
      have zw10a : w1.heap.size < w10.heap.size := by omega
      have zw10b : w5.heap.size < w10.heap.size := by omega
      have c0w10 : w10.cell? ⟨w1.heap.size, 0, none⟩ = some (.int .i64 s0) := (hb10.cell (p := ⟨w1.heap.size, 0, none⟩) (by simp <;> omega)).trans (by first | assumption | (simp (maxDischargeDepth := 9) [go_sem, *]; done))
      have c1w10 : w10.cell? ⟨w1.heap.size, 1, none⟩ = some (.int .i64 e0) := (hb10.cell (p := ⟨w1.heap.size, 1, none⟩) (by simp <;> omega)).trans (by first | assumption | (simp (maxDischargeDepth := 9) [go_sem, *]; done))
      have d0w10 : w10.cell? ⟨w5.heap.size, 0, none⟩ = some (.int .i64 x) := (hb10.cell (p := ⟨w5.heap.size, 0, none⟩) (by simp <;> omega)).trans (by first | assumption | (simp (maxDischargeDepth := 9) [go_sem, *]; done))
      have d1w10 : w10.cell? ⟨w5.heap.size, 1, none⟩ = some (.int .i64 y) := (hb10.cell (p := ⟨w5.heap.size, 1, none⟩) (by simp <;> omega)).trans (by first | assumption | (simp (maxDischargeDepth := 9) [go_sem, *]; done))
      have g0w10 : w10.cell? ⟨w6.heap.size, 0, none⟩ = some (.int .i64 x) := (hb10.cell (p := ⟨w6.heap.size, 0, none⟩) (by simp <;> omega)).trans (by first | assumption | (simp (maxDischargeDepth := 9) [go_sem, *]; done))
      have g1w10 : w10.cell? ⟨w6.heap.size, 1, none⟩ = some (.int .i64 y) := (hb10.cell (p := ⟨w6.heap.size, 1, none⟩) (by simp <;> omega)).trans (by first | assumption | (simp (maxDischargeDepth := 9) [go_sem, *]; done))
      have hbJ : Below w.heap.size w w10 := bel_trans hbI hb10
      go_wp2
      go_ret
      exact ⟨by first | rfl | (simp; done), bel_alloc hbJ _⟩
end Go.Proofs.YtkadmigecojpoaaDoor
