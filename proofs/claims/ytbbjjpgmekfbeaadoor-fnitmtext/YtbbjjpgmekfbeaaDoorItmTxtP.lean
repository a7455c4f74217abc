/- Proved here: the law on the items' texts returns true at every two codes. -/
import Derived.Test.YtbbjjpgmekfbeaaDoorDrawItm
import Derived.Test.YtbbjjpgmekfbeaaDoorDrawTxt
import Derived.Test.YtbbjjpgmekfbeaaDoorItmRdK
namespace Go.Proofs.YtbbjjpgmekfbeaaDoor
open Go.ChangeShapes Go.WideShapes Go.ChangeAt Go.RowKit
set_option linter.unusedVariables false


set_option maxRecDepth 20000 in
theorem drawit_any (a : Option Addr) (len cap : Nat) (w : World) (hlc : len ≤ cap) (hlm : len ≤ 1048576) (hb : BytesAt w a len) (hl : ∀ g o, a = some ⟨g, o, none⟩ → 0 < len → g < w.heap.size) (hn : a = none → cap = 0) : Calls Tryd.prog 14 #[.slice a len cap] w fun e w' => ∃ q t k v n : Int, e = .returned (.agg #[.int .i64 q, .int .i64 t, .int .i64 k, .int .i64 v, .int .i64 n]) ∧ Below w.heap.size w w' := by
  have hbX : Below w.heap.size w (w.alloc (.cells #[.int .i64 0, .int .i64 0, .int .i64 0, .int .i64 0, .int .i64 0] 23)) := bel_one _ _
  have hb' := BytesAt.bel hb hl hbX
  have hl' : ∀ g o, a = some ⟨g, o, none⟩ → 0 < len → g < (w.alloc (.cells #[.int .i64 0, .int .i64 0, .int .i64 0, .int .i64 0, .int .i64 0] 23)).heap.size := fun g o ha hp => Nat.lt_of_lt_of_le (hl g o ha hp) hbX.size
  go_enter Tryd.func14, Tryd.ntmps14
  go_wp2_with fail
  refine (open_any a len cap _ hlc hlm hb' hl' hn).mono ?_
  rintro e w1 ⟨R, len', cap', rfl, h1, h2, hb1, hr⟩
  have h1' : w.heap.size < R := by simp at h1; omega
  go_wp2_with fail
  refine (item_any R a len' cap' 0 4 w1 (by omega) (by omega) (by omega) h2 hr).mono ?_
  rintro e w2 ⟨q, t, k, v, n, rfl, kp, -⟩
  have h3 := kp.low.size
  have h4 : w.heap.size < w2.heap.size := by omega
  have hbW : Below (w.alloc (.cells #[.int .i64 0, .int .i64 0, .int .i64 0, .int .i64 0, .int .i64 0] 23)).heap.size (w.alloc (.cells #[.int .i64 0, .int .i64 0, .int .i64 0, .int .i64 0, .int .i64 0] 23)) w2 := hb1.trans (kp.low.mono h1)
  have hR9 := (hbW.block w.heap.size (by simp)).trans blk_at0
  have r0 : w2.cell? ⟨w.heap.size, 0, none⟩ = some (.int .i64 0) := by simp [World.cell?, hR9, go_sem]
  have rf0 : w2.frozen? ⟨w.heap.size, 0, none⟩ = false := by simp [World.frozen?, hR9, go_sem]
  have r1 : w2.cell? ⟨w.heap.size, 1, none⟩ = some (.int .i64 0) := by simp [World.cell?, hR9, go_sem]
  have rf1 : w2.frozen? ⟨w.heap.size, 1, none⟩ = false := by simp [World.frozen?, hR9, go_sem]
  have r2 : w2.cell? ⟨w.heap.size, 2, none⟩ = some (.int .i64 0) := by simp [World.cell?, hR9, go_sem]
  have rf2 : w2.frozen? ⟨w.heap.size, 2, none⟩ = false := by simp [World.frozen?, hR9, go_sem]
  have r3 : w2.cell? ⟨w.heap.size, 3, none⟩ = some (.int .i64 0) := by simp [World.cell?, hR9, go_sem]
  have rf3 : w2.frozen? ⟨w.heap.size, 3, none⟩ = false := by simp [World.frozen?, hR9, go_sem]
  have r4 : w2.cell? ⟨w.heap.size, 4, none⟩ = some (.int .i64 0) := by simp [World.cell?, hR9, go_sem]
  have rf4 : w2.frozen? ⟨w.heap.size, 4, none⟩ = false := by simp [World.frozen?, hR9, go_sem]
  have hbF : Below w.heap.size w w2 := bel_trans hbX hbW
  clear hr hb hb' hl hl' kp
  go_wp2
  refine bodyPost_ret (v := .agg #[.int .i64 q, .int .i64 t, .int .i64 k, .int .i64 v, .int .i64 n]) (by simp (maxDischargeDepth := 9) [results, Tryd.results14, go_sem, *]) rfl ⟨q, t, k, v, n, rfl, (by repeat (first | (with_reducible exact Below.refl _ _) | (with_reducible assumption) | (with_reducible refine bel_set ?_ (by first | (simp; done) | (simp; omega)) _) | (with_reducible refine bel_alloc ?_ _) | (with_reducible refine bel_drew ?_) | (with_reducible refine bel_drewN ?_ _) | (with_reducible refine bel_trans ?_ (by with_reducible assumption))))⟩

theorem itmText_size (q t k v n : Int) : (itmText q t k v n).size ≤ 80 := by
  cases ho : okItm q t k v n
  · rw [itmText_no ho]; decide
  · rw [itmText_ok ho]; exact itmTxt_size _ _ _ _ _ ho
set_option maxRecDepth 20000 in
theorem drawir_any (a : Option Addr) (len cap : Nat) (w : World) (hlc : len ≤ cap) (hlm : len ≤ 1048576) (hb : BytesAt w a len) (hl : ∀ g o, a = some ⟨g, o, none⟩ → 0 < len → g < w.heap.size) (hn : a = none → cap = 0) : Calls Tryd.prog 16 #[.slice a len cap] w fun e w' => ∃ s : ByteArray, e = .returned (.string s) ∧ s.size ≤ 101 ∧ Below w.heap.size w w' := by
  go_enter Tryd.func16, Tryd.ntmps16
  go_wp2_with fail
  refine (open_any a len cap _ hlc hlm hb hl hn).mono ?_
  rintro e w1 ⟨R, len', cap', rfl, h1, h2, hb1, hr⟩
  clear hb hl
  go_wp2_with fail
  refine (item_any R a len' cap' 0 99 w1 (by omega) (by omega) (by omega) h2 hr).mono ?_
  rintro e w2 ⟨q, t, k, v, n, rfl, kp, p', hp', hr2⟩
  have h3 : R < w2.heap.size := Nat.lt_of_lt_of_le h2 kp.low.size
  go_wp2_with fail
  refine (specitmtext_any q t k v n _).mono ?_
  rintro e w3 ⟨rfl, hb3⟩
  have hz := itmText_size q t k v n
  generalize itmText q t k v n = ST at hz ⊢
  have h4 : R < w3.heap.size := Nat.lt_of_lt_of_le h3 hb3.size
  go_wp2_with fail
  refine (maybe_any R a len' cap' p' ST w3 (by omega) (by omega) h4 (hr2.kp h3 hb3)).mono ?_
  rintro e w4 ⟨s', rfl, hs', k2⟩
  go_wp2
  go_ret
  exact ⟨_, rfl, by omega, (hb1.trans (kp.low.mono h1)).trans ((hb3.mono (by omega)).trans (k2.low.mono h1))⟩

theorem implit_eq {q t k v n : Int} {ST : ByteArray} (w : World) (htab : Lib.TabIs Tryd.prog w "internal/strconv.uint64pow10" .u64 Lib.pow10Tab) (h : Hid (itmText q t k v n = ST)) : Calls Tryd.prog 15 #[.agg #[.int .i64 q, .int .i64 t, .int .i64 k, .int .i64 v, .int .i64 n]] w fun e w' => e = .returned (.string ST) ∧ Below w.heap.size w w' := by
  rw [← unhide h]; exact implitmtext_any q t k v n w htab
theorem implio_eq {q t k v n : Int} {o : Bool} (w : World) (h : Hid (okItm q t k v n = o)) : Calls Tryd.prog 18 #[.agg #[.int .i64 q, .int .i64 t, .int .i64 k, .int .i64 v, .int .i64 n]] w fun e w' => e = .returned (.bool o) ∧ Below w.heap.size w w' := by
  rw [← unhide h]; exact implitm_any q t k v n w
theorem mark1000 : itmText 2 1000 0 0 0 = ⟨#[109, 97, 114, 107, 32, 49, 48, 48, 48]⟩ := by
  have h1 : decI 1000 = ⟨#[49, 48, 48, 48]⟩ := by
    refine ByteArray.ext (Array.toList_inj.1 ?_)
    rw [decI_l, if_neg (by decide), show (1000 : Int).toNat = 1000 from rfl, dec_ge (by omega), dec_ge (by omega), dec_ge (by omega), dec_lt (by omega)]; rfl
  rw [itmText_ok (by decide), itmTxt, h1]
  rfl
theorem ir_text {s : ByteArray} {q t k v n : Int} (h : ItR s q t k v n true) : itmText q t k v n = s := by
  rcases h with ⟨_, h1, h2⟩ | ⟨h1, _⟩
  · rw [itmText_ok h1, h2]
  · cases h1

set_option linter.unusedSimpArgs false in
set_option maxRecDepth 20000 in
set_option maxHeartbeats 8000000 in
theorem lawItmTextP (a : Option Addr) (len cap : Nat) (a2 : Option Addr) (len2 cap2 : Nat) (w : World) (hlc : len ≤ cap) (hm : len ≤ maxLen) (hb : BytesAt w a len) (hl : ∀ g o, a = some ⟨g, o, none⟩ → 0 < len → g < w.heap.size) (hn : a = none → cap = 0) (hlc2 : len2 ≤ cap2) (hm2 : len2 ≤ maxLen) (hb2 : BytesAt w a2 len2) (hl2 : ∀ g o, a2 = some ⟨g, o, none⟩ → 0 < len2 → g < w.heap.size) (hn2 : a2 = none → cap2 = 0) {tp1 tp2 : TypeId} {p1 p2 : Value} {m : Int} (hE : Env tp1 tp2 p1 p2 m w) : Calls Tryd.prog 6 #[.slice a len cap, .slice a2 len2 cap2] w fun e w' => e = .returned (.bool true) ∧ Below w.heap.size w w' := by
  unfold maxLen at hm hm2
  by_cases hlen : (1048576 : Int) < (len : Int)
  · go_enter Tryd.func6, Tryd.ntmps6
    go_wp2
    go_ret
    exact ⟨rfl, Below.refl _ _⟩
  by_cases hlen2 : (1048576 : Int) < (len2 : Int)
  · go_enter Tryd.func6, Tryd.ntmps6
    go_wp2
    go_ret
    exact ⟨rfl, Below.refl _ _⟩
  have HE := hide hE
  clear hE
  go_enter Tryd.func6, Tryd.ntmps6
  go_wp2_with fail
  refine (drawit_any a len cap w hlc (by omega) hb hl hn).mono ?_
  rintro e w1 ⟨q, t, k, v, n, rfl, hb1⟩
  obtain ⟨ST, hST⟩ : ∃ ST, itmText q t k v n = ST := ⟨_, rfl⟩
  have HST := hide hST
  have hbA : Below w.heap.size w (w1.alloc (.cells #[.int .i64 q, .int .i64 t, .int .i64 k, .int .i64 v, .int .i64 n] 23)) := bel_alloc hb1 _
  go_wp2_with fail
  refine (implit_eq _ ((unhide HE).bel hbA).tab HST).mono ?_
  rintro e w3 ⟨rfl, hb3⟩
  have hbB : Below w.heap.size w w3 := bel_trans hbA hb3
  have hb2' := BytesAt.bel hb2 hl2 hbB
  have hl2' : ∀ g o, a2 = some ⟨g, o, none⟩ → 0 < len2 → g < w3.heap.size := fun g o ha hp => Nat.lt_of_lt_of_le (hl2 g o ha hp) hbB.size
  clear hb hl hb2 hl2
  go_wp2_with fail
  refine (drawir_any a2 len2 cap2 w3 hlc2 (by omega) hb2' hl2' hn2).mono ?_
  rintro e w4 ⟨TT, rfl, hTT, hb4⟩
  have hbC : Below w.heap.size w w4 := bel_trans hbB hb4
  clear hb2' hl2'
  go_wp2_with fail
  refine (implitmread_any TT _ ((unhide HE).bel hbC)).mono ?_
  rintro e w5 ⟨x1, x2, x3, x4, x5, c, rfl, hR1, hb5⟩
  have hbD : Below w.heap.size w w5 := bel_trans hbC hb5
  have HR1 := hide hR1
  clear hR1
  go_wp2_with fail
  refine (specitmread_any TT _ (by omega)).mono ?_
  rintro e w6 ⟨y1, y2, y3, y4, y5, c', rfl, hR2, hb6⟩
  obtain ⟨rfl, rfl, rfl, rfl, rfl, rfl⟩ := (unhide HR1).same hR2
  clear hR2
  have hbE : Below w.heap.size w w6 := bel_trans hbD (bel_trans (bel_one _ _) hb6)
  have z1 : w1.heap.size < w3.heap.size := by have h9 := hb3.size; simp at h9; omega
  have z4 : w3.heap.size ≤ w4.heap.size := hb4.size
  have z5 : w4.heap.size ≤ w5.heap.size := hb5.size
  have z6 : w5.heap.size < w6.heap.size := by have h9 := hb6.size; simp at h9; omega
  have z16 : w1.heap.size < w6.heap.size := by omega
  have kc6 := (hb6.block w1.heap.size (by simp; omega)).trans (((bel_one w5 (.cells #[.int .i64 x1, .int .i64 x2, .int .i64 x3, .int .i64 x4, .int .i64 x5] 23)).block w1.heap.size (by omega)).trans ((hb5.block w1.heap.size (by omega)).trans ((hb4.block w1.heap.size (by omega)).trans ((hb3.block w1.heap.size (by simp)).trans blk_at0))))
  have kd6 := (hb6.block w5.heap.size (by simp)).trans blk_at0
  have kcW6 := ((bel_one w6 (.cells #[.int .i64 x1, .int .i64 x2, .int .i64 x3, .int .i64 x4, .int .i64 x5] 23)).block w1.heap.size z16).trans kc6
  have kdW6 := ((bel_one w6 (.cells #[.int .i64 x1, .int .i64 x2, .int .i64 x3, .int .i64 x4, .int .i64 x5] 23)).block w5.heap.size z6).trans kd6
  have kgW6 : (w6.alloc (.cells #[.int .i64 x1, .int .i64 x2, .int .i64 x3, .int .i64 x4, .int .i64 x5] 23)).heap[w6.heap.size]? = some (.cells #[.int .i64 x1, .int .i64 x2, .int .i64 x3, .int .i64 x4, .int .i64 x5] 23 (0, 0)) := blk_at0
  have hbE2 : Below w.heap.size w (w6.alloc (.cells #[.int .i64 x1, .int .i64 x2, .int .i64 x3, .int .i64 x4, .int .i64 x5] 23)) := bel_alloc hbE _
  have c0W6 : (w6.alloc (.cells #[.int .i64 x1, .int .i64 x2, .int .i64 x3, .int .i64 x4, .int .i64 x5] 23)).cell? ⟨w1.heap.size, 0, none⟩ = some (.int .i64 q) := by simp [World.cell?, kcW6, go_sem]
  have c1W6 : (w6.alloc (.cells #[.int .i64 x1, .int .i64 x2, .int .i64 x3, .int .i64 x4, .int .i64 x5] 23)).cell? ⟨w1.heap.size, 1, none⟩ = some (.int .i64 t) := by simp [World.cell?, kcW6, go_sem]
  have c2W6 : (w6.alloc (.cells #[.int .i64 x1, .int .i64 x2, .int .i64 x3, .int .i64 x4, .int .i64 x5] 23)).cell? ⟨w1.heap.size, 2, none⟩ = some (.int .i64 k) := by simp [World.cell?, kcW6, go_sem]
  have c3W6 : (w6.alloc (.cells #[.int .i64 x1, .int .i64 x2, .int .i64 x3, .int .i64 x4, .int .i64 x5] 23)).cell? ⟨w1.heap.size, 3, none⟩ = some (.int .i64 v) := by simp [World.cell?, kcW6, go_sem]
  have c4W6 : (w6.alloc (.cells #[.int .i64 x1, .int .i64 x2, .int .i64 x3, .int .i64 x4, .int .i64 x5] 23)).cell? ⟨w1.heap.size, 4, none⟩ = some (.int .i64 n) := by simp [World.cell?, kcW6, go_sem]
  have d0W6 : (w6.alloc (.cells #[.int .i64 x1, .int .i64 x2, .int .i64 x3, .int .i64 x4, .int .i64 x5] 23)).cell? ⟨w5.heap.size, 0, none⟩ = some (.int .i64 x1) := by simp [World.cell?, kdW6, go_sem]
  have d1W6 : (w6.alloc (.cells #[.int .i64 x1, .int .i64 x2, .int .i64 x3, .int .i64 x4, .int .i64 x5] 23)).cell? ⟨w5.heap.size, 1, none⟩ = some (.int .i64 x2) := by simp [World.cell?, kdW6, go_sem]
  have d2W6 : (w6.alloc (.cells #[.int .i64 x1, .int .i64 x2, .int .i64 x3, .int .i64 x4, .int .i64 x5] 23)).cell? ⟨w5.heap.size, 2, none⟩ = some (.int .i64 x3) := by simp [World.cell?, kdW6, go_sem]
  have d3W6 : (w6.alloc (.cells #[.int .i64 x1, .int .i64 x2, .int .i64 x3, .int .i64 x4, .int .i64 x5] 23)).cell? ⟨w5.heap.size, 3, none⟩ = some (.int .i64 x4) := by simp [World.cell?, kdW6, go_sem]
  have d4W6 : (w6.alloc (.cells #[.int .i64 x1, .int .i64 x2, .int .i64 x3, .int .i64 x4, .int .i64 x5] 23)).cell? ⟨w5.heap.size, 4, none⟩ = some (.int .i64 x5) := by simp [World.cell?, kdW6, go_sem]
  have g0W6 : (w6.alloc (.cells #[.int .i64 x1, .int .i64 x2, .int .i64 x3, .int .i64 x4, .int .i64 x5] 23)).cell? ⟨w6.heap.size, 0, none⟩ = some (.int .i64 x1) := by simp [go_sem]
  have g1W6 : (w6.alloc (.cells #[.int .i64 x1, .int .i64 x2, .int .i64 x3, .int .i64 x4, .int .i64 x5] 23)).cell? ⟨w6.heap.size, 1, none⟩ = some (.int .i64 x2) := by simp [go_sem]
  have g2W6 : (w6.alloc (.cells #[.int .i64 x1, .int .i64 x2, .int .i64 x3, .int .i64 x4, .int .i64 x5] 23)).cell? ⟨w6.heap.size, 2, none⟩ = some (.int .i64 x3) := by simp [go_sem]
  have g3W6 : (w6.alloc (.cells #[.int .i64 x1, .int .i64 x2, .int .i64 x3, .int .i64 x4, .int .i64 x5] 23)).cell? ⟨w6.heap.size, 3, none⟩ = some (.int .i64 x4) := by simp [go_sem]
  have g4W6 : (w6.alloc (.cells #[.int .i64 x1, .int .i64 x2, .int .i64 x3, .int .i64 x4, .int .i64 x5] 23)).cell? ⟨w6.heap.size, 4, none⟩ = some (.int .i64 x5) := by simp [go_sem]
  have zW6 : w6.heap.size < (w6.alloc (.cells #[.int .i64 x1, .int .i64 x2, .int .i64 x3, .int .i64 x4, .int .i64 x5] 23)).heap.size := by simp
  clear hb1 hb3 hb4 hb5 hb6 hbA hbB hbC hbD
  have hSz : ST.size ≤ 1048576 := by rw [← hST]; have := itmText_size q t k v n; omega
  cases ho : okItm q t k v n
  · have HO := hide ho
    obtain rfl : ST = ⟨#[]⟩ := hST.symm.trans (itmText_no ho)
    clear hST ho
    cases c
    · go_wp2_with fail
      refine (specitx _ HST).mono ?_
      rintro e w7 ⟨rfl, hb7⟩
      clear c0W6 c1W6 c2W6 c3W6 c4W6 d0W6 d1W6 d2W6 d3W6 d4W6 g0W6 g1W6 g2W6 g3W6 g4W6
      have zw7 : w6.heap.size < w7.heap.size := by have h9 := hb7.size; (try simp at h9); omega
      have zw7a : w1.heap.size < w7.heap.size := by omega
      have zw7b : w5.heap.size < w7.heap.size := by omega
      have kcw7 := (hb7.block (w1.heap.size) (by first | omega | (simp; omega))).trans kcW6
      have c0w7 : w7.cell? ⟨w1.heap.size, 0, none⟩ = some (.int .i64 q) := by simp [World.cell?, kcw7, go_sem]
      have c1w7 : w7.cell? ⟨w1.heap.size, 1, none⟩ = some (.int .i64 t) := by simp [World.cell?, kcw7, go_sem]
      have c2w7 : w7.cell? ⟨w1.heap.size, 2, none⟩ = some (.int .i64 k) := by simp [World.cell?, kcw7, go_sem]
      have c3w7 : w7.cell? ⟨w1.heap.size, 3, none⟩ = some (.int .i64 v) := by simp [World.cell?, kcw7, go_sem]
      have c4w7 : w7.cell? ⟨w1.heap.size, 4, none⟩ = some (.int .i64 n) := by simp [World.cell?, kcw7, go_sem]
      have kdw7 := (hb7.block (w5.heap.size) (by first | omega | (simp; omega))).trans kdW6
      have d0w7 : w7.cell? ⟨w5.heap.size, 0, none⟩ = some (.int .i64 x1) := by simp [World.cell?, kdw7, go_sem]
      have d1w7 : w7.cell? ⟨w5.heap.size, 1, none⟩ = some (.int .i64 x2) := by simp [World.cell?, kdw7, go_sem]
      have d2w7 : w7.cell? ⟨w5.heap.size, 2, none⟩ = some (.int .i64 x3) := by simp [World.cell?, kdw7, go_sem]
      have d3w7 : w7.cell? ⟨w5.heap.size, 3, none⟩ = some (.int .i64 x4) := by simp [World.cell?, kdw7, go_sem]
      have d4w7 : w7.cell? ⟨w5.heap.size, 4, none⟩ = some (.int .i64 x5) := by simp [World.cell?, kdw7, go_sem]
      have kgw7 := (hb7.block (w6.heap.size) (by first | omega | (simp; omega))).trans kgW6
      have g0w7 : w7.cell? ⟨w6.heap.size, 0, none⟩ = some (.int .i64 x1) := by simp [World.cell?, kgw7, go_sem]
      have g1w7 : w7.cell? ⟨w6.heap.size, 1, none⟩ = some (.int .i64 x2) := by simp [World.cell?, kgw7, go_sem]
      have g2w7 : w7.cell? ⟨w6.heap.size, 2, none⟩ = some (.int .i64 x3) := by simp [World.cell?, kgw7, go_sem]
      have g3w7 : w7.cell? ⟨w6.heap.size, 3, none⟩ = some (.int .i64 x4) := by simp [World.cell?, kgw7, go_sem]
      have g4w7 : w7.cell? ⟨w6.heap.size, 4, none⟩ = some (.int .i64 x5) := by simp [World.cell?, kgw7, go_sem]
      have hbG : Below w.heap.size w w7 := bel_trans hbE2 hb7
      go_wp2_with fail
      refine (implio_eq _ HO).mono ?_
      rintro e w9 ⟨rfl, hb9⟩
      clear c0w7 c1w7 c2w7 c3w7 c4w7 d0w7 d1w7 d2w7 d3w7 d4w7 g0w7 g1w7 g2w7 g3w7 g4w7
      have zw9 : w6.heap.size < w9.heap.size := by have h9 := hb9.size; (try simp at h9); omega
      have zw9a : w1.heap.size < w9.heap.size := by omega
      have zw9b : w5.heap.size < w9.heap.size := by omega
      have kcw9 := (hb9.block (w1.heap.size) (by first | omega | (simp; omega))).trans kcw7
      have c0w9 : w9.cell? ⟨w1.heap.size, 0, none⟩ = some (.int .i64 q) := by simp [World.cell?, kcw9, go_sem]
      have c1w9 : w9.cell? ⟨w1.heap.size, 1, none⟩ = some (.int .i64 t) := by simp [World.cell?, kcw9, go_sem]
      have c2w9 : w9.cell? ⟨w1.heap.size, 2, none⟩ = some (.int .i64 k) := by simp [World.cell?, kcw9, go_sem]
      have c3w9 : w9.cell? ⟨w1.heap.size, 3, none⟩ = some (.int .i64 v) := by simp [World.cell?, kcw9, go_sem]
      have c4w9 : w9.cell? ⟨w1.heap.size, 4, none⟩ = some (.int .i64 n) := by simp [World.cell?, kcw9, go_sem]
      have kdw9 := (hb9.block (w5.heap.size) (by first | omega | (simp; omega))).trans kdw7
      have d0w9 : w9.cell? ⟨w5.heap.size, 0, none⟩ = some (.int .i64 x1) := by simp [World.cell?, kdw9, go_sem]
      have d1w9 : w9.cell? ⟨w5.heap.size, 1, none⟩ = some (.int .i64 x2) := by simp [World.cell?, kdw9, go_sem]
      have d2w9 : w9.cell? ⟨w5.heap.size, 2, none⟩ = some (.int .i64 x3) := by simp [World.cell?, kdw9, go_sem]
      have d3w9 : w9.cell? ⟨w5.heap.size, 3, none⟩ = some (.int .i64 x4) := by simp [World.cell?, kdw9, go_sem]
      have d4w9 : w9.cell? ⟨w5.heap.size, 4, none⟩ = some (.int .i64 x5) := by simp [World.cell?, kdw9, go_sem]
      have kgw9 := (hb9.block (w6.heap.size) (by first | omega | (simp; omega))).trans kgw7
      have g0w9 : w9.cell? ⟨w6.heap.size, 0, none⟩ = some (.int .i64 x1) := by simp [World.cell?, kgw9, go_sem]
      have g1w9 : w9.cell? ⟨w6.heap.size, 1, none⟩ = some (.int .i64 x2) := by simp [World.cell?, kgw9, go_sem]
      have g2w9 : w9.cell? ⟨w6.heap.size, 2, none⟩ = some (.int .i64 x3) := by simp [World.cell?, kgw9, go_sem]
      have g3w9 : w9.cell? ⟨w6.heap.size, 3, none⟩ = some (.int .i64 x4) := by simp [World.cell?, kgw9, go_sem]
      have g4w9 : w9.cell? ⟨w6.heap.size, 4, none⟩ = some (.int .i64 x5) := by simp [World.cell?, kgw9, go_sem]
      have hbI : Below w.heap.size w w9 := bel_trans hbG hb9
      go_wp2_with fail
      refine (implit_eq (ST := ⟨#[109, 97, 114, 107, 32, 49, 48, 48, 48]⟩) _ ((unhide HE).bel hbI).tab (hide mark1000)).mono ?_
      rintro e w10 ⟨rfl, hb10⟩
      go_wp2
      go_ret
      exact ⟨by first | rfl | (simp; done), bel_trans hbI hb10⟩
    · go_wp2_with fail
      refine (specitx _ HST).mono ?_
      rintro e w7 ⟨rfl, hb7⟩
      clear c0W6 c1W6 c2W6 c3W6 c4W6 d0W6 d1W6 d2W6 d3W6 d4W6 g0W6 g1W6 g2W6 g3W6 g4W6
      have zw7 : w6.heap.size < w7.heap.size := by have h9 := hb7.size; (try simp at h9); omega
      have zw7a : w1.heap.size < w7.heap.size := by omega
      have zw7b : w5.heap.size < w7.heap.size := by omega
      have kcw7 := (hb7.block (w1.heap.size) (by first | omega | (simp; omega))).trans kcW6
      have c0w7 : w7.cell? ⟨w1.heap.size, 0, none⟩ = some (.int .i64 q) := by simp [World.cell?, kcw7, go_sem]
      have c1w7 : w7.cell? ⟨w1.heap.size, 1, none⟩ = some (.int .i64 t) := by simp [World.cell?, kcw7, go_sem]
      have c2w7 : w7.cell? ⟨w1.heap.size, 2, none⟩ = some (.int .i64 k) := by simp [World.cell?, kcw7, go_sem]
      have c3w7 : w7.cell? ⟨w1.heap.size, 3, none⟩ = some (.int .i64 v) := by simp [World.cell?, kcw7, go_sem]
      have c4w7 : w7.cell? ⟨w1.heap.size, 4, none⟩ = some (.int .i64 n) := by simp [World.cell?, kcw7, go_sem]
      have kdw7 := (hb7.block (w5.heap.size) (by first | omega | (simp; omega))).trans kdW6
      have d0w7 : w7.cell? ⟨w5.heap.size, 0, none⟩ = some (.int .i64 x1) := by simp [World.cell?, kdw7, go_sem]
      have d1w7 : w7.cell? ⟨w5.heap.size, 1, none⟩ = some (.int .i64 x2) := by simp [World.cell?, kdw7, go_sem]
      have d2w7 : w7.cell? ⟨w5.heap.size, 2, none⟩ = some (.int .i64 x3) := by simp [World.cell?, kdw7, go_sem]
      have d3w7 : w7.cell? ⟨w5.heap.size, 3, none⟩ = some (.int .i64 x4) := by simp [World.cell?, kdw7, go_sem]
      have d4w7 : w7.cell? ⟨w5.heap.size, 4, none⟩ = some (.int .i64 x5) := by simp [World.cell?, kdw7, go_sem]
      have kgw7 := (hb7.block (w6.heap.size) (by first | omega | (simp; omega))).trans kgW6
      have g0w7 : w7.cell? ⟨w6.heap.size, 0, none⟩ = some (.int .i64 x1) := by simp [World.cell?, kgw7, go_sem]
      have g1w7 : w7.cell? ⟨w6.heap.size, 1, none⟩ = some (.int .i64 x2) := by simp [World.cell?, kgw7, go_sem]
      have g2w7 : w7.cell? ⟨w6.heap.size, 2, none⟩ = some (.int .i64 x3) := by simp [World.cell?, kgw7, go_sem]
      have g3w7 : w7.cell? ⟨w6.heap.size, 3, none⟩ = some (.int .i64 x4) := by simp [World.cell?, kgw7, go_sem]
      have g4w7 : w7.cell? ⟨w6.heap.size, 4, none⟩ = some (.int .i64 x5) := by simp [World.cell?, kgw7, go_sem]
      have hbG : Below w.heap.size w w7 := bel_trans hbE2 hb7
      have HTT : Hid (itmText x1 x2 x3 x4 x5 = TT) := hide (ir_text (unhide HR1))
      go_wp2_with fail
      refine (implit_eq _ ((unhide HE).bel hbG).tab HTT).mono ?_
      rintro e w8 ⟨rfl, hb8⟩
      clear c0w7 c1w7 c2w7 c3w7 c4w7 d0w7 d1w7 d2w7 d3w7 d4w7 g0w7 g1w7 g2w7 g3w7 g4w7
      have zw8 : w6.heap.size < w8.heap.size := by have h9 := hb8.size; (try simp at h9); omega
      have zw8a : w1.heap.size < w8.heap.size := by omega
      have zw8b : w5.heap.size < w8.heap.size := by omega
      have kcw8 := (hb8.block (w1.heap.size) (by first | omega | (simp; omega))).trans kcw7
      have c0w8 : w8.cell? ⟨w1.heap.size, 0, none⟩ = some (.int .i64 q) := by simp [World.cell?, kcw8, go_sem]
      have c1w8 : w8.cell? ⟨w1.heap.size, 1, none⟩ = some (.int .i64 t) := by simp [World.cell?, kcw8, go_sem]
      have c2w8 : w8.cell? ⟨w1.heap.size, 2, none⟩ = some (.int .i64 k) := by simp [World.cell?, kcw8, go_sem]
      have c3w8 : w8.cell? ⟨w1.heap.size, 3, none⟩ = some (.int .i64 v) := by simp [World.cell?, kcw8, go_sem]
      have c4w8 : w8.cell? ⟨w1.heap.size, 4, none⟩ = some (.int .i64 n) := by simp [World.cell?, kcw8, go_sem]
      have kdw8 := (hb8.block (w5.heap.size) (by first | omega | (simp; omega))).trans kdw7
      have d0w8 : w8.cell? ⟨w5.heap.size, 0, none⟩ = some (.int .i64 x1) := by simp [World.cell?, kdw8, go_sem]
      have d1w8 : w8.cell? ⟨w5.heap.size, 1, none⟩ = some (.int .i64 x2) := by simp [World.cell?, kdw8, go_sem]
      have d2w8 : w8.cell? ⟨w5.heap.size, 2, none⟩ = some (.int .i64 x3) := by simp [World.cell?, kdw8, go_sem]
      have d3w8 : w8.cell? ⟨w5.heap.size, 3, none⟩ = some (.int .i64 x4) := by simp [World.cell?, kdw8, go_sem]
      have d4w8 : w8.cell? ⟨w5.heap.size, 4, none⟩ = some (.int .i64 x5) := by simp [World.cell?, kdw8, go_sem]
      have kgw8 := (hb8.block (w6.heap.size) (by first | omega | (simp; omega))).trans kgw7
      have g0w8 : w8.cell? ⟨w6.heap.size, 0, none⟩ = some (.int .i64 x1) := by simp [World.cell?, kgw8, go_sem]
      have g1w8 : w8.cell? ⟨w6.heap.size, 1, none⟩ = some (.int .i64 x2) := by simp [World.cell?, kgw8, go_sem]
      have g2w8 : w8.cell? ⟨w6.heap.size, 2, none⟩ = some (.int .i64 x3) := by simp [World.cell?, kgw8, go_sem]
      have g3w8 : w8.cell? ⟨w6.heap.size, 3, none⟩ = some (.int .i64 x4) := by simp [World.cell?, kgw8, go_sem]
      have g4w8 : w8.cell? ⟨w6.heap.size, 4, none⟩ = some (.int .i64 x5) := by simp [World.cell?, kgw8, go_sem]
      have hbH : Below w.heap.size w w8 := bel_trans hbG hb8
      go_wp2_with fail
      refine (implio_eq _ HO).mono ?_
      rintro e w9 ⟨rfl, hb9⟩
      clear c0w8 c1w8 c2w8 c3w8 c4w8 d0w8 d1w8 d2w8 d3w8 d4w8 g0w8 g1w8 g2w8 g3w8 g4w8
      have zw9 : w6.heap.size < w9.heap.size := by have h9 := hb9.size; (try simp at h9); omega
      have zw9a : w1.heap.size < w9.heap.size := by omega
      have zw9b : w5.heap.size < w9.heap.size := by omega
      have kcw9 := (hb9.block (w1.heap.size) (by first | omega | (simp; omega))).trans kcw8
      have c0w9 : w9.cell? ⟨w1.heap.size, 0, none⟩ = some (.int .i64 q) := by simp [World.cell?, kcw9, go_sem]
      have c1w9 : w9.cell? ⟨w1.heap.size, 1, none⟩ = some (.int .i64 t) := by simp [World.cell?, kcw9, go_sem]
      have c2w9 : w9.cell? ⟨w1.heap.size, 2, none⟩ = some (.int .i64 k) := by simp [World.cell?, kcw9, go_sem]
      have c3w9 : w9.cell? ⟨w1.heap.size, 3, none⟩ = some (.int .i64 v) := by simp [World.cell?, kcw9, go_sem]
      have c4w9 : w9.cell? ⟨w1.heap.size, 4, none⟩ = some (.int .i64 n) := by simp [World.cell?, kcw9, go_sem]
      have kdw9 := (hb9.block (w5.heap.size) (by first | omega | (simp; omega))).trans kdw8
      have d0w9 : w9.cell? ⟨w5.heap.size, 0, none⟩ = some (.int .i64 x1) := by simp [World.cell?, kdw9, go_sem]
      have d1w9 : w9.cell? ⟨w5.heap.size, 1, none⟩ = some (.int .i64 x2) := by simp [World.cell?, kdw9, go_sem]
      have d2w9 : w9.cell? ⟨w5.heap.size, 2, none⟩ = some (.int .i64 x3) := by simp [World.cell?, kdw9, go_sem]
      have d3w9 : w9.cell? ⟨w5.heap.size, 3, none⟩ = some (.int .i64 x4) := by simp [World.cell?, kdw9, go_sem]
      have d4w9 : w9.cell? ⟨w5.heap.size, 4, none⟩ = some (.int .i64 x5) := by simp [World.cell?, kdw9, go_sem]
      have kgw9 := (hb9.block (w6.heap.size) (by first | omega | (simp; omega))).trans kgw8
      have g0w9 : w9.cell? ⟨w6.heap.size, 0, none⟩ = some (.int .i64 x1) := by simp [World.cell?, kgw9, go_sem]
      have g1w9 : w9.cell? ⟨w6.heap.size, 1, none⟩ = some (.int .i64 x2) := by simp [World.cell?, kgw9, go_sem]
      have g2w9 : w9.cell? ⟨w6.heap.size, 2, none⟩ = some (.int .i64 x3) := by simp [World.cell?, kgw9, go_sem]
      have g3w9 : w9.cell? ⟨w6.heap.size, 3, none⟩ = some (.int .i64 x4) := by simp [World.cell?, kgw9, go_sem]
      have g4w9 : w9.cell? ⟨w6.heap.size, 4, none⟩ = some (.int .i64 x5) := by simp [World.cell?, kgw9, go_sem]
      have hbI : Below w.heap.size w w9 := bel_trans hbH hb9
      go_wp2_with fail
      refine (implit_eq (ST := ⟨#[109, 97, 114, 107, 32, 49, 48, 48, 48]⟩) _ ((unhide HE).bel hbI).tab (hide mark1000)).mono ?_
      rintro e w10 ⟨rfl, hb10⟩
      go_wp2
      go_ret
      exact ⟨by first | rfl | (simp; done), bel_trans hbI hb10⟩
  · have HO := hide ho
    have HSW : Hid (ItR ST q t k v n true) := hide (Or.inl ⟨rfl, ho, (itmText_ok ho).symm.trans hST⟩)
    have hne2 : ST.toList.isEmpty = false := itmText_ne ho hST
    clear hST ho
    cases c
    · go_wp2_with fail
      refine (specitx _ HST).mono ?_
      rintro e w7 ⟨rfl, hb7⟩
      clear c0W6 c1W6 c2W6 c3W6 c4W6 d0W6 d1W6 d2W6 d3W6 d4W6 g0W6 g1W6 g2W6 g3W6 g4W6
      have zw7 : w6.heap.size < w7.heap.size := by have h9 := hb7.size; (try simp at h9); omega
      have zw7a : w1.heap.size < w7.heap.size := by omega
      have zw7b : w5.heap.size < w7.heap.size := by omega
      have kcw7 := (hb7.block (w1.heap.size) (by first | omega | (simp; omega))).trans kcW6
      have c0w7 : w7.cell? ⟨w1.heap.size, 0, none⟩ = some (.int .i64 q) := by simp [World.cell?, kcw7, go_sem]
      have c1w7 : w7.cell? ⟨w1.heap.size, 1, none⟩ = some (.int .i64 t) := by simp [World.cell?, kcw7, go_sem]
      have c2w7 : w7.cell? ⟨w1.heap.size, 2, none⟩ = some (.int .i64 k) := by simp [World.cell?, kcw7, go_sem]
      have c3w7 : w7.cell? ⟨w1.heap.size, 3, none⟩ = some (.int .i64 v) := by simp [World.cell?, kcw7, go_sem]
      have c4w7 : w7.cell? ⟨w1.heap.size, 4, none⟩ = some (.int .i64 n) := by simp [World.cell?, kcw7, go_sem]
      have kdw7 := (hb7.block (w5.heap.size) (by first | omega | (simp; omega))).trans kdW6
      have d0w7 : w7.cell? ⟨w5.heap.size, 0, none⟩ = some (.int .i64 x1) := by simp [World.cell?, kdw7, go_sem]
      have d1w7 : w7.cell? ⟨w5.heap.size, 1, none⟩ = some (.int .i64 x2) := by simp [World.cell?, kdw7, go_sem]
      have d2w7 : w7.cell? ⟨w5.heap.size, 2, none⟩ = some (.int .i64 x3) := by simp [World.cell?, kdw7, go_sem]
      have d3w7 : w7.cell? ⟨w5.heap.size, 3, none⟩ = some (.int .i64 x4) := by simp [World.cell?, kdw7, go_sem]
      have d4w7 : w7.cell? ⟨w5.heap.size, 4, none⟩ = some (.int .i64 x5) := by simp [World.cell?, kdw7, go_sem]
      have kgw7 := (hb7.block (w6.heap.size) (by first | omega | (simp; omega))).trans kgW6
      have g0w7 : w7.cell? ⟨w6.heap.size, 0, none⟩ = some (.int .i64 x1) := by simp [World.cell?, kgw7, go_sem]
      have g1w7 : w7.cell? ⟨w6.heap.size, 1, none⟩ = some (.int .i64 x2) := by simp [World.cell?, kgw7, go_sem]
      have g2w7 : w7.cell? ⟨w6.heap.size, 2, none⟩ = some (.int .i64 x3) := by simp [World.cell?, kgw7, go_sem]
      have g3w7 : w7.cell? ⟨w6.heap.size, 3, none⟩ = some (.int .i64 x4) := by simp [World.cell?, kgw7, go_sem]
      have g4w7 : w7.cell? ⟨w6.heap.size, 4, none⟩ = some (.int .i64 x5) := by simp [World.cell?, kgw7, go_sem]
      have hbG : Below w.heap.size w w7 := bel_trans hbE2 hb7
      go_wp2_with fail
      refine (implio_eq _ HO).mono ?_
      rintro e w9 ⟨rfl, hb9⟩
      clear c0w7 c1w7 c2w7 c3w7 c4w7 d0w7 d1w7 d2w7 d3w7 d4w7 g0w7 g1w7 g2w7 g3w7 g4w7
      have zw9 : w6.heap.size < w9.heap.size := by have h9 := hb9.size; (try simp at h9); omega
      have zw9a : w1.heap.size < w9.heap.size := by omega
      have zw9b : w5.heap.size < w9.heap.size := by omega
      have kcw9 := (hb9.block (w1.heap.size) (by first | omega | (simp; omega))).trans kcw7
      have c0w9 : w9.cell? ⟨w1.heap.size, 0, none⟩ = some (.int .i64 q) := by simp [World.cell?, kcw9, go_sem]
      have c1w9 : w9.cell? ⟨w1.heap.size, 1, none⟩ = some (.int .i64 t) := by simp [World.cell?, kcw9, go_sem]
      have c2w9 : w9.cell? ⟨w1.heap.size, 2, none⟩ = some (.int .i64 k) := by simp [World.cell?, kcw9, go_sem]
      have c3w9 : w9.cell? ⟨w1.heap.size, 3, none⟩ = some (.int .i64 v) := by simp [World.cell?, kcw9, go_sem]
      have c4w9 : w9.cell? ⟨w1.heap.size, 4, none⟩ = some (.int .i64 n) := by simp [World.cell?, kcw9, go_sem]
      have kdw9 := (hb9.block (w5.heap.size) (by first | omega | (simp; omega))).trans kdw7
      have d0w9 : w9.cell? ⟨w5.heap.size, 0, none⟩ = some (.int .i64 x1) := by simp [World.cell?, kdw9, go_sem]
      have d1w9 : w9.cell? ⟨w5.heap.size, 1, none⟩ = some (.int .i64 x2) := by simp [World.cell?, kdw9, go_sem]
      have d2w9 : w9.cell? ⟨w5.heap.size, 2, none⟩ = some (.int .i64 x3) := by simp [World.cell?, kdw9, go_sem]
      have d3w9 : w9.cell? ⟨w5.heap.size, 3, none⟩ = some (.int .i64 x4) := by simp [World.cell?, kdw9, go_sem]
      have d4w9 : w9.cell? ⟨w5.heap.size, 4, none⟩ = some (.int .i64 x5) := by simp [World.cell?, kdw9, go_sem]
      have kgw9 := (hb9.block (w6.heap.size) (by first | omega | (simp; omega))).trans kgw7
      have g0w9 : w9.cell? ⟨w6.heap.size, 0, none⟩ = some (.int .i64 x1) := by simp [World.cell?, kgw9, go_sem]
      have g1w9 : w9.cell? ⟨w6.heap.size, 1, none⟩ = some (.int .i64 x2) := by simp [World.cell?, kgw9, go_sem]
      have g2w9 : w9.cell? ⟨w6.heap.size, 2, none⟩ = some (.int .i64 x3) := by simp [World.cell?, kgw9, go_sem]
      have g3w9 : w9.cell? ⟨w6.heap.size, 3, none⟩ = some (.int .i64 x4) := by simp [World.cell?, kgw9, go_sem]
      have g4w9 : w9.cell? ⟨w6.heap.size, 4, none⟩ = some (.int .i64 x5) := by simp [World.cell?, kgw9, go_sem]
      have hbI : Below w.heap.size w w9 := bel_trans hbG hb9
      go_wp2_with fail
      refine (implitmread_any ST _ ((unhide HE).bel hbI)).mono ?_
      rintro e w10 ⟨y1, y2, y3, y4, y5, c', rfl, hR2, hb10⟩
      obtain ⟨rfl, rfl, rfl, rfl, rfl, rfl⟩ := (unhide HSW).same hR2
      clear hR2
      clear c0w9 c1w9 c2w9 c3w9 c4w9 d0w9 d1w9 d2w9 d3w9 d4w9 g0w9 g1w9 g2w9 g3w9 g4w9
      have zw10 : w6.heap.size < w10.heap.size := by have h9 := hb10.size; (try simp at h9); omega
      have zw10a : w1.heap.size < w10.heap.size := by omega
      have zw10b : w5.heap.size < w10.heap.size := by omega
      have kcw10 := (hb10.block (w1.heap.size) (by first | omega | (simp; omega))).trans kcw9
      have c0w10 : w10.cell? ⟨w1.heap.size, 0, none⟩ = some (.int .i64 q) := by simp [World.cell?, kcw10, go_sem]
      have c1w10 : w10.cell? ⟨w1.heap.size, 1, none⟩ = some (.int .i64 t) := by simp [World.cell?, kcw10, go_sem]
      have c2w10 : w10.cell? ⟨w1.heap.size, 2, none⟩ = some (.int .i64 k) := by simp [World.cell?, kcw10, go_sem]
      have c3w10 : w10.cell? ⟨w1.heap.size, 3, none⟩ = some (.int .i64 v) := by simp [World.cell?, kcw10, go_sem]
      have c4w10 : w10.cell? ⟨w1.heap.size, 4, none⟩ = some (.int .i64 n) := by simp [World.cell?, kcw10, go_sem]
      have kdw10 := (hb10.block (w5.heap.size) (by first | omega | (simp; omega))).trans kdw9
      have d0w10 : w10.cell? ⟨w5.heap.size, 0, none⟩ = some (.int .i64 x1) := by simp [World.cell?, kdw10, go_sem]
      have d1w10 : w10.cell? ⟨w5.heap.size, 1, none⟩ = some (.int .i64 x2) := by simp [World.cell?, kdw10, go_sem]
      have d2w10 : w10.cell? ⟨w5.heap.size, 2, none⟩ = some (.int .i64 x3) := by simp [World.cell?, kdw10, go_sem]
      have d3w10 : w10.cell? ⟨w5.heap.size, 3, none⟩ = some (.int .i64 x4) := by simp [World.cell?, kdw10, go_sem]
      have d4w10 : w10.cell? ⟨w5.heap.size, 4, none⟩ = some (.int .i64 x5) := by simp [World.cell?, kdw10, go_sem]
      have kgw10 := (hb10.block (w6.heap.size) (by first | omega | (simp; omega))).trans kgw9
      have g0w10 : w10.cell? ⟨w6.heap.size, 0, none⟩ = some (.int .i64 x1) := by simp [World.cell?, kgw10, go_sem]
      have g1w10 : w10.cell? ⟨w6.heap.size, 1, none⟩ = some (.int .i64 x2) := by simp [World.cell?, kgw10, go_sem]
      have g2w10 : w10.cell? ⟨w6.heap.size, 2, none⟩ = some (.int .i64 x3) := by simp [World.cell?, kgw10, go_sem]
      have g3w10 : w10.cell? ⟨w6.heap.size, 3, none⟩ = some (.int .i64 x4) := by simp [World.cell?, kgw10, go_sem]
      have g4w10 : w10.cell? ⟨w6.heap.size, 4, none⟩ = some (.int .i64 x5) := by simp [World.cell?, kgw10, go_sem]
      have hbJ : Below w.heap.size w w10 := bel_trans hbI hb10
      go_wp2
      go_ret
      exact ⟨by first | rfl | (simp; done), bel_alloc hbJ _⟩
    · go_wp2_with fail
      refine (specitx _ HST).mono ?_
      rintro e w7 ⟨rfl, hb7⟩
      clear c0W6 c1W6 c2W6 c3W6 c4W6 d0W6 d1W6 d2W6 d3W6 d4W6 g0W6 g1W6 g2W6 g3W6 g4W6
      have zw7 : w6.heap.size < w7.heap.size := by have h9 := hb7.size; (try simp at h9); omega
      have zw7a : w1.heap.size < w7.heap.size := by omega
      have zw7b : w5.heap.size < w7.heap.size := by omega
      have kcw7 := (hb7.block (w1.heap.size) (by first | omega | (simp; omega))).trans kcW6
      have c0w7 : w7.cell? ⟨w1.heap.size, 0, none⟩ = some (.int .i64 q) := by simp [World.cell?, kcw7, go_sem]
      have c1w7 : w7.cell? ⟨w1.heap.size, 1, none⟩ = some (.int .i64 t) := by simp [World.cell?, kcw7, go_sem]
      have c2w7 : w7.cell? ⟨w1.heap.size, 2, none⟩ = some (.int .i64 k) := by simp [World.cell?, kcw7, go_sem]
      have c3w7 : w7.cell? ⟨w1.heap.size, 3, none⟩ = some (.int .i64 v) := by simp [World.cell?, kcw7, go_sem]
      have c4w7 : w7.cell? ⟨w1.heap.size, 4, none⟩ = some (.int .i64 n) := by simp [World.cell?, kcw7, go_sem]
      have kdw7 := (hb7.block (w5.heap.size) (by first | omega | (simp; omega))).trans kdW6
      have d0w7 : w7.cell? ⟨w5.heap.size, 0, none⟩ = some (.int .i64 x1) := by simp [World.cell?, kdw7, go_sem]
      have d1w7 : w7.cell? ⟨w5.heap.size, 1, none⟩ = some (.int .i64 x2) := by simp [World.cell?, kdw7, go_sem]
      have d2w7 : w7.cell? ⟨w5.heap.size, 2, none⟩ = some (.int .i64 x3) := by simp [World.cell?, kdw7, go_sem]
      have d3w7 : w7.cell? ⟨w5.heap.size, 3, none⟩ = some (.int .i64 x4) := by simp [World.cell?, kdw7, go_sem]
      have d4w7 : w7.cell? ⟨w5.heap.size, 4, none⟩ = some (.int .i64 x5) := by simp [World.cell?, kdw7, go_sem]
      have kgw7 := (hb7.block (w6.heap.size) (by first | omega | (simp; omega))).trans kgW6
      have g0w7 : w7.cell? ⟨w6.heap.size, 0, none⟩ = some (.int .i64 x1) := by simp [World.cell?, kgw7, go_sem]
      have g1w7 : w7.cell? ⟨w6.heap.size, 1, none⟩ = some (.int .i64 x2) := by simp [World.cell?, kgw7, go_sem]
      have g2w7 : w7.cell? ⟨w6.heap.size, 2, none⟩ = some (.int .i64 x3) := by simp [World.cell?, kgw7, go_sem]
      have g3w7 : w7.cell? ⟨w6.heap.size, 3, none⟩ = some (.int .i64 x4) := by simp [World.cell?, kgw7, go_sem]
      have g4w7 : w7.cell? ⟨w6.heap.size, 4, none⟩ = some (.int .i64 x5) := by simp [World.cell?, kgw7, go_sem]
      have hbG : Below w.heap.size w w7 := bel_trans hbE2 hb7
      have HTT : Hid (itmText x1 x2 x3 x4 x5 = TT) := hide (ir_text (unhide HR1))
      go_wp2_with fail
      refine (implit_eq _ ((unhide HE).bel hbG).tab HTT).mono ?_
      rintro e w8 ⟨rfl, hb8⟩
      clear c0w7 c1w7 c2w7 c3w7 c4w7 d0w7 d1w7 d2w7 d3w7 d4w7 g0w7 g1w7 g2w7 g3w7 g4w7
      have zw8 : w6.heap.size < w8.heap.size := by have h9 := hb8.size; (try simp at h9); omega
      have zw8a : w1.heap.size < w8.heap.size := by omega
      have zw8b : w5.heap.size < w8.heap.size := by omega
      have kcw8 := (hb8.block (w1.heap.size) (by first | omega | (simp; omega))).trans kcw7
      have c0w8 : w8.cell? ⟨w1.heap.size, 0, none⟩ = some (.int .i64 q) := by simp [World.cell?, kcw8, go_sem]
      have c1w8 : w8.cell? ⟨w1.heap.size, 1, none⟩ = some (.int .i64 t) := by simp [World.cell?, kcw8, go_sem]
      have c2w8 : w8.cell? ⟨w1.heap.size, 2, none⟩ = some (.int .i64 k) := by simp [World.cell?, kcw8, go_sem]
      have c3w8 : w8.cell? ⟨w1.heap.size, 3, none⟩ = some (.int .i64 v) := by simp [World.cell?, kcw8, go_sem]
      have c4w8 : w8.cell? ⟨w1.heap.size, 4, none⟩ = some (.int .i64 n) := by simp [World.cell?, kcw8, go_sem]
      have kdw8 := (hb8.block (w5.heap.size) (by first | omega | (simp; omega))).trans kdw7
      have d0w8 : w8.cell? ⟨w5.heap.size, 0, none⟩ = some (.int .i64 x1) := by simp [World.cell?, kdw8, go_sem]
      have d1w8 : w8.cell? ⟨w5.heap.size, 1, none⟩ = some (.int .i64 x2) := by simp [World.cell?, kdw8, go_sem]
      have d2w8 : w8.cell? ⟨w5.heap.size, 2, none⟩ = some (.int .i64 x3) := by simp [World.cell?, kdw8, go_sem]
      have d3w8 : w8.cell? ⟨w5.heap.size, 3, none⟩ = some (.int .i64 x4) := by simp [World.cell?, kdw8, go_sem]
      have d4w8 : w8.cell? ⟨w5.heap.size, 4, none⟩ = some (.int .i64 x5) := by simp [World.cell?, kdw8, go_sem]
      have kgw8 := (hb8.block (w6.heap.size) (by first | omega | (simp; omega))).trans kgw7
      have g0w8 : w8.cell? ⟨w6.heap.size, 0, none⟩ = some (.int .i64 x1) := by simp [World.cell?, kgw8, go_sem]
      have g1w8 : w8.cell? ⟨w6.heap.size, 1, none⟩ = some (.int .i64 x2) := by simp [World.cell?, kgw8, go_sem]
      have g2w8 : w8.cell? ⟨w6.heap.size, 2, none⟩ = some (.int .i64 x3) := by simp [World.cell?, kgw8, go_sem]
      have g3w8 : w8.cell? ⟨w6.heap.size, 3, none⟩ = some (.int .i64 x4) := by simp [World.cell?, kgw8, go_sem]
      have g4w8 : w8.cell? ⟨w6.heap.size, 4, none⟩ = some (.int .i64 x5) := by simp [World.cell?, kgw8, go_sem]
      have hbH : Below w.heap.size w w8 := bel_trans hbG hb8
      go_wp2_with fail
      refine (implio_eq _ HO).mono ?_
      rintro e w9 ⟨rfl, hb9⟩
      clear c0w8 c1w8 c2w8 c3w8 c4w8 d0w8 d1w8 d2w8 d3w8 d4w8 g0w8 g1w8 g2w8 g3w8 g4w8
      have zw9 : w6.heap.size < w9.heap.size := by have h9 := hb9.size; (try simp at h9); omega
      have zw9a : w1.heap.size < w9.heap.size := by omega
      have zw9b : w5.heap.size < w9.heap.size := by omega
      have kcw9 := (hb9.block (w1.heap.size) (by first | omega | (simp; omega))).trans kcw8
      have c0w9 : w9.cell? ⟨w1.heap.size, 0, none⟩ = some (.int .i64 q) := by simp [World.cell?, kcw9, go_sem]
      have c1w9 : w9.cell? ⟨w1.heap.size, 1, none⟩ = some (.int .i64 t) := by simp [World.cell?, kcw9, go_sem]
      have c2w9 : w9.cell? ⟨w1.heap.size, 2, none⟩ = some (.int .i64 k) := by simp [World.cell?, kcw9, go_sem]
      have c3w9 : w9.cell? ⟨w1.heap.size, 3, none⟩ = some (.int .i64 v) := by simp [World.cell?, kcw9, go_sem]
      have c4w9 : w9.cell? ⟨w1.heap.size, 4, none⟩ = some (.int .i64 n) := by simp [World.cell?, kcw9, go_sem]
      have kdw9 := (hb9.block (w5.heap.size) (by first | omega | (simp; omega))).trans kdw8
      have d0w9 : w9.cell? ⟨w5.heap.size, 0, none⟩ = some (.int .i64 x1) := by simp [World.cell?, kdw9, go_sem]
      have d1w9 : w9.cell? ⟨w5.heap.size, 1, none⟩ = some (.int .i64 x2) := by simp [World.cell?, kdw9, go_sem]
      have d2w9 : w9.cell? ⟨w5.heap.size, 2, none⟩ = some (.int .i64 x3) := by simp [World.cell?, kdw9, go_sem]
      have d3w9 : w9.cell? ⟨w5.heap.size, 3, none⟩ = some (.int .i64 x4) := by simp [World.cell?, kdw9, go_sem]
      have d4w9 : w9.cell? ⟨w5.heap.size, 4, none⟩ = some (.int .i64 x5) := by simp [World.cell?, kdw9, go_sem]
      have kgw9 := (hb9.block (w6.heap.size) (by first | omega | (simp; omega))).trans kgw8
      have g0w9 : w9.cell? ⟨w6.heap.size, 0, none⟩ = some (.int .i64 x1) := by simp [World.cell?, kgw9, go_sem]
      have g1w9 : w9.cell? ⟨w6.heap.size, 1, none⟩ = some (.int .i64 x2) := by simp [World.cell?, kgw9, go_sem]
      have g2w9 : w9.cell? ⟨w6.heap.size, 2, none⟩ = some (.int .i64 x3) := by simp [World.cell?, kgw9, go_sem]
      have g3w9 : w9.cell? ⟨w6.heap.size, 3, none⟩ = some (.int .i64 x4) := by simp [World.cell?, kgw9, go_sem]
      have g4w9 : w9.cell? ⟨w6.heap.size, 4, none⟩ = some (.int .i64 x5) := by simp [World.cell?, kgw9, go_sem]
      have hbI : Below w.heap.size w w9 := bel_trans hbH hb9
      go_wp2_with fail
      refine (implitmread_any ST _ ((unhide HE).bel hbI)).mono ?_
      rintro e w10 ⟨y1, y2, y3, y4, y5, c', rfl, hR2, hb10⟩
      obtain ⟨rfl, rfl, rfl, rfl, rfl, rfl⟩ := (unhide HSW).same hR2
      clear hR2
      clear c0w9 c1w9 c2w9 c3w9 c4w9 d0w9 d1w9 d2w9 d3w9 d4w9 g0w9 g1w9 g2w9 g3w9 g4w9
      have zw10 : w6.heap.size < w10.heap.size := by have h9 := hb10.size; (try simp at h9); omega
      have zw10a : w1.heap.size < w10.heap.size := by omega
      have zw10b : w5.heap.size < w10.heap.size := by omega
      have kcw10 := (hb10.block (w1.heap.size) (by first | omega | (simp; omega))).trans kcw9
      have c0w10 : w10.cell? ⟨w1.heap.size, 0, none⟩ = some (.int .i64 q) := by simp [World.cell?, kcw10, go_sem]
      have c1w10 : w10.cell? ⟨w1.heap.size, 1, none⟩ = some (.int .i64 t) := by simp [World.cell?, kcw10, go_sem]
      have c2w10 : w10.cell? ⟨w1.heap.size, 2, none⟩ = some (.int .i64 k) := by simp [World.cell?, kcw10, go_sem]
      have c3w10 : w10.cell? ⟨w1.heap.size, 3, none⟩ = some (.int .i64 v) := by simp [World.cell?, kcw10, go_sem]
      have c4w10 : w10.cell? ⟨w1.heap.size, 4, none⟩ = some (.int .i64 n) := by simp [World.cell?, kcw10, go_sem]
      have kdw10 := (hb10.block (w5.heap.size) (by first | omega | (simp; omega))).trans kdw9
      have d0w10 : w10.cell? ⟨w5.heap.size, 0, none⟩ = some (.int .i64 x1) := by simp [World.cell?, kdw10, go_sem]
      have d1w10 : w10.cell? ⟨w5.heap.size, 1, none⟩ = some (.int .i64 x2) := by simp [World.cell?, kdw10, go_sem]
      have d2w10 : w10.cell? ⟨w5.heap.size, 2, none⟩ = some (.int .i64 x3) := by simp [World.cell?, kdw10, go_sem]
      have d3w10 : w10.cell? ⟨w5.heap.size, 3, none⟩ = some (.int .i64 x4) := by simp [World.cell?, kdw10, go_sem]
      have d4w10 : w10.cell? ⟨w5.heap.size, 4, none⟩ = some (.int .i64 x5) := by simp [World.cell?, kdw10, go_sem]
      have kgw10 := (hb10.block (w6.heap.size) (by first | omega | (simp; omega))).trans kgw9
      have g0w10 : w10.cell? ⟨w6.heap.size, 0, none⟩ = some (.int .i64 x1) := by simp [World.cell?, kgw10, go_sem]
      have g1w10 : w10.cell? ⟨w6.heap.size, 1, none⟩ = some (.int .i64 x2) := by simp [World.cell?, kgw10, go_sem]
      have g2w10 : w10.cell? ⟨w6.heap.size, 2, none⟩ = some (.int .i64 x3) := by simp [World.cell?, kgw10, go_sem]
      have g3w10 : w10.cell? ⟨w6.heap.size, 3, none⟩ = some (.int .i64 x4) := by simp [World.cell?, kgw10, go_sem]
      have g4w10 : w10.cell? ⟨w6.heap.size, 4, none⟩ = some (.int .i64 x5) := by simp [World.cell?, kgw10, go_sem]
      have hbJ : Below w.heap.size w w10 := bel_trans hbI hb10
      go_wp2
      go_ret
      exact ⟨by first | rfl | (simp; done), bel_alloc hbJ _⟩
end Go.Proofs.YtbbjjpgmekfbeaaDoor
