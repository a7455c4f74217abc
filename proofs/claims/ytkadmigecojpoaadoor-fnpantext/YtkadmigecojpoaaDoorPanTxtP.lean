/- Proved here: the law on the panes' texts returns true at every two codes. -/
import Derived.Test.YtkadmigecojpoaaDoorDrawPane
import Derived.Test.YtkadmigecojpoaaDoorPanTxtI
import Derived.Test.YtkadmigecojpoaaDoorPanTxtS
import Derived.Test.YtkadmigecojpoaaDoorPanTxtM
import Derived.Deep.RegionHeld3
namespace Go.Proofs.YtkadmigecojpoaaDoor
open Go.ChangeShapes Go.WideShapes Go.ChangeAt Go.RowKit
set_option linter.unusedVariables false


set_option maxRecDepth 20000 in
set_option maxHeartbeats 2000000 in
theorem drawpt_any (a : Option Addr) (len cap : Nat) (w : World) (hlc : len ≤ cap) (hlm : len ≤ 1048576) (hb : BytesAt w a len) (hl : ∀ g o, a = some ⟨g, o, none⟩ → 0 < len → g < w.heap.size) (hn : a = none → cap = 0) : Calls Tryd.prog 21 #[.slice a len cap] w fun e' w' => ∃ ky st en no kd n s l m k : Int, e' = .returned (.tuple #[.agg #[.int .i64 ky, .int .i64 st, .int .i64 en, .int .i64 no, .int .i64 kd, .int .i64 n, .int .i64 s, .int .i64 l, .int .i64 m], .int .i64 k]) ∧ (0 ≤ k ∧ k < 6) ∧ Below w.heap.size w w' := by
  have hbX : Below w.heap.size w (w.alloc (.cells #[.int .i64 0, .int .i64 0, .int .i64 0, .int .i64 0, .int .i64 0, .int .i64 0, .int .i64 0, .int .i64 0, .int .i64 0] 45)) := bel_one _ _
  have hb' := BytesAt.bel hb hl hbX
  have hl' : ∀ g o, a = some ⟨g, o, none⟩ → 0 < len → g < (w.alloc (.cells #[.int .i64 0, .int .i64 0, .int .i64 0, .int .i64 0, .int .i64 0, .int .i64 0, .int .i64 0, .int .i64 0, .int .i64 0] 45)).heap.size := fun g o ha hp => Nat.lt_of_lt_of_le (hl g o ha hp) hbX.size
  go_enter Tryd.func21, Tryd.ntmps21
  go_wp2_with fail
  refine (open_any a len cap _ hlc hlm hb' hl' hn).mono ?_
  rintro e w1 ⟨R, len', cap', rfl, h1, h2, hb1, hr⟩
  have h1' : w.heap.size < R := by simp at h1; omega
  go_wp2_with fail
  refine (pane_any R a len' cap' 0 6 w1 (by omega) (by omega) (by omega) h2 hr).mono ?_
  rintro e w2 ⟨ky, st, en, no, kd, n, s, l, m, rfl, k2, p', hp', hr2⟩
  have h3 := k2.low.size
  go_wp2_with fail
  refine (pick_any R a len' cap' p' 6 w2 (by omega) (by omega) hr2).mono ?_
  rintro e w3 ⟨k, rfl, bk1, bk2, k3, _⟩
  have h4 := k3.low.size
  have h5 : w.heap.size < w3.heap.size := by omega
  have hbW : Below (w.alloc (.cells #[.int .i64 0, .int .i64 0, .int .i64 0, .int .i64 0, .int .i64 0, .int .i64 0, .int .i64 0, .int .i64 0, .int .i64 0] 45)).heap.size (w.alloc (.cells #[.int .i64 0, .int .i64 0, .int .i64 0, .int .i64 0, .int .i64 0, .int .i64 0, .int .i64 0, .int .i64 0, .int .i64 0] 45)) w3 := (hb1.trans (k2.low.mono h1)).trans (k3.low.mono h1)
  have c0 : w3.cell? ⟨w.heap.size, 0, none⟩ = some (.int .i64 0) := (hbW.cell (p := ⟨w.heap.size, 0, none⟩) (by simp)).trans (by simp [go_sem])
  have f0 : w3.frozen? ⟨w.heap.size, 0, none⟩ = false := (hbW.frozen (p := ⟨w.heap.size, 0, none⟩) (by simp)).trans (by simp [go_sem])
  have c1 : w3.cell? ⟨w.heap.size, 1, none⟩ = some (.int .i64 0) := (hbW.cell (p := ⟨w.heap.size, 1, none⟩) (by simp)).trans (by simp [go_sem])
  have f1 : w3.frozen? ⟨w.heap.size, 1, none⟩ = false := (hbW.frozen (p := ⟨w.heap.size, 1, none⟩) (by simp)).trans (by simp [go_sem])
  have c2 : w3.cell? ⟨w.heap.size, 2, none⟩ = some (.int .i64 0) := (hbW.cell (p := ⟨w.heap.size, 2, none⟩) (by simp)).trans (by simp [go_sem])
  have f2 : w3.frozen? ⟨w.heap.size, 2, none⟩ = false := (hbW.frozen (p := ⟨w.heap.size, 2, none⟩) (by simp)).trans (by simp [go_sem])
  have c3 : w3.cell? ⟨w.heap.size, 3, none⟩ = some (.int .i64 0) := (hbW.cell (p := ⟨w.heap.size, 3, none⟩) (by simp)).trans (by simp [go_sem])
  have f3 : w3.frozen? ⟨w.heap.size, 3, none⟩ = false := (hbW.frozen (p := ⟨w.heap.size, 3, none⟩) (by simp)).trans (by simp [go_sem])
  have c4 : w3.cell? ⟨w.heap.size, 4, none⟩ = some (.int .i64 0) := (hbW.cell (p := ⟨w.heap.size, 4, none⟩) (by simp)).trans (by simp [go_sem])
  have f4 : w3.frozen? ⟨w.heap.size, 4, none⟩ = false := (hbW.frozen (p := ⟨w.heap.size, 4, none⟩) (by simp)).trans (by simp [go_sem])
  have c5 : w3.cell? ⟨w.heap.size, 5, none⟩ = some (.int .i64 0) := (hbW.cell (p := ⟨w.heap.size, 5, none⟩) (by simp)).trans (by simp [go_sem])
  have f5 : w3.frozen? ⟨w.heap.size, 5, none⟩ = false := (hbW.frozen (p := ⟨w.heap.size, 5, none⟩) (by simp)).trans (by simp [go_sem])
  have c6 : w3.cell? ⟨w.heap.size, 6, none⟩ = some (.int .i64 0) := (hbW.cell (p := ⟨w.heap.size, 6, none⟩) (by simp)).trans (by simp [go_sem])
  have f6 : w3.frozen? ⟨w.heap.size, 6, none⟩ = false := (hbW.frozen (p := ⟨w.heap.size, 6, none⟩) (by simp)).trans (by simp [go_sem])
  have c7 : w3.cell? ⟨w.heap.size, 7, none⟩ = some (.int .i64 0) := (hbW.cell (p := ⟨w.heap.size, 7, none⟩) (by simp)).trans (by simp [go_sem])
  have f7 : w3.frozen? ⟨w.heap.size, 7, none⟩ = false := (hbW.frozen (p := ⟨w.heap.size, 7, none⟩) (by simp)).trans (by simp [go_sem])
  have c8 : w3.cell? ⟨w.heap.size, 8, none⟩ = some (.int .i64 0) := (hbW.cell (p := ⟨w.heap.size, 8, none⟩) (by simp)).trans (by simp [go_sem])
  have f8 : w3.frozen? ⟨w.heap.size, 8, none⟩ = false := (hbW.frozen (p := ⟨w.heap.size, 8, none⟩) (by simp)).trans (by simp [go_sem])
  have hbF : Below w.heap.size w w3 := bel_trans hbX hbW
  clear hr hr2 hb hb' hl hl' k2 k3
  go_wp2
  refine bodyPost_ret (v := .tuple #[.agg #[.int .i64 ky, .int .i64 st, .int .i64 en, .int .i64 no, .int .i64 kd, .int .i64 n, .int .i64 s, .int .i64 l, .int .i64 m], .int .i64 k]) (by simp (maxDischargeDepth := 9) [results, Tryd.results21, go_sem, *]) rfl ⟨ky, st, en, no, kd, n, s, l, m, k, rfl, ⟨bk1, bk2⟩, (by repeat (first | (with_reducible exact Below.refl _ _) | (with_reducible assumption) | (with_reducible refine bel_set ?_ (by first | (simp; done) | (simp; omega)) _) | (with_reducible refine bel_alloc ?_ _) | (with_reducible refine bel_drew ?_) | (with_reducible refine bel_drewN ?_ _) | (with_reducible refine bel_trans ?_ (by with_reducible assumption))))⟩

theorem blk_newP {W : World} {C : Array Value} {ty g : Nat} (hg : g = W.heap.size) : (W.alloc (.cells C ty)).heap[g]? = some (.cells C ty (0, 0)) := by
  subst hg
  show (W.heap.push _)[W.heap.size]? = _
  simp
theorem implpt_eq {ky st en no kd n s l m k : Int} {ST : ByteArray} (w : World) (htab : Lib.TabIs Tryd.prog w "internal/strconv.uint64pow10" .u64 Lib.pow10Tab) (h : Hid (panText ky st en no kd n s l m k = ST)) : Calls Tryd.prog 22 #[.agg #[.int .i64 ky, .int .i64 st, .int .i64 en, .int .i64 no, .int .i64 kd, .int .i64 n, .int .i64 s, .int .i64 l, .int .i64 m], .int .i64 k] w fun e w' => e = .returned (.string ST) ∧ Below w.heap.size w w' := by
  rw [← unhide h]; exact implpantext_any ky st en no kd n s l m k w htab
theorem specpt_eq {ky st en no kd n s l m k : Int} {ST : ByteArray} (w : World) (h : Hid (panText ky st en no kd n s l m k = ST)) : Calls Tryd.prog 23 #[.agg #[.int .i64 ky, .int .i64 st, .int .i64 en, .int .i64 no, .int .i64 kd, .int .i64 n, .int .i64 s, .int .i64 l, .int .i64 m], .int .i64 k] w fun e w' => e = .returned (.string ST) ∧ Below w.heap.size w w' := by
  rw [← unhide h]; exact specpantext_any ky st en no kd n s l m k w
theorem implpo_eq {ky st en no kd n s l m : Int} {o : Bool} (w : World) (h : Hid (okPan ky st en no kd n s l m = o)) : Calls Tryd.prog 24 #[.agg #[.int .i64 ky, .int .i64 st, .int .i64 en, .int .i64 no, .int .i64 kd, .int .i64 n, .int .i64 s, .int .i64 l, .int .i64 m]] w fun e w' => e = .returned (.bool o) ∧ Below w.heap.size w w' := by
  rw [← unhide h]; exact implpanok_any ky st en no kd n s l m w
theorem specpo_eq {ky st en no kd n s l m : Int} {o : Bool} (w : World) (h : Hid (okPan ky st en no kd n s l m = o)) : Calls Tryd.prog 25 #[.agg #[.int .i64 ky, .int .i64 st, .int .i64 en, .int .i64 no, .int .i64 kd, .int .i64 n, .int .i64 s, .int .i64 l, .int .i64 m]] w fun e w' => e = .returned (.bool o) ∧ Below w.heap.size w w' := by
  rw [← unhide h]; exact specpanok_any ky st en no kd n s l m w
theorem impltl_eq {n s l m k V : Int} (w : World) (h : Hid (tellI n s l m k = V)) : Calls Tryd.prog 26 #[.agg #[.int .i64 n, .int .i64 s, .int .i64 l, .int .i64 m], .int .i64 k] w fun e w' => e = .returned (.int .i64 V) ∧ Below w.heap.size w w' := by
  rw [← unhide h]; exact impltell_any n s l m k w

set_option linter.unusedSimpArgs false in
set_option maxRecDepth 20000 in
set_option maxHeartbeats 8000000 in
theorem lawPanTextP (a : Option Addr) (len cap : Nat) (a2 : Option Addr) (len2 cap2 : Nat) (w : World) (hlc : len ≤ cap) (hm : len ≤ maxLen) (hb : BytesAt w a len) (hl : ∀ g o, a = some ⟨g, o, none⟩ → 0 < len → g < w.heap.size) (hn : a = none → cap = 0) (hlc2 : len2 ≤ cap2) (hm2 : len2 ≤ maxLen) (hb2 : BytesAt w a2 len2) (hl2 : ∀ g o, a2 = some ⟨g, o, none⟩ → 0 < len2 → g < w.heap.size) (hn2 : a2 = none → cap2 = 0) (htab : Lib.TabIs Tryd.prog w "internal/strconv.uint64pow10" .u64 Lib.pow10Tab) : Calls Tryd.prog 5 #[.slice a len cap, .slice a2 len2 cap2] w fun e w' => e = .returned (.bool true) ∧ Below w.heap.size w w' := by
  unfold maxLen at hm hm2
  by_cases hlen : (1048576 : Int) < (len : Int)
  · go_enter Tryd.func5, Tryd.ntmps5
    go_wp2
    go_ret
    exact ⟨rfl, Below.refl _ _⟩
  by_cases hlen2 : (1048576 : Int) < (len2 : Int)
  · go_enter Tryd.func5, Tryd.ntmps5
    go_wp2
    go_ret
    exact ⟨rfl, Below.refl _ _⟩
  have HE := hide htab
  clear htab
  go_enter Tryd.func5, Tryd.ntmps5
  go_wp2_with fail
  refine (drawpt_any a len cap w hlc (by omega) hb hl hn).mono ?_
  rintro e9 w1 ⟨ky, st, en, no, kd, n, s, l, m, k, rfl, ⟨bk1, bk2⟩, hb1⟩
  have hbA : Below w.heap.size w (w1.alloc (.cells #[.int .i64 ky, .int .i64 st, .int .i64 en, .int .i64 no, .int .i64 kd, .int .i64 n, .int .i64 s, .int .i64 l, .int .i64 m] 45)) := bel_alloc hb1 _
  have hb2' := BytesAt.bel hb2 hl2 hbA
  have hl2' : ∀ g o, a2 = some ⟨g, o, none⟩ → 0 < len2 → g < (w1.alloc (.cells #[.int .i64 ky, .int .i64 st, .int .i64 en, .int .i64 no, .int .i64 kd, .int .i64 n, .int .i64 s, .int .i64 l, .int .i64 m] 45)).heap.size := fun g o ha hp => Nat.lt_of_lt_of_le (hl2 g o ha hp) hbA.size
  clear hb hl hb2 hl2
  go_wp2_with fail
  refine (drawpt_any a2 len2 cap2 _ hlc2 (by omega) hb2' hl2' hn2).mono ?_
  rintro e9 w2 ⟨kyq, stq, enq, noq, kdq, nq, sq, lq, mq, kq, rfl, _, hb2⟩
  clear hb2' hl2'
  have z1 : w1.heap.size < w2.heap.size := by have h9 := hb2.size; simp at h9; omega
  have hbB : Below w.heap.size w (w2.alloc (.cells #[.int .i64 kyq, .int .i64 stq, .int .i64 enq, .int .i64 noq, .int .i64 kdq, .int .i64 nq, .int .i64 sq, .int .i64 lq, .int .i64 mq] 45)) := bel_alloc (bel_trans hbA hb2) _
  have hP : (w2.alloc (.cells #[.int .i64 kyq, .int .i64 stq, .int .i64 enq, .int .i64 noq, .int .i64 kdq, .int .i64 nq, .int .i64 sq, .int .i64 lq, .int .i64 mq] 45)).heap[w1.heap.size]? = some (.cells #[.int .i64 ky, .int .i64 st, .int .i64 en, .int .i64 no, .int .i64 kd, .int .i64 n, .int .i64 s, .int .i64 l, .int .i64 m] 45 (0, 0)) := ((bel_one w2 _).block _ z1).trans ((hb2.block _ (by simp)).trans (blk_newP (by simp)))
  have hQ : (w2.alloc (.cells #[.int .i64 kyq, .int .i64 stq, .int .i64 enq, .int .i64 noq, .int .i64 kdq, .int .i64 nq, .int .i64 sq, .int .i64 lq, .int .i64 mq] 45)).heap[w2.heap.size]? = some (.cells #[.int .i64 kyq, .int .i64 stq, .int .i64 enq, .int .i64 noq, .int .i64 kdq, .int .i64 nq, .int .i64 sq, .int .i64 lq, .int .i64 mq] 45 (0, 0)) := blk_newP (by simp)
  have hzz : w2.heap.size < (w2.alloc (.cells #[.int .i64 kyq, .int .i64 stq, .int .i64 enq, .int .i64 noq, .int .i64 kdq, .int .i64 nq, .int .i64 sq, .int .i64 lq, .int .i64 mq] 45)).heap.size := by simp
  have c0 : (w2.alloc (.cells #[.int .i64 kyq, .int .i64 stq, .int .i64 enq, .int .i64 noq, .int .i64 kdq, .int .i64 nq, .int .i64 sq, .int .i64 lq, .int .i64 mq] 45)).cell? ⟨w1.heap.size, 0, none⟩ = some (.int .i64 ky) := by simp [World.cell?, hP, go_sem]
  have c1 : (w2.alloc (.cells #[.int .i64 kyq, .int .i64 stq, .int .i64 enq, .int .i64 noq, .int .i64 kdq, .int .i64 nq, .int .i64 sq, .int .i64 lq, .int .i64 mq] 45)).cell? ⟨w1.heap.size, 1, none⟩ = some (.int .i64 st) := by simp [World.cell?, hP, go_sem]
  have c2 : (w2.alloc (.cells #[.int .i64 kyq, .int .i64 stq, .int .i64 enq, .int .i64 noq, .int .i64 kdq, .int .i64 nq, .int .i64 sq, .int .i64 lq, .int .i64 mq] 45)).cell? ⟨w1.heap.size, 2, none⟩ = some (.int .i64 en) := by simp [World.cell?, hP, go_sem]
  have c3 : (w2.alloc (.cells #[.int .i64 kyq, .int .i64 stq, .int .i64 enq, .int .i64 noq, .int .i64 kdq, .int .i64 nq, .int .i64 sq, .int .i64 lq, .int .i64 mq] 45)).cell? ⟨w1.heap.size, 3, none⟩ = some (.int .i64 no) := by simp [World.cell?, hP, go_sem]
  have c4 : (w2.alloc (.cells #[.int .i64 kyq, .int .i64 stq, .int .i64 enq, .int .i64 noq, .int .i64 kdq, .int .i64 nq, .int .i64 sq, .int .i64 lq, .int .i64 mq] 45)).cell? ⟨w1.heap.size, 4, none⟩ = some (.int .i64 kd) := by simp [World.cell?, hP, go_sem]
  have c5 : (w2.alloc (.cells #[.int .i64 kyq, .int .i64 stq, .int .i64 enq, .int .i64 noq, .int .i64 kdq, .int .i64 nq, .int .i64 sq, .int .i64 lq, .int .i64 mq] 45)).cell? ⟨w1.heap.size, 5, none⟩ = some (.int .i64 n) := by simp [World.cell?, hP, go_sem]
  have c6 : (w2.alloc (.cells #[.int .i64 kyq, .int .i64 stq, .int .i64 enq, .int .i64 noq, .int .i64 kdq, .int .i64 nq, .int .i64 sq, .int .i64 lq, .int .i64 mq] 45)).cell? ⟨w1.heap.size, 6, none⟩ = some (.int .i64 s) := by simp [World.cell?, hP, go_sem]
  have c7 : (w2.alloc (.cells #[.int .i64 kyq, .int .i64 stq, .int .i64 enq, .int .i64 noq, .int .i64 kdq, .int .i64 nq, .int .i64 sq, .int .i64 lq, .int .i64 mq] 45)).cell? ⟨w1.heap.size, 7, none⟩ = some (.int .i64 l) := by simp [World.cell?, hP, go_sem]
  have c8 : (w2.alloc (.cells #[.int .i64 kyq, .int .i64 stq, .int .i64 enq, .int .i64 noq, .int .i64 kdq, .int .i64 nq, .int .i64 sq, .int .i64 lq, .int .i64 mq] 45)).cell? ⟨w1.heap.size, 8, none⟩ = some (.int .i64 m) := by simp [World.cell?, hP, go_sem]
  go_wp2_with fail
  clear c0 c1 c2 c3 c4 c5 c6 c7 c8
  generalize w2.alloc (.cells #[.int .i64 kyq, .int .i64 stq, .int .i64 enq, .int .i64 noq, .int .i64 kdq, .int .i64 nq, .int .i64 sq, .int .i64 lq, .int .i64 mq] 45) = wx at hbB hP hQ hzz ⊢
  clear hb1 hb2 hbA
  obtain ⟨ST, hST⟩ : ∃ ST, panText ky st en no kd n s l m k = ST := ⟨_, rfl⟩
  obtain ⟨TT, hTT⟩ : ∃ TT, panText kyq stq enq noq kdq nq sq lq mq k = TT := ⟨_, rfl⟩
  have HS := hide hST
  have HT := hide hTT
  refine (implpt_eq _ (tab_bel (unhide HE) hbB) HS).mono ?_
  rintro e9 w3 ⟨rfl, hb3⟩
  have zw3 := hb3.size
  have hP := (hb3.block _ (by omega)).trans hP
  have hQ := (hb3.block _ (by omega)).trans hQ
  have hbC : Below w.heap.size w w3 := bel_trans hbB hb3
  have d0 : w3.cell? ⟨w2.heap.size, 0, none⟩ = some (.int .i64 kyq) := by simp [World.cell?, hQ, go_sem]
  have d1 : w3.cell? ⟨w2.heap.size, 1, none⟩ = some (.int .i64 stq) := by simp [World.cell?, hQ, go_sem]
  have d2 : w3.cell? ⟨w2.heap.size, 2, none⟩ = some (.int .i64 enq) := by simp [World.cell?, hQ, go_sem]
  have d3 : w3.cell? ⟨w2.heap.size, 3, none⟩ = some (.int .i64 noq) := by simp [World.cell?, hQ, go_sem]
  have d4 : w3.cell? ⟨w2.heap.size, 4, none⟩ = some (.int .i64 kdq) := by simp [World.cell?, hQ, go_sem]
  have d5 : w3.cell? ⟨w2.heap.size, 5, none⟩ = some (.int .i64 nq) := by simp [World.cell?, hQ, go_sem]
  have d6 : w3.cell? ⟨w2.heap.size, 6, none⟩ = some (.int .i64 sq) := by simp [World.cell?, hQ, go_sem]
  have d7 : w3.cell? ⟨w2.heap.size, 7, none⟩ = some (.int .i64 lq) := by simp [World.cell?, hQ, go_sem]
  have d8 : w3.cell? ⟨w2.heap.size, 8, none⟩ = some (.int .i64 mq) := by simp [World.cell?, hQ, go_sem]
  go_wp2_with fail
  clear d0 d1 d2 d3 d4 d5 d6 d7 d8
  refine (implpt_eq _ (tab_bel (unhide HE) hbC) HT).mono ?_
  rintro e9 w4 ⟨rfl, hb4⟩
  have zw4 := hb4.size
  have hP := (hb4.block _ (by omega)).trans hP
  have hQ := (hb4.block _ (by omega)).trans hQ
  have hbD : Below w.heap.size w w4 := bel_trans hbC hb4
  clear hb3 hb4 hbB hbC
  obtain ⟨op, hop⟩ : ∃ op, okPan ky st en no kd n s l m = op := ⟨_, rfl⟩
  have HO := hide hop
  clear hST hTT
  go_wp2_with fail
  refine wp_region_held_drew (S := (fun W => W.heap[w1.heap.size]? = some (.cells #[.int .i64 ky, .int .i64 st, .int .i64 en, .int .i64 no, .int .i64 kd, .int .i64 n, .int .i64 s, .int .i64 l, .int .i64 m] 45 (0, 0)) ∧ W.heap[w2.heap.size]? = some (.cells #[.int .i64 kyq, .int .i64 stq, .int .i64 enq, .int .i64 noq, .int .i64 kdq, .int .i64 nq, .int .i64 sq, .int .i64 lq, .int .i64 mq] 45 (0, 0)))) (by kernel_rfl) ?_ (fun hHeld => ?_)
  · (try dsimp only); exact ⟨hP, hQ⟩
  refine wpAnyH_take (i := 0) (v := ?_) (by simp only [List.getElem?_toArray, List.getElem?_cons_zero, List.getElem?_cons_succ]; rfl) (by kernel_rfl) (by kernel_rfl) (by kernel_rfl) (by intro _ _ _ h; exact h) (Or.inl ⟨by rfl, ?_⟩) (by assumption) ?_
  rotate_left
  · (intro w9 hSw; (try dsimp only at hSw); go_simp <;> with_reducible rfl)
  try simp only [Act.put, List.setIfInBounds_toArray, List.set_cons_zero, List.set_cons_succ]
  refine wpAnyH_take (i := 1) (v := ?_) (by simp only [List.getElem?_toArray, List.getElem?_cons_zero, List.getElem?_cons_succ]; rfl) (by kernel_rfl) (by kernel_rfl) (by kernel_rfl) (by intro _ _ _ h; exact h) (Or.inl ⟨by rfl, ?_⟩) (by assumption) ?_
  rotate_left
  · (intro w9 hSw; (try dsimp only at hSw); obtain ⟨q0, q1⟩ := hSw; have g0x0 : w9.cell? ⟨w1.heap.size, 0, none⟩ = some (.int .i64 ky) := (by simp [World.cell?, q0, go_sem]); have g0x1 : w9.cell? ⟨w1.heap.size, 1, none⟩ = some (.int .i64 st) := (by simp [World.cell?, q0, go_sem]); have g0x2 : w9.cell? ⟨w1.heap.size, 2, none⟩ = some (.int .i64 en) := (by simp [World.cell?, q0, go_sem]); have g0x3 : w9.cell? ⟨w1.heap.size, 3, none⟩ = some (.int .i64 no) := (by simp [World.cell?, q0, go_sem]); have g0x4 : w9.cell? ⟨w1.heap.size, 4, none⟩ = some (.int .i64 kd) := (by simp [World.cell?, q0, go_sem]); have g0x5 : w9.cell? ⟨w1.heap.size, 5, none⟩ = some (.int .i64 n) := (by simp [World.cell?, q0, go_sem]); have g0x6 : w9.cell? ⟨w1.heap.size, 6, none⟩ = some (.int .i64 s) := (by simp [World.cell?, q0, go_sem]); have g0x7 : w9.cell? ⟨w1.heap.size, 7, none⟩ = some (.int .i64 l) := (by simp [World.cell?, q0, go_sem]); have g0x8 : w9.cell? ⟨w1.heap.size, 8, none⟩ = some (.int .i64 m) := (by simp [World.cell?, q0, go_sem]); go_simp <;> with_reducible rfl)
  try simp only [Act.put, List.setIfInBounds_toArray, List.set_cons_zero, List.set_cons_succ]
  refine wpAnyH_take (i := 2) (v := ?_) (by simp only [List.getElem?_toArray, List.getElem?_cons_zero, List.getElem?_cons_succ]; rfl) (by kernel_rfl) (by kernel_rfl) (by kernel_rfl) (by intro _ _ _ h; exact h) (Or.inl ⟨by rfl, ?_⟩) (by assumption) ?_
  rotate_left
  · (intro w9 hSw; (try dsimp only at hSw); go_simp <;> with_reducible rfl)
  try simp only [Act.put, List.setIfInBounds_toArray, List.set_cons_zero, List.set_cons_succ]
  refine wpAnyH_ready (rs := [3]) (by kernel_rfl) (by simp) ?_
  refine AllReadyH.cons (by simp only [List.getElem?_toArray, List.getElem?_cons_zero, List.getElem?_cons_succ]; rfl) (fun K hK => ?_) AllReadyH.nil
  go_simp
  (go_at_call 23; refine (specpt_eq _ HS).mono ?_; rintro e9 v1 ⟨rfl, hbv1⟩)
  (try go_wp2_with fail)
  have zv1 := hbv1.size
  (try simp at zv1)
  have hP := (hbv1.block (w1.heap.size) (by first | omega | (simp; done) | (simp; omega))).trans hP
  have hQ := (hbv1.block (w2.heap.size) (by first | omega | (simp; done) | (simp; omega))).trans hQ
  refine hK.out _ _ ?_ (fun hHeld2 => ?_)
  · (try dsimp only); exact ⟨hP, hQ⟩
  clear hK K hHeld
  have hHeld := hHeld2
  clear hHeld2
  try simp only [Act.put, List.setIfInBounds_toArray, List.set_cons_zero, List.set_cons_succ]
  refine wpAnyH_take (i := 4) (v := ?_) (by simp only [List.getElem?_toArray, List.getElem?_cons_zero, List.getElem?_cons_succ]; rfl) (by kernel_rfl) (by kernel_rfl) (by kernel_rfl) (by intro _ _ _ h; exact h) (Or.inl ⟨by rfl, ?_⟩) (by assumption) ?_
  rotate_left
  · (intro w9 hSw; (try dsimp only at hSw); go_simp <;> with_reducible rfl)
  try simp only [Act.put, List.setIfInBounds_toArray, List.set_cons_zero, List.set_cons_succ]
  refine wpAnyH_take (i := 5) (v := ?_) (by simp only [List.getElem?_toArray, List.getElem?_cons_zero, List.getElem?_cons_succ]; rfl) (by kernel_rfl) (by kernel_rfl) (by kernel_rfl) (by intro _ _ _ h; exact h) (Or.inl ⟨by rfl, ?_⟩) (by assumption) ?_
  rotate_left
  · (intro w9 hSw; (try dsimp only at hSw); go_simp <;> with_reducible rfl)
  try simp only [Act.put, List.setIfInBounds_toArray, List.set_cons_zero, List.set_cons_succ]
  refine wpAnyH_take (i := 6) (v := ?_) (by simp only [List.getElem?_toArray, List.getElem?_cons_zero, List.getElem?_cons_succ]; rfl) (by kernel_rfl) (by kernel_rfl) (by kernel_rfl) (by intro _ _ _ h; exact h) (Or.inl ⟨by rfl, ?_⟩) (by assumption) ?_
  rotate_left
  · (intro w9 hSw; (try dsimp only at hSw); go_simp <;> with_reducible rfl)
  try simp only [Act.put, List.setIfInBounds_toArray, List.set_cons_zero, List.set_cons_succ]
  refine wpAnyH_take (i := 7) (v := ?_) (by simp only [List.getElem?_toArray, List.getElem?_cons_zero, List.getElem?_cons_succ]; rfl) (by kernel_rfl) (by kernel_rfl) (by kernel_rfl) (by intro _ _ _ h; exact h) (Or.inl ⟨by rfl, ?_⟩) (by assumption) ?_
  rotate_left
  · (intro w9 hSw; (try dsimp only at hSw); obtain ⟨q0, q1⟩ := hSw; have g1x0 : w9.cell? ⟨w2.heap.size, 0, none⟩ = some (.int .i64 kyq) := (by simp [World.cell?, q1, go_sem]); have g1x1 : w9.cell? ⟨w2.heap.size, 1, none⟩ = some (.int .i64 stq) := (by simp [World.cell?, q1, go_sem]); have g1x2 : w9.cell? ⟨w2.heap.size, 2, none⟩ = some (.int .i64 enq) := (by simp [World.cell?, q1, go_sem]); have g1x3 : w9.cell? ⟨w2.heap.size, 3, none⟩ = some (.int .i64 noq) := (by simp [World.cell?, q1, go_sem]); have g1x4 : w9.cell? ⟨w2.heap.size, 4, none⟩ = some (.int .i64 kdq) := (by simp [World.cell?, q1, go_sem]); have g1x5 : w9.cell? ⟨w2.heap.size, 5, none⟩ = some (.int .i64 nq) := (by simp [World.cell?, q1, go_sem]); have g1x6 : w9.cell? ⟨w2.heap.size, 6, none⟩ = some (.int .i64 sq) := (by simp [World.cell?, q1, go_sem]); have g1x7 : w9.cell? ⟨w2.heap.size, 7, none⟩ = some (.int .i64 lq) := (by simp [World.cell?, q1, go_sem]); have g1x8 : w9.cell? ⟨w2.heap.size, 8, none⟩ = some (.int .i64 mq) := (by simp [World.cell?, q1, go_sem]); go_simp <;> with_reducible rfl)
  try simp only [Act.put, List.setIfInBounds_toArray, List.set_cons_zero, List.set_cons_succ]
  refine wpAnyH_take (i := 8) (v := ?_) (by simp only [List.getElem?_toArray, List.getElem?_cons_zero, List.getElem?_cons_succ]; rfl) (by kernel_rfl) (by kernel_rfl) (by kernel_rfl) (by intro _ _ _ h; exact h) (Or.inl ⟨by rfl, ?_⟩) (by assumption) ?_
  rotate_left
  · (intro w9 hSw; (try dsimp only at hSw); go_simp <;> with_reducible rfl)
  try simp only [Act.put, List.setIfInBounds_toArray, List.set_cons_zero, List.set_cons_succ]
  refine wpAnyH_ready (rs := [9]) (by kernel_rfl) (by simp) ?_
  refine AllReadyH.cons (by simp only [List.getElem?_toArray, List.getElem?_cons_zero, List.getElem?_cons_succ]; rfl) (fun K hK => ?_) AllReadyH.nil
  go_simp
  (go_at_call 23; refine (specpt_eq _ HT).mono ?_; rintro e9 v2 ⟨rfl, hbv2⟩)
  (try go_wp2_with fail)
  have zv2 := hbv2.size
  (try simp at zv2)
  have hP := (hbv2.block (w1.heap.size) (by first | omega | (simp; done) | (simp; omega))).trans hP
  have hQ := (hbv2.block (w2.heap.size) (by first | omega | (simp; done) | (simp; omega))).trans hQ
  refine hK.out _ _ ?_ (fun hHeld2 => ?_)
  · (try dsimp only); exact ⟨hP, hQ⟩
  clear hK K hHeld
  have hHeld := hHeld2
  clear hHeld2
  try simp only [Act.put, List.setIfInBounds_toArray, List.set_cons_zero, List.set_cons_succ]
  refine wpAnyH_take (i := 10) (v := ?_) (by simp only [List.getElem?_toArray, List.getElem?_cons_zero, List.getElem?_cons_succ]; rfl) (by kernel_rfl) (by kernel_rfl) (by kernel_rfl) (by intro _ _ _ h; exact h) (Or.inl ⟨by rfl, ?_⟩) (by assumption) ?_
  rotate_left
  · (intro w9 hSw; (try dsimp only at hSw); go_simp <;> with_reducible rfl)
  try simp only [Act.put, List.setIfInBounds_toArray, List.set_cons_zero, List.set_cons_succ]
  refine wpAnyH_take (i := 11) (v := ?_) (by simp only [List.getElem?_toArray, List.getElem?_cons_zero, List.getElem?_cons_succ]; rfl) (by kernel_rfl) (by kernel_rfl) (by kernel_rfl) (by intro _ _ _ h; exact h) (Or.inl ⟨by rfl, ?_⟩) (by assumption) ?_
  rotate_left
  · (intro w9 hSw; (try dsimp only at hSw); go_simp <;> with_reducible rfl)
  try simp only [Act.put, List.setIfInBounds_toArray, List.set_cons_zero, List.set_cons_succ]
  refine wpAnyH_take (i := 12) (v := ?_) (by simp only [List.getElem?_toArray, List.getElem?_cons_zero, List.getElem?_cons_succ]; rfl) (by kernel_rfl) (by kernel_rfl) (by kernel_rfl) (by intro _ _ _ h; exact h) (Or.inl ⟨by rfl, ?_⟩) (by assumption) ?_
  rotate_left
  · (intro w9 hSw; (try dsimp only at hSw); go_simp <;> with_reducible rfl)
  try simp only [Act.put, List.setIfInBounds_toArray, List.set_cons_zero, List.set_cons_succ]
  refine wpAnyH_take (i := 13) (v := ?_) (by simp only [List.getElem?_toArray, List.getElem?_cons_zero, List.getElem?_cons_succ]; rfl) (by kernel_rfl) (by kernel_rfl) (by kernel_rfl) (by intro _ _ _ h; exact h) (Or.inl ⟨by rfl, ?_⟩) (by assumption) ?_
  rotate_left
  · (intro w9 hSw; (try dsimp only at hSw); obtain ⟨q0, q1⟩ := hSw; have g0x0 : w9.cell? ⟨w1.heap.size, 0, none⟩ = some (.int .i64 ky) := (by simp [World.cell?, q0, go_sem]); have g0x1 : w9.cell? ⟨w1.heap.size, 1, none⟩ = some (.int .i64 st) := (by simp [World.cell?, q0, go_sem]); have g0x2 : w9.cell? ⟨w1.heap.size, 2, none⟩ = some (.int .i64 en) := (by simp [World.cell?, q0, go_sem]); have g0x3 : w9.cell? ⟨w1.heap.size, 3, none⟩ = some (.int .i64 no) := (by simp [World.cell?, q0, go_sem]); have g0x4 : w9.cell? ⟨w1.heap.size, 4, none⟩ = some (.int .i64 kd) := (by simp [World.cell?, q0, go_sem]); have g0x5 : w9.cell? ⟨w1.heap.size, 5, none⟩ = some (.int .i64 n) := (by simp [World.cell?, q0, go_sem]); have g0x6 : w9.cell? ⟨w1.heap.size, 6, none⟩ = some (.int .i64 s) := (by simp [World.cell?, q0, go_sem]); have g0x7 : w9.cell? ⟨w1.heap.size, 7, none⟩ = some (.int .i64 l) := (by simp [World.cell?, q0, go_sem]); have g0x8 : w9.cell? ⟨w1.heap.size, 8, none⟩ = some (.int .i64 m) := (by simp [World.cell?, q0, go_sem]); go_simp <;> with_reducible rfl)
  try simp only [Act.put, List.setIfInBounds_toArray, List.set_cons_zero, List.set_cons_succ]
  refine wpAnyH_take (i := 15) (v := ?_) (by simp only [List.getElem?_toArray, List.getElem?_cons_zero, List.getElem?_cons_succ]; rfl) (by kernel_rfl) (by kernel_rfl) (by kernel_rfl) (by intro _ _ _ h; exact h) (Or.inl ⟨by rfl, ?_⟩) (by assumption) ?_
  rotate_left
  · (intro w9 hSw; (try dsimp only at hSw); obtain ⟨q0, q1⟩ := hSw; have g0x0 : w9.cell? ⟨w1.heap.size, 0, none⟩ = some (.int .i64 ky) := (by simp [World.cell?, q0, go_sem]); have g0x1 : w9.cell? ⟨w1.heap.size, 1, none⟩ = some (.int .i64 st) := (by simp [World.cell?, q0, go_sem]); have g0x2 : w9.cell? ⟨w1.heap.size, 2, none⟩ = some (.int .i64 en) := (by simp [World.cell?, q0, go_sem]); have g0x3 : w9.cell? ⟨w1.heap.size, 3, none⟩ = some (.int .i64 no) := (by simp [World.cell?, q0, go_sem]); have g0x4 : w9.cell? ⟨w1.heap.size, 4, none⟩ = some (.int .i64 kd) := (by simp [World.cell?, q0, go_sem]); have g0x5 : w9.cell? ⟨w1.heap.size, 5, none⟩ = some (.int .i64 n) := (by simp [World.cell?, q0, go_sem]); have g0x6 : w9.cell? ⟨w1.heap.size, 6, none⟩ = some (.int .i64 s) := (by simp [World.cell?, q0, go_sem]); have g0x7 : w9.cell? ⟨w1.heap.size, 7, none⟩ = some (.int .i64 l) := (by simp [World.cell?, q0, go_sem]); have g0x8 : w9.cell? ⟨w1.heap.size, 8, none⟩ = some (.int .i64 m) := (by simp [World.cell?, q0, go_sem]); go_simp <;> with_reducible rfl)
  try simp only [Act.put, List.setIfInBounds_toArray, List.set_cons_zero, List.set_cons_succ]
  refine wpAnyH_ready (rs := [14]) (by kernel_rfl) (by simp) ?_
  refine AllReadyH.cons (by simp only [List.getElem?_toArray, List.getElem?_cons_zero, List.getElem?_cons_succ]; rfl) (fun K hK => ?_) AllReadyH.nil
  go_simp
  (go_at_call 24; refine (implpo_eq _ HO).mono ?_; rintro e9 v3 ⟨rfl, hbv3⟩)
  (try go_wp2_with fail)
  have zv3 := hbv3.size
  (try simp at zv3)
  have hP := (hbv3.block (w1.heap.size) (by first | omega | (simp; done) | (simp; omega))).trans hP
  have hQ := (hbv3.block (w2.heap.size) (by first | omega | (simp; done) | (simp; omega))).trans hQ
  refine hK.out _ _ ?_ (fun hHeld2 => ?_)
  · (try dsimp only); exact ⟨hP, hQ⟩
  clear hK K hHeld
  have hHeld := hHeld2
  clear hHeld2
  try simp only [Act.put, List.setIfInBounds_toArray, List.set_cons_zero, List.set_cons_succ]
  refine wpAnyH_ready (rs := [16]) (by kernel_rfl) (by simp) ?_
  refine AllReadyH.cons (by simp only [List.getElem?_toArray, List.getElem?_cons_zero, List.getElem?_cons_succ]; rfl) (fun K hK => ?_) AllReadyH.nil
  go_simp
  (go_at_call 25; refine (specpo_eq _ HO).mono ?_; rintro e9 v4 ⟨rfl, hbv4⟩)
  (try go_wp2_with fail)
  have zv4 := hbv4.size
  (try simp at zv4)
  have hP := (hbv4.block (w1.heap.size) (by first | omega | (simp; done) | (simp; omega))).trans hP
  have hQ := (hbv4.block (w2.heap.size) (by first | omega | (simp; done) | (simp; omega))).trans hQ
  refine hK.out _ _ ?_ (fun hHeld2 => ?_)
  · (try dsimp only); exact ⟨hP, hQ⟩
  clear hK K hHeld
  have hHeld := hHeld2
  clear hHeld2
  try simp only [Act.put, List.setIfInBounds_toArray, List.set_cons_zero, List.set_cons_succ]
  refine wpAnyH_take (i := 17) (v := ?_) (by simp only [List.getElem?_toArray, List.getElem?_cons_zero, List.getElem?_cons_succ]; rfl) (by kernel_rfl) (by kernel_rfl) (by kernel_rfl) (by intro _ _ _ h; exact h) (Or.inl ⟨by rfl, ?_⟩) (by assumption) ?_
  rotate_left
  · (intro w9 hSw; (try dsimp only at hSw); go_simp <;> with_reducible rfl)
  try simp only [Act.put, List.setIfInBounds_toArray, List.set_cons_zero, List.set_cons_succ]
  refine wpAnyH_take (i := 18) (v := ?_) (by simp only [List.getElem?_toArray, List.getElem?_cons_zero, List.getElem?_cons_succ]; rfl) (by kernel_rfl) (by kernel_rfl) (by kernel_rfl) (by intro _ _ _ h; exact h) (Or.inl ⟨by rfl, ?_⟩) (by assumption) ?_
  rotate_left
  · (intro w9 hSw; (try dsimp only at hSw); go_simp <;> with_reducible rfl)
  try simp only [Act.put, List.setIfInBounds_toArray, List.set_cons_zero, List.set_cons_succ]
  refine wpAnyH_done (by kernel_rfl) ?_ _
  have hbE : Below w.heap.size w v4 := bel_trans (bel_trans (bel_trans (bel_trans (bel_drew hbD) hbv1) hbv2) hbv3) hbv4
  have zv : w2.heap.size < v4.heap.size := by omega
  clear hbv1 hbv2 hbv3 hbv4 hbD
  cases op with
  | false =>
    obtain rfl : ST = ⟨#[]⟩ := (unhide HS).symm.trans (panText_no (unhide HO))
    have c0 : v4.cell? ⟨w1.heap.size, 0, none⟩ = some (.int .i64 ky) := by simp [World.cell?, hP, go_sem]
    have c1 : v4.cell? ⟨w1.heap.size, 1, none⟩ = some (.int .i64 st) := by simp [World.cell?, hP, go_sem]
    have c2 : v4.cell? ⟨w1.heap.size, 2, none⟩ = some (.int .i64 en) := by simp [World.cell?, hP, go_sem]
    have c3 : v4.cell? ⟨w1.heap.size, 3, none⟩ = some (.int .i64 no) := by simp [World.cell?, hP, go_sem]
    have c4 : v4.cell? ⟨w1.heap.size, 4, none⟩ = some (.int .i64 kd) := by simp [World.cell?, hP, go_sem]
    have c5 : v4.cell? ⟨w1.heap.size, 5, none⟩ = some (.int .i64 n) := by simp [World.cell?, hP, go_sem]
    have c6 : v4.cell? ⟨w1.heap.size, 6, none⟩ = some (.int .i64 s) := by simp [World.cell?, hP, go_sem]
    have c7 : v4.cell? ⟨w1.heap.size, 7, none⟩ = some (.int .i64 l) := by simp [World.cell?, hP, go_sem]
    have c8 : v4.cell? ⟨w1.heap.size, 8, none⟩ = some (.int .i64 m) := by simp [World.cell?, hP, go_sem]
    go_wp2_with fail
    refine (specpo_eq _ HO).mono ?_
    rintro e9 v5 ⟨rfl, hb5⟩
    have hbF : Below w.heap.size w v5 := bel_trans hbE hb5
    go_wp2_with fail
    refine (implpt_eq _ (tab_bel (unhide HE) hbF) (hide gone5)).mono ?_
    rintro e9 v6 ⟨rfl, hb6⟩
    go_wp2
    go_ret
    exact ⟨by first | rfl | (simp; done), bel_trans hbF hb6⟩
  | true =>
    cases hik : inB k 1 4 with
    | false =>
      obtain rfl : ST = ⟨#[]⟩ := (unhide HS).symm.trans (panText_nk hik)
      have hk : k = 0 ∨ k = 5 := by
        by_cases h1 : 1 ≤ k
        · by_cases h2 : k ≤ 4
          · rw [inB_iff.2 ⟨h1, h2⟩] at hik; cases hik
          · omega
        · omega
      clear hik HS HT
      have c0 : v4.cell? ⟨w1.heap.size, 0, none⟩ = some (.int .i64 ky) := by simp [World.cell?, hP, go_sem]
      have c1 : v4.cell? ⟨w1.heap.size, 1, none⟩ = some (.int .i64 st) := by simp [World.cell?, hP, go_sem]
      have c2 : v4.cell? ⟨w1.heap.size, 2, none⟩ = some (.int .i64 en) := by simp [World.cell?, hP, go_sem]
      have c3 : v4.cell? ⟨w1.heap.size, 3, none⟩ = some (.int .i64 no) := by simp [World.cell?, hP, go_sem]
      have c4 : v4.cell? ⟨w1.heap.size, 4, none⟩ = some (.int .i64 kd) := by simp [World.cell?, hP, go_sem]
      have c5 : v4.cell? ⟨w1.heap.size, 5, none⟩ = some (.int .i64 n) := by simp [World.cell?, hP, go_sem]
      have c6 : v4.cell? ⟨w1.heap.size, 6, none⟩ = some (.int .i64 s) := by simp [World.cell?, hP, go_sem]
      have c7 : v4.cell? ⟨w1.heap.size, 7, none⟩ = some (.int .i64 l) := by simp [World.cell?, hP, go_sem]
      have c8 : v4.cell? ⟨w1.heap.size, 8, none⟩ = some (.int .i64 m) := by simp [World.cell?, hP, go_sem]
      rcases hk with rfl | rfl
      all_goals
        go_wp2_with fail
        refine (specpo_eq _ HO).mono ?_
        rintro e9 v5 ⟨rfl, hb5⟩
        have hbF : Below w.heap.size w v5 := bel_trans hbE hb5
        go_wp2_with fail
        refine (implpt_eq _ (tab_bel (unhide HE) hbF) (hide gone5)).mono ?_
        rintro e9 v6 ⟨rfl, hb6⟩
        go_wp2
        go_ret
        exact ⟨by first | rfl | (simp; done), bel_trans hbF hb6⟩
    | true =>
      have hne : ST.toList.isEmpty = false := by rw [← unhide HS]; exact panText_list (unhide HO) hik
      by_cases hEq : ST = TT
      · obtain rfl := hEq
        have hoq : okPan kyq stq enq noq kdq nq sq lq mq = true := by
          cases h9 : okPan kyq stq enq noq kdq nq sq lq mq with
          | true => rfl
          | false => rw [← unhide HT, panText_no h9, Go.ByteArray.toList_eq] at hne; cases hne
        have h8 := (unhide HS).trans (unhide HT).symm
        rw [panText_ok (unhide HO) hik, panText_ok hoq hik] at h8
        obtain ⟨rfl, rfl, rfl, rfl, rfl, h7⟩ := pan_inj (unhide HO) hoq h8
        obtain ⟨V, hV⟩ : ∃ V, tellI n s l m k = V := ⟨_, rfl⟩
        have HV := hide hV
        have HW := hide (h7.symm.trans hV)
        clear h8 h7 hV hoq hik HS HT HO
        go_wp2_with fail
        refine wp_region_held_drew (S := (fun W => W.heap[w1.heap.size]? = some (.cells #[.int .i64 ky, .int .i64 st, .int .i64 en, .int .i64 no, .int .i64 kd, .int .i64 n, .int .i64 s, .int .i64 l, .int .i64 m] 45 (0, 0)) ∧ W.heap[w2.heap.size]? = some (.cells #[.int .i64 ky, .int .i64 st, .int .i64 en, .int .i64 no, .int .i64 kd, .int .i64 nq, .int .i64 sq, .int .i64 lq, .int .i64 mq] 45 (0, 0)))) (by kernel_rfl) ?_ (fun hHeld => ?_)
        · (try dsimp only); exact ⟨hP, hQ⟩
        refine wpAnyH_take (i := 0) (v := ?_) (by simp only [List.getElem?_toArray, List.getElem?_cons_zero, List.getElem?_cons_succ]; rfl) (by kernel_rfl) (by kernel_rfl) (by kernel_rfl) (by intro _ _ _ h; exact h) (Or.inl ⟨by rfl, ?_⟩) (by assumption) ?_
        rotate_left
        · (intro w9 hSw; (try dsimp only at hSw); go_simp <;> with_reducible rfl)
        try simp only [Act.put, List.setIfInBounds_toArray, List.set_cons_zero, List.set_cons_succ]
        refine wpAnyH_take (i := 1) (v := ?_) (by simp only [List.getElem?_toArray, List.getElem?_cons_zero, List.getElem?_cons_succ]; rfl) (by kernel_rfl) (by kernel_rfl) (by kernel_rfl) (by intro _ _ _ h; exact h) (Or.inl ⟨by rfl, ?_⟩) (by assumption) ?_
        rotate_left
        · (intro w9 hSw; (try dsimp only at hSw); go_simp <;> with_reducible rfl)
        try simp only [Act.put, List.setIfInBounds_toArray, List.set_cons_zero, List.set_cons_succ]
        refine wpAnyH_take (i := 2) (v := ?_) (by simp only [List.getElem?_toArray, List.getElem?_cons_zero, List.getElem?_cons_succ]; rfl) (by kernel_rfl) (by kernel_rfl) (by kernel_rfl) (by intro _ _ _ h; exact h) (Or.inl ⟨by rfl, ?_⟩) (by assumption) ?_
        rotate_left
        · (intro w9 hSw; (try dsimp only at hSw); go_simp <;> with_reducible rfl)
        try simp only [Act.put, List.setIfInBounds_toArray, List.set_cons_zero, List.set_cons_succ]
        refine wpAnyH_take (i := 3) (v := ?_) (by simp only [List.getElem?_toArray, List.getElem?_cons_zero, List.getElem?_cons_succ]; rfl) (by kernel_rfl) (by kernel_rfl) (by kernel_rfl) (by intro _ _ _ h; exact h) (Or.inl ⟨by rfl, ?_⟩) (by assumption) ?_
        rotate_left
        · (intro w9 hSw; (try dsimp only at hSw); go_simp <;> with_reducible rfl)
        try simp only [Act.put, List.setIfInBounds_toArray, List.set_cons_zero, List.set_cons_succ]
        refine wpAnyH_take (i := 4) (v := ?_) (by simp only [List.getElem?_toArray, List.getElem?_cons_zero, List.getElem?_cons_succ]; rfl) (by kernel_rfl) (by kernel_rfl) (by kernel_rfl) (by intro _ _ _ h; exact h) (Or.inl ⟨by rfl, ?_⟩) (by assumption) ?_
        rotate_left
        · (intro w9 hSw; (try dsimp only at hSw); go_simp <;> with_reducible rfl)
        try simp only [Act.put, List.setIfInBounds_toArray, List.set_cons_zero, List.set_cons_succ]
        refine wpAnyH_take (i := 5) (v := ?_) (by simp only [List.getElem?_toArray, List.getElem?_cons_zero, List.getElem?_cons_succ]; rfl) (by kernel_rfl) (by kernel_rfl) (by kernel_rfl) (by intro _ _ _ h; exact h) (Or.inl ⟨by rfl, ?_⟩) (by assumption) ?_
        rotate_left
        · (intro w9 hSw; (try dsimp only at hSw); obtain ⟨q0, q1⟩ := hSw; have g0x0 : w9.cell? ⟨w1.heap.size, 0, none⟩ = some (.int .i64 ky) := (by simp [World.cell?, q0, go_sem]); have g0x1 : w9.cell? ⟨w1.heap.size, 1, none⟩ = some (.int .i64 st) := (by simp [World.cell?, q0, go_sem]); have g0x2 : w9.cell? ⟨w1.heap.size, 2, none⟩ = some (.int .i64 en) := (by simp [World.cell?, q0, go_sem]); have g0x3 : w9.cell? ⟨w1.heap.size, 3, none⟩ = some (.int .i64 no) := (by simp [World.cell?, q0, go_sem]); have g0x4 : w9.cell? ⟨w1.heap.size, 4, none⟩ = some (.int .i64 kd) := (by simp [World.cell?, q0, go_sem]); have g0x5 : w9.cell? ⟨w1.heap.size, 5, none⟩ = some (.int .i64 n) := (by simp [World.cell?, q0, go_sem]); have g0x6 : w9.cell? ⟨w1.heap.size, 6, none⟩ = some (.int .i64 s) := (by simp [World.cell?, q0, go_sem]); have g0x7 : w9.cell? ⟨w1.heap.size, 7, none⟩ = some (.int .i64 l) := (by simp [World.cell?, q0, go_sem]); have g0x8 : w9.cell? ⟨w1.heap.size, 8, none⟩ = some (.int .i64 m) := (by simp [World.cell?, q0, go_sem]); go_simp <;> with_reducible rfl)
        try simp only [Act.put, List.setIfInBounds_toArray, List.set_cons_zero, List.set_cons_succ]
        refine wpAnyH_take (i := 6) (v := ?_) (by simp only [List.getElem?_toArray, List.getElem?_cons_zero, List.getElem?_cons_succ]; rfl) (by kernel_rfl) (by kernel_rfl) (by kernel_rfl) (by intro _ _ _ h; exact h) (Or.inl ⟨by rfl, ?_⟩) (by assumption) ?_
        rotate_left
        · (intro w9 hSw; (try dsimp only at hSw); go_simp <;> with_reducible rfl)
        try simp only [Act.put, List.setIfInBounds_toArray, List.set_cons_zero, List.set_cons_succ]
        refine wpAnyH_take (i := 7) (v := ?_) (by simp only [List.getElem?_toArray, List.getElem?_cons_zero, List.getElem?_cons_succ]; rfl) (by kernel_rfl) (by kernel_rfl) (by kernel_rfl) (by intro _ _ _ h; exact h) (Or.inl ⟨by rfl, ?_⟩) (by assumption) ?_
        rotate_left
        · (intro w9 hSw; (try dsimp only at hSw); obtain ⟨q0, q1⟩ := hSw; have g1x0 : w9.cell? ⟨w2.heap.size, 0, none⟩ = some (.int .i64 ky) := (by simp [World.cell?, q1, go_sem]); have g1x1 : w9.cell? ⟨w2.heap.size, 1, none⟩ = some (.int .i64 st) := (by simp [World.cell?, q1, go_sem]); have g1x2 : w9.cell? ⟨w2.heap.size, 2, none⟩ = some (.int .i64 en) := (by simp [World.cell?, q1, go_sem]); have g1x3 : w9.cell? ⟨w2.heap.size, 3, none⟩ = some (.int .i64 no) := (by simp [World.cell?, q1, go_sem]); have g1x4 : w9.cell? ⟨w2.heap.size, 4, none⟩ = some (.int .i64 kd) := (by simp [World.cell?, q1, go_sem]); have g1x5 : w9.cell? ⟨w2.heap.size, 5, none⟩ = some (.int .i64 nq) := (by simp [World.cell?, q1, go_sem]); have g1x6 : w9.cell? ⟨w2.heap.size, 6, none⟩ = some (.int .i64 sq) := (by simp [World.cell?, q1, go_sem]); have g1x7 : w9.cell? ⟨w2.heap.size, 7, none⟩ = some (.int .i64 lq) := (by simp [World.cell?, q1, go_sem]); have g1x8 : w9.cell? ⟨w2.heap.size, 8, none⟩ = some (.int .i64 mq) := (by simp [World.cell?, q1, go_sem]); go_simp <;> with_reducible rfl)
        try simp only [Act.put, List.setIfInBounds_toArray, List.set_cons_zero, List.set_cons_succ]
        refine wpAnyH_take (i := 8) (v := ?_) (by simp only [List.getElem?_toArray, List.getElem?_cons_zero, List.getElem?_cons_succ]; rfl) (by kernel_rfl) (by kernel_rfl) (by kernel_rfl) (by intro _ _ _ h; exact h) (Or.inl ⟨by rfl, ?_⟩) (by assumption) ?_
        rotate_left
        · (intro w9 hSw; (try dsimp only at hSw); go_simp <;> with_reducible rfl)
        try simp only [Act.put, List.setIfInBounds_toArray, List.set_cons_zero, List.set_cons_succ]
        refine wpAnyH_take (i := 9) (v := ?_) (by simp only [List.getElem?_toArray, List.getElem?_cons_zero, List.getElem?_cons_succ]; rfl) (by kernel_rfl) (by kernel_rfl) (by kernel_rfl) (by intro _ _ _ h; exact h) (Or.inl ⟨by rfl, ?_⟩) (by assumption) ?_
        rotate_left
        · (intro w9 hSw; (try dsimp only at hSw); go_simp <;> with_reducible rfl)
        try simp only [Act.put, List.setIfInBounds_toArray, List.set_cons_zero, List.set_cons_succ]
        refine wpAnyH_take (i := 10) (v := ?_) (by simp only [List.getElem?_toArray, List.getElem?_cons_zero, List.getElem?_cons_succ]; rfl) (by kernel_rfl) (by kernel_rfl) (by kernel_rfl) (by intro _ _ _ h; exact h) (Or.inl ⟨by rfl, ?_⟩) (by assumption) ?_
        rotate_left
        · (intro w9 hSw; (try dsimp only at hSw); go_simp <;> with_reducible rfl)
        try simp only [Act.put, List.setIfInBounds_toArray, List.set_cons_zero, List.set_cons_succ]
        refine wpAnyH_take (i := 11) (v := ?_) (by simp only [List.getElem?_toArray, List.getElem?_cons_zero, List.getElem?_cons_succ]; rfl) (by kernel_rfl) (by kernel_rfl) (by kernel_rfl) (by intro _ _ _ h; exact h) (Or.inl ⟨by rfl, ?_⟩) (by assumption) ?_
        rotate_left
        · (intro w9 hSw; (try dsimp only at hSw); obtain ⟨q0, q1⟩ := hSw; have g0x0 : w9.cell? ⟨w1.heap.size, 0, none⟩ = some (.int .i64 ky) := (by simp [World.cell?, q0, go_sem]); have g0x1 : w9.cell? ⟨w1.heap.size, 1, none⟩ = some (.int .i64 st) := (by simp [World.cell?, q0, go_sem]); have g0x2 : w9.cell? ⟨w1.heap.size, 2, none⟩ = some (.int .i64 en) := (by simp [World.cell?, q0, go_sem]); have g0x3 : w9.cell? ⟨w1.heap.size, 3, none⟩ = some (.int .i64 no) := (by simp [World.cell?, q0, go_sem]); have g0x4 : w9.cell? ⟨w1.heap.size, 4, none⟩ = some (.int .i64 kd) := (by simp [World.cell?, q0, go_sem]); have g0x5 : w9.cell? ⟨w1.heap.size, 5, none⟩ = some (.int .i64 n) := (by simp [World.cell?, q0, go_sem]); have g0x6 : w9.cell? ⟨w1.heap.size, 6, none⟩ = some (.int .i64 s) := (by simp [World.cell?, q0, go_sem]); have g0x7 : w9.cell? ⟨w1.heap.size, 7, none⟩ = some (.int .i64 l) := (by simp [World.cell?, q0, go_sem]); have g0x8 : w9.cell? ⟨w1.heap.size, 8, none⟩ = some (.int .i64 m) := (by simp [World.cell?, q0, go_sem]); go_simp <;> with_reducible rfl)
        try simp only [Act.put, List.setIfInBounds_toArray, List.set_cons_zero, List.set_cons_succ]
        refine wpAnyH_take (i := 12) (v := ?_) (by simp only [List.getElem?_toArray, List.getElem?_cons_zero, List.getElem?_cons_succ]; rfl) (by kernel_rfl) (by kernel_rfl) (by kernel_rfl) (by intro _ _ _ h; exact h) (Or.inl ⟨by rfl, ?_⟩) (by assumption) ?_
        rotate_left
        · (intro w9 hSw; (try dsimp only at hSw); go_simp <;> with_reducible rfl)
        try simp only [Act.put, List.setIfInBounds_toArray, List.set_cons_zero, List.set_cons_succ]
        refine wpAnyH_take (i := 13) (v := ?_) (by simp only [List.getElem?_toArray, List.getElem?_cons_zero, List.getElem?_cons_succ]; rfl) (by kernel_rfl) (by kernel_rfl) (by kernel_rfl) (by intro _ _ _ h; exact h) (Or.inl ⟨by rfl, ?_⟩) (by assumption) ?_
        rotate_left
        · (intro w9 hSw; (try dsimp only at hSw); obtain ⟨q0, q1⟩ := hSw; have g1x0 : w9.cell? ⟨w2.heap.size, 0, none⟩ = some (.int .i64 ky) := (by simp [World.cell?, q1, go_sem]); have g1x1 : w9.cell? ⟨w2.heap.size, 1, none⟩ = some (.int .i64 st) := (by simp [World.cell?, q1, go_sem]); have g1x2 : w9.cell? ⟨w2.heap.size, 2, none⟩ = some (.int .i64 en) := (by simp [World.cell?, q1, go_sem]); have g1x3 : w9.cell? ⟨w2.heap.size, 3, none⟩ = some (.int .i64 no) := (by simp [World.cell?, q1, go_sem]); have g1x4 : w9.cell? ⟨w2.heap.size, 4, none⟩ = some (.int .i64 kd) := (by simp [World.cell?, q1, go_sem]); have g1x5 : w9.cell? ⟨w2.heap.size, 5, none⟩ = some (.int .i64 nq) := (by simp [World.cell?, q1, go_sem]); have g1x6 : w9.cell? ⟨w2.heap.size, 6, none⟩ = some (.int .i64 sq) := (by simp [World.cell?, q1, go_sem]); have g1x7 : w9.cell? ⟨w2.heap.size, 7, none⟩ = some (.int .i64 lq) := (by simp [World.cell?, q1, go_sem]); have g1x8 : w9.cell? ⟨w2.heap.size, 8, none⟩ = some (.int .i64 mq) := (by simp [World.cell?, q1, go_sem]); go_simp <;> with_reducible rfl)
        try simp only [Act.put, List.setIfInBounds_toArray, List.set_cons_zero, List.set_cons_succ]
        refine wpAnyH_take (i := 14) (v := ?_) (by simp only [List.getElem?_toArray, List.getElem?_cons_zero, List.getElem?_cons_succ]; rfl) (by kernel_rfl) (by kernel_rfl) (by kernel_rfl) (by intro _ _ _ h; exact h) (Or.inl ⟨by rfl, ?_⟩) (by assumption) ?_
        rotate_left
        · (intro w9 hSw; (try dsimp only at hSw); go_simp <;> with_reducible rfl)
        try simp only [Act.put, List.setIfInBounds_toArray, List.set_cons_zero, List.set_cons_succ]
        refine wpAnyH_take (i := 15) (v := ?_) (by simp only [List.getElem?_toArray, List.getElem?_cons_zero, List.getElem?_cons_succ]; rfl) (by kernel_rfl) (by kernel_rfl) (by kernel_rfl) (by intro _ _ _ h; exact h) (Or.inl ⟨by rfl, ?_⟩) (by assumption) ?_
        rotate_left
        · (intro w9 hSw; (try dsimp only at hSw); go_simp <;> with_reducible rfl)
        try simp only [Act.put, List.setIfInBounds_toArray, List.set_cons_zero, List.set_cons_succ]
        refine wpAnyH_take (i := 16) (v := ?_) (by simp only [List.getElem?_toArray, List.getElem?_cons_zero, List.getElem?_cons_succ]; rfl) (by kernel_rfl) (by kernel_rfl) (by kernel_rfl) (by intro _ _ _ h; exact h) (Or.inl ⟨by rfl, ?_⟩) (by assumption) ?_
        rotate_left
        · (intro w9 hSw; (try dsimp only at hSw); go_simp <;> with_reducible rfl)
        try simp only [Act.put, List.setIfInBounds_toArray, List.set_cons_zero, List.set_cons_succ]
        refine wpAnyH_take (i := 17) (v := ?_) (by simp only [List.getElem?_toArray, List.getElem?_cons_zero, List.getElem?_cons_succ]; rfl) (by kernel_rfl) (by kernel_rfl) (by kernel_rfl) (by intro _ _ _ h; exact h) (Or.inl ⟨by rfl, ?_⟩) (by assumption) ?_
        rotate_left
        · (intro w9 hSw; (try dsimp only at hSw); go_simp <;> with_reducible rfl)
        try simp only [Act.put, List.setIfInBounds_toArray, List.set_cons_zero, List.set_cons_succ]
        refine wpAnyH_take (i := 18) (v := ?_) (by simp only [List.getElem?_toArray, List.getElem?_cons_zero, List.getElem?_cons_succ]; rfl) (by kernel_rfl) (by kernel_rfl) (by kernel_rfl) (by intro _ _ _ h; exact h) (Or.inl ⟨by rfl, ?_⟩) (by assumption) ?_
        rotate_left
        · (intro w9 hSw; (try dsimp only at hSw); obtain ⟨q0, q1⟩ := hSw; have g0x0 : w9.cell? ⟨w1.heap.size, 0, none⟩ = some (.int .i64 ky) := (by simp [World.cell?, q0, go_sem]); have g0x1 : w9.cell? ⟨w1.heap.size, 1, none⟩ = some (.int .i64 st) := (by simp [World.cell?, q0, go_sem]); have g0x2 : w9.cell? ⟨w1.heap.size, 2, none⟩ = some (.int .i64 en) := (by simp [World.cell?, q0, go_sem]); have g0x3 : w9.cell? ⟨w1.heap.size, 3, none⟩ = some (.int .i64 no) := (by simp [World.cell?, q0, go_sem]); have g0x4 : w9.cell? ⟨w1.heap.size, 4, none⟩ = some (.int .i64 kd) := (by simp [World.cell?, q0, go_sem]); have g0x5 : w9.cell? ⟨w1.heap.size, 5, none⟩ = some (.int .i64 n) := (by simp [World.cell?, q0, go_sem]); have g0x6 : w9.cell? ⟨w1.heap.size, 6, none⟩ = some (.int .i64 s) := (by simp [World.cell?, q0, go_sem]); have g0x7 : w9.cell? ⟨w1.heap.size, 7, none⟩ = some (.int .i64 l) := (by simp [World.cell?, q0, go_sem]); have g0x8 : w9.cell? ⟨w1.heap.size, 8, none⟩ = some (.int .i64 m) := (by simp [World.cell?, q0, go_sem]); go_simp <;> with_reducible rfl)
        try simp only [Act.put, List.setIfInBounds_toArray, List.set_cons_zero, List.set_cons_succ]
        refine wpAnyH_take (i := 19) (v := ?_) (by simp only [List.getElem?_toArray, List.getElem?_cons_zero, List.getElem?_cons_succ]; rfl) (by kernel_rfl) (by kernel_rfl) (by kernel_rfl) (by intro _ _ _ h; exact h) (Or.inl ⟨by rfl, ?_⟩) (by assumption) ?_
        rotate_left
        · (intro w9 hSw; (try dsimp only at hSw); go_simp <;> with_reducible rfl)
        try simp only [Act.put, List.setIfInBounds_toArray, List.set_cons_zero, List.set_cons_succ]
        refine wpAnyH_take (i := 20) (v := ?_) (by simp only [List.getElem?_toArray, List.getElem?_cons_zero, List.getElem?_cons_succ]; rfl) (by kernel_rfl) (by kernel_rfl) (by kernel_rfl) (by intro _ _ _ h; exact h) (Or.inl ⟨by rfl, ?_⟩) (by assumption) ?_
        rotate_left
        · (intro w9 hSw; (try dsimp only at hSw); obtain ⟨q0, q1⟩ := hSw; have g1x0 : w9.cell? ⟨w2.heap.size, 0, none⟩ = some (.int .i64 ky) := (by simp [World.cell?, q1, go_sem]); have g1x1 : w9.cell? ⟨w2.heap.size, 1, none⟩ = some (.int .i64 st) := (by simp [World.cell?, q1, go_sem]); have g1x2 : w9.cell? ⟨w2.heap.size, 2, none⟩ = some (.int .i64 en) := (by simp [World.cell?, q1, go_sem]); have g1x3 : w9.cell? ⟨w2.heap.size, 3, none⟩ = some (.int .i64 no) := (by simp [World.cell?, q1, go_sem]); have g1x4 : w9.cell? ⟨w2.heap.size, 4, none⟩ = some (.int .i64 kd) := (by simp [World.cell?, q1, go_sem]); have g1x5 : w9.cell? ⟨w2.heap.size, 5, none⟩ = some (.int .i64 nq) := (by simp [World.cell?, q1, go_sem]); have g1x6 : w9.cell? ⟨w2.heap.size, 6, none⟩ = some (.int .i64 sq) := (by simp [World.cell?, q1, go_sem]); have g1x7 : w9.cell? ⟨w2.heap.size, 7, none⟩ = some (.int .i64 lq) := (by simp [World.cell?, q1, go_sem]); have g1x8 : w9.cell? ⟨w2.heap.size, 8, none⟩ = some (.int .i64 mq) := (by simp [World.cell?, q1, go_sem]); go_simp <;> with_reducible rfl)
        try simp only [Act.put, List.setIfInBounds_toArray, List.set_cons_zero, List.set_cons_succ]
        refine wpAnyH_take (i := 21) (v := ?_) (by simp only [List.getElem?_toArray, List.getElem?_cons_zero, List.getElem?_cons_succ]; rfl) (by kernel_rfl) (by kernel_rfl) (by kernel_rfl) (by intro _ _ _ h; exact h) (Or.inl ⟨by rfl, ?_⟩) (by assumption) ?_
        rotate_left
        · (intro w9 hSw; (try dsimp only at hSw); go_simp <;> with_reducible rfl)
        try simp only [Act.put, List.setIfInBounds_toArray, List.set_cons_zero, List.set_cons_succ]
        refine wpAnyH_take (i := 22) (v := ?_) (by simp only [List.getElem?_toArray, List.getElem?_cons_zero, List.getElem?_cons_succ]; rfl) (by kernel_rfl) (by kernel_rfl) (by kernel_rfl) (by intro _ _ _ h; exact h) (Or.inl ⟨by rfl, ?_⟩) (by assumption) ?_
        rotate_left
        · (intro w9 hSw; (try dsimp only at hSw); go_simp <;> with_reducible rfl)
        try simp only [Act.put, List.setIfInBounds_toArray, List.set_cons_zero, List.set_cons_succ]
        refine wpAnyH_take (i := 23) (v := ?_) (by simp only [List.getElem?_toArray, List.getElem?_cons_zero, List.getElem?_cons_succ]; rfl) (by kernel_rfl) (by kernel_rfl) (by kernel_rfl) (by intro _ _ _ h; exact h) (Or.inl ⟨by rfl, ?_⟩) (by assumption) ?_
        rotate_left
        · (intro w9 hSw; (try dsimp only at hSw); go_simp <;> with_reducible rfl)
        try simp only [Act.put, List.setIfInBounds_toArray, List.set_cons_zero, List.set_cons_succ]
        refine wpAnyH_take (i := 24) (v := ?_) (by simp only [List.getElem?_toArray, List.getElem?_cons_zero, List.getElem?_cons_succ]; rfl) (by kernel_rfl) (by kernel_rfl) (by kernel_rfl) (by intro _ _ _ h; exact h) (Or.inl ⟨by rfl, ?_⟩) (by assumption) ?_
        rotate_left
        · (intro w9 hSw; (try dsimp only at hSw); go_simp <;> with_reducible rfl)
        try simp only [Act.put, List.setIfInBounds_toArray, List.set_cons_zero, List.set_cons_succ]
        refine wpAnyH_take (i := 25) (v := ?_) (by simp only [List.getElem?_toArray, List.getElem?_cons_zero, List.getElem?_cons_succ]; rfl) (by kernel_rfl) (by kernel_rfl) (by kernel_rfl) (by intro _ _ _ h; exact h) (Or.inl ⟨by rfl, ?_⟩) (by assumption) ?_
        rotate_left
        · (intro w9 hSw; (try dsimp only at hSw); obtain ⟨q0, q1⟩ := hSw; have g0x0 : w9.cell? ⟨w1.heap.size, 0, none⟩ = some (.int .i64 ky) := (by simp [World.cell?, q0, go_sem]); have g0x1 : w9.cell? ⟨w1.heap.size, 1, none⟩ = some (.int .i64 st) := (by simp [World.cell?, q0, go_sem]); have g0x2 : w9.cell? ⟨w1.heap.size, 2, none⟩ = some (.int .i64 en) := (by simp [World.cell?, q0, go_sem]); have g0x3 : w9.cell? ⟨w1.heap.size, 3, none⟩ = some (.int .i64 no) := (by simp [World.cell?, q0, go_sem]); have g0x4 : w9.cell? ⟨w1.heap.size, 4, none⟩ = some (.int .i64 kd) := (by simp [World.cell?, q0, go_sem]); have g0x5 : w9.cell? ⟨w1.heap.size, 5, none⟩ = some (.int .i64 n) := (by simp [World.cell?, q0, go_sem]); have g0x6 : w9.cell? ⟨w1.heap.size, 6, none⟩ = some (.int .i64 s) := (by simp [World.cell?, q0, go_sem]); have g0x7 : w9.cell? ⟨w1.heap.size, 7, none⟩ = some (.int .i64 l) := (by simp [World.cell?, q0, go_sem]); have g0x8 : w9.cell? ⟨w1.heap.size, 8, none⟩ = some (.int .i64 m) := (by simp [World.cell?, q0, go_sem]); go_simp <;> with_reducible rfl)
        try simp only [Act.put, List.setIfInBounds_toArray, List.set_cons_zero, List.set_cons_succ]
        refine wpAnyH_take (i := 26) (v := ?_) (by simp only [List.getElem?_toArray, List.getElem?_cons_zero, List.getElem?_cons_succ]; rfl) (by kernel_rfl) (by kernel_rfl) (by kernel_rfl) (by intro _ _ _ h; exact h) (Or.inl ⟨by rfl, ?_⟩) (by assumption) ?_
        rotate_left
        · (intro w9 hSw; (try dsimp only at hSw); go_simp <;> with_reducible rfl)
        try simp only [Act.put, List.setIfInBounds_toArray, List.set_cons_zero, List.set_cons_succ]
        refine wpAnyH_take (i := 27) (v := ?_) (by simp only [List.getElem?_toArray, List.getElem?_cons_zero, List.getElem?_cons_succ]; rfl) (by kernel_rfl) (by kernel_rfl) (by kernel_rfl) (by intro _ _ _ h; exact h) (Or.inl ⟨by rfl, ?_⟩) (by assumption) ?_
        rotate_left
        · (intro w9 hSw; (try dsimp only at hSw); obtain ⟨q0, q1⟩ := hSw; have g1x0 : w9.cell? ⟨w2.heap.size, 0, none⟩ = some (.int .i64 ky) := (by simp [World.cell?, q1, go_sem]); have g1x1 : w9.cell? ⟨w2.heap.size, 1, none⟩ = some (.int .i64 st) := (by simp [World.cell?, q1, go_sem]); have g1x2 : w9.cell? ⟨w2.heap.size, 2, none⟩ = some (.int .i64 en) := (by simp [World.cell?, q1, go_sem]); have g1x3 : w9.cell? ⟨w2.heap.size, 3, none⟩ = some (.int .i64 no) := (by simp [World.cell?, q1, go_sem]); have g1x4 : w9.cell? ⟨w2.heap.size, 4, none⟩ = some (.int .i64 kd) := (by simp [World.cell?, q1, go_sem]); have g1x5 : w9.cell? ⟨w2.heap.size, 5, none⟩ = some (.int .i64 nq) := (by simp [World.cell?, q1, go_sem]); have g1x6 : w9.cell? ⟨w2.heap.size, 6, none⟩ = some (.int .i64 sq) := (by simp [World.cell?, q1, go_sem]); have g1x7 : w9.cell? ⟨w2.heap.size, 7, none⟩ = some (.int .i64 lq) := (by simp [World.cell?, q1, go_sem]); have g1x8 : w9.cell? ⟨w2.heap.size, 8, none⟩ = some (.int .i64 mq) := (by simp [World.cell?, q1, go_sem]); go_simp <;> with_reducible rfl)
        try simp only [Act.put, List.setIfInBounds_toArray, List.set_cons_zero, List.set_cons_succ]
        refine wpAnyH_take (i := 28) (v := ?_) (by simp only [List.getElem?_toArray, List.getElem?_cons_zero, List.getElem?_cons_succ]; rfl) (by kernel_rfl) (by kernel_rfl) (by kernel_rfl) (by intro _ _ _ h; exact h) (Or.inl ⟨by rfl, ?_⟩) (by assumption) ?_
        rotate_left
        · (intro w9 hSw; (try dsimp only at hSw); go_simp <;> with_reducible rfl)
        try simp only [Act.put, List.setIfInBounds_toArray, List.set_cons_zero, List.set_cons_succ]
        refine wpAnyH_take (i := 29) (v := ?_) (by simp only [List.getElem?_toArray, List.getElem?_cons_zero, List.getElem?_cons_succ]; rfl) (by kernel_rfl) (by kernel_rfl) (by kernel_rfl) (by intro _ _ _ h; exact h) (Or.inl ⟨by rfl, ?_⟩) (by assumption) ?_
        rotate_left
        · (intro w9 hSw; (try dsimp only at hSw); go_simp <;> with_reducible rfl)
        try simp only [Act.put, List.setIfInBounds_toArray, List.set_cons_zero, List.set_cons_succ]
        refine wpAnyH_take (i := 30) (v := ?_) (by simp only [List.getElem?_toArray, List.getElem?_cons_zero, List.getElem?_cons_succ]; rfl) (by kernel_rfl) (by kernel_rfl) (by kernel_rfl) (by intro _ _ _ h; exact h) (Or.inl ⟨by rfl, ?_⟩) (by assumption) ?_
        rotate_left
        · (intro w9 hSw; (try dsimp only at hSw); go_simp <;> with_reducible rfl)
        try simp only [Act.put, List.setIfInBounds_toArray, List.set_cons_zero, List.set_cons_succ]
        refine wpAnyH_take (i := 31) (v := ?_) (by simp only [List.getElem?_toArray, List.getElem?_cons_zero, List.getElem?_cons_succ]; rfl) (by kernel_rfl) (by kernel_rfl) (by kernel_rfl) (by intro _ _ _ h; exact h) (Or.inl ⟨by rfl, ?_⟩) (by assumption) ?_
        rotate_left
        · (intro w9 hSw; (try dsimp only at hSw); go_simp <;> with_reducible rfl)
        try simp only [Act.put, List.setIfInBounds_toArray, List.set_cons_zero, List.set_cons_succ]
        refine wpAnyH_take (i := 32) (v := ?_) (by simp only [List.getElem?_toArray, List.getElem?_cons_zero, List.getElem?_cons_succ]; rfl) (by kernel_rfl) (by kernel_rfl) (by kernel_rfl) (by intro _ _ _ h; exact h) (Or.inl ⟨by rfl, ?_⟩) (by assumption) ?_
        rotate_left
        · (intro w9 hSw; (try dsimp only at hSw); obtain ⟨q0, q1⟩ := hSw; have g0x0 : w9.cell? ⟨w1.heap.size, 0, none⟩ = some (.int .i64 ky) := (by simp [World.cell?, q0, go_sem]); have g0x1 : w9.cell? ⟨w1.heap.size, 1, none⟩ = some (.int .i64 st) := (by simp [World.cell?, q0, go_sem]); have g0x2 : w9.cell? ⟨w1.heap.size, 2, none⟩ = some (.int .i64 en) := (by simp [World.cell?, q0, go_sem]); have g0x3 : w9.cell? ⟨w1.heap.size, 3, none⟩ = some (.int .i64 no) := (by simp [World.cell?, q0, go_sem]); have g0x4 : w9.cell? ⟨w1.heap.size, 4, none⟩ = some (.int .i64 kd) := (by simp [World.cell?, q0, go_sem]); have g0x5 : w9.cell? ⟨w1.heap.size, 5, none⟩ = some (.int .i64 n) := (by simp [World.cell?, q0, go_sem]); have g0x6 : w9.cell? ⟨w1.heap.size, 6, none⟩ = some (.int .i64 s) := (by simp [World.cell?, q0, go_sem]); have g0x7 : w9.cell? ⟨w1.heap.size, 7, none⟩ = some (.int .i64 l) := (by simp [World.cell?, q0, go_sem]); have g0x8 : w9.cell? ⟨w1.heap.size, 8, none⟩ = some (.int .i64 m) := (by simp [World.cell?, q0, go_sem]); go_simp <;> with_reducible rfl)
        try simp only [Act.put, List.setIfInBounds_toArray, List.set_cons_zero, List.set_cons_succ]
        refine wpAnyH_take (i := 33) (v := ?_) (by simp only [List.getElem?_toArray, List.getElem?_cons_zero, List.getElem?_cons_succ]; rfl) (by kernel_rfl) (by kernel_rfl) (by kernel_rfl) (by intro _ _ _ h; exact h) (Or.inl ⟨by rfl, ?_⟩) (by assumption) ?_
        rotate_left
        · (intro w9 hSw; (try dsimp only at hSw); go_simp <;> with_reducible rfl)
        try simp only [Act.put, List.setIfInBounds_toArray, List.set_cons_zero, List.set_cons_succ]
        refine wpAnyH_take (i := 35) (v := ?_) (by simp only [List.getElem?_toArray, List.getElem?_cons_zero, List.getElem?_cons_succ]; rfl) (by kernel_rfl) (by kernel_rfl) (by kernel_rfl) (by intro _ _ _ h; exact h) (Or.inl ⟨by rfl, ?_⟩) (by assumption) ?_
        rotate_left
        · (intro w9 hSw; (try dsimp only at hSw); go_simp <;> with_reducible rfl)
        try simp only [Act.put, List.setIfInBounds_toArray, List.set_cons_zero, List.set_cons_succ]
        refine wpAnyH_take (i := 36) (v := ?_) (by simp only [List.getElem?_toArray, List.getElem?_cons_zero, List.getElem?_cons_succ]; rfl) (by kernel_rfl) (by kernel_rfl) (by kernel_rfl) (by intro _ _ _ h; exact h) (Or.inl ⟨by rfl, ?_⟩) (by assumption) ?_
        rotate_left
        · (intro w9 hSw; (try dsimp only at hSw); obtain ⟨q0, q1⟩ := hSw; have g1x0 : w9.cell? ⟨w2.heap.size, 0, none⟩ = some (.int .i64 ky) := (by simp [World.cell?, q1, go_sem]); have g1x1 : w9.cell? ⟨w2.heap.size, 1, none⟩ = some (.int .i64 st) := (by simp [World.cell?, q1, go_sem]); have g1x2 : w9.cell? ⟨w2.heap.size, 2, none⟩ = some (.int .i64 en) := (by simp [World.cell?, q1, go_sem]); have g1x3 : w9.cell? ⟨w2.heap.size, 3, none⟩ = some (.int .i64 no) := (by simp [World.cell?, q1, go_sem]); have g1x4 : w9.cell? ⟨w2.heap.size, 4, none⟩ = some (.int .i64 kd) := (by simp [World.cell?, q1, go_sem]); have g1x5 : w9.cell? ⟨w2.heap.size, 5, none⟩ = some (.int .i64 nq) := (by simp [World.cell?, q1, go_sem]); have g1x6 : w9.cell? ⟨w2.heap.size, 6, none⟩ = some (.int .i64 sq) := (by simp [World.cell?, q1, go_sem]); have g1x7 : w9.cell? ⟨w2.heap.size, 7, none⟩ = some (.int .i64 lq) := (by simp [World.cell?, q1, go_sem]); have g1x8 : w9.cell? ⟨w2.heap.size, 8, none⟩ = some (.int .i64 mq) := (by simp [World.cell?, q1, go_sem]); go_simp <;> with_reducible rfl)
        try simp only [Act.put, List.setIfInBounds_toArray, List.set_cons_zero, List.set_cons_succ]
        refine wpAnyH_take (i := 37) (v := ?_) (by simp only [List.getElem?_toArray, List.getElem?_cons_zero, List.getElem?_cons_succ]; rfl) (by kernel_rfl) (by kernel_rfl) (by kernel_rfl) (by intro _ _ _ h; exact h) (Or.inl ⟨by rfl, ?_⟩) (by assumption) ?_
        rotate_left
        · (intro w9 hSw; (try dsimp only at hSw); go_simp <;> with_reducible rfl)
        try simp only [Act.put, List.setIfInBounds_toArray, List.set_cons_zero, List.set_cons_succ]
        refine wpAnyH_ready (rs := [34]) (by kernel_rfl) (by simp) ?_
        refine AllReadyH.cons (by simp only [List.getElem?_toArray, List.getElem?_cons_zero, List.getElem?_cons_succ]; rfl) (fun K hK => ?_) AllReadyH.nil
        go_simp
        (go_at_call 26; refine (impltl_eq _ HV).mono ?_; rintro e9 u1 ⟨rfl, hbu1⟩)
        (try go_wp2_with fail)
        have zu1 := hbu1.size
        (try simp at zu1)
        have hP := (hbu1.block (w1.heap.size) (by first | omega | (simp; done) | (simp; omega))).trans hP
        have hQ := (hbu1.block (w2.heap.size) (by first | omega | (simp; done) | (simp; omega))).trans hQ
        refine hK.out _ _ ?_ (fun hHeld2 => ?_)
        · (try dsimp only); exact ⟨hP, hQ⟩
        clear hK K hHeld
        have hHeld := hHeld2
        clear hHeld2
        try simp only [Act.put, List.setIfInBounds_toArray, List.set_cons_zero, List.set_cons_succ]
        refine wpAnyH_ready (rs := [38]) (by kernel_rfl) (by simp) ?_
        refine AllReadyH.cons (by simp only [List.getElem?_toArray, List.getElem?_cons_zero, List.getElem?_cons_succ]; rfl) (fun K hK => ?_) AllReadyH.nil
        go_simp
        (go_at_call 26; refine (impltl_eq _ HW).mono ?_; rintro e9 u2 ⟨rfl, hbu2⟩)
        (try go_wp2_with fail)
        have zu2 := hbu2.size
        (try simp at zu2)
        have hP := (hbu2.block (w1.heap.size) (by first | omega | (simp; done) | (simp; omega))).trans hP
        have hQ := (hbu2.block (w2.heap.size) (by first | omega | (simp; done) | (simp; omega))).trans hQ
        refine hK.out _ _ ?_ (fun hHeld2 => ?_)
        · (try dsimp only); exact ⟨hP, hQ⟩
        clear hK K hHeld
        have hHeld := hHeld2
        clear hHeld2
        try simp only [Act.put, List.setIfInBounds_toArray, List.set_cons_zero, List.set_cons_succ]
        refine wpAnyH_take (i := 39) (v := ?_) (by simp only [List.getElem?_toArray, List.getElem?_cons_zero, List.getElem?_cons_succ]; rfl) (by kernel_rfl) (by kernel_rfl) (by kernel_rfl) (by intro _ _ _ h; exact h) (Or.inl ⟨by rfl, ?_⟩) (by assumption) ?_
        rotate_left
        · (intro w9 hSw; (try dsimp only at hSw); go_simp <;> with_reducible rfl)
        try simp only [Act.put, List.setIfInBounds_toArray, List.set_cons_zero, List.set_cons_succ]
        refine wpAnyH_take (i := 40) (v := ?_) (by simp only [List.getElem?_toArray, List.getElem?_cons_zero, List.getElem?_cons_succ]; rfl) (by kernel_rfl) (by kernel_rfl) (by kernel_rfl) (by intro _ _ _ h; exact h) (Or.inl ⟨by rfl, ?_⟩) (by assumption) ?_
        rotate_left
        · (intro w9 hSw; (try dsimp only at hSw); go_simp <;> with_reducible rfl)
        try simp only [Act.put, List.setIfInBounds_toArray, List.set_cons_zero, List.set_cons_succ]
        refine wpAnyH_take (i := 41) (v := ?_) (by simp only [List.getElem?_toArray, List.getElem?_cons_zero, List.getElem?_cons_succ]; rfl) (by kernel_rfl) (by kernel_rfl) (by kernel_rfl) (by intro _ _ _ h; exact h) (Or.inl ⟨by rfl, ?_⟩) (by assumption) ?_
        rotate_left
        · (intro w9 hSw; (try dsimp only at hSw); go_simp <;> with_reducible rfl)
        try simp only [Act.put, List.setIfInBounds_toArray, List.set_cons_zero, List.set_cons_succ]
        refine wpAnyH_take (i := 42) (v := ?_) (by simp only [List.getElem?_toArray, List.getElem?_cons_zero, List.getElem?_cons_succ]; rfl) (by kernel_rfl) (by kernel_rfl) (by kernel_rfl) (by intro _ _ _ h; exact h) (Or.inl ⟨by rfl, ?_⟩) (by assumption) ?_
        rotate_left
        · (intro w9 hSw; (try dsimp only at hSw); go_simp <;> with_reducible rfl)
        try simp only [Act.put, List.setIfInBounds_toArray, List.set_cons_zero, List.set_cons_succ]
        refine wpAnyH_done (by kernel_rfl) ?_ _
        have hbF : Below w.heap.size w u2 := bel_trans (bel_trans (bel_drew hbE) hbu1) hbu2
        go_wp2
        go_ret
        exact ⟨by first | rfl | (simp; done), hbF⟩
      · have n3 : (ST.toList == TT.toList) = false := by
          rw [Go.ByteArray.toList_eq, Go.ByteArray.toList_eq, beq_eq_false_iff_ne]
          exact fun e => hEq (ByteArray.ext (Array.toList_inj.1 e))
        clear hik HS HT HO
        go_wp2_with fail
        refine wp_region_held_drew (S := (fun W => W.heap[w1.heap.size]? = some (.cells #[.int .i64 ky, .int .i64 st, .int .i64 en, .int .i64 no, .int .i64 kd, .int .i64 n, .int .i64 s, .int .i64 l, .int .i64 m] 45 (0, 0)) ∧ W.heap[w2.heap.size]? = some (.cells #[.int .i64 kyq, .int .i64 stq, .int .i64 enq, .int .i64 noq, .int .i64 kdq, .int .i64 nq, .int .i64 sq, .int .i64 lq, .int .i64 mq] 45 (0, 0)))) (by kernel_rfl) ?_ (fun hHeld => ?_)
        · (try dsimp only); exact ⟨hP, hQ⟩
        refine wpAnyH_take (i := 0) (v := ?_) (by simp only [List.getElem?_toArray, List.getElem?_cons_zero, List.getElem?_cons_succ]; rfl) (by kernel_rfl) (by kernel_rfl) (by kernel_rfl) (by intro _ _ _ h; exact h) (Or.inl ⟨by rfl, ?_⟩) (by assumption) ?_
        rotate_left
        · (intro w9 hSw; (try dsimp only at hSw); go_simp <;> with_reducible rfl)
        try simp only [Act.put, List.setIfInBounds_toArray, List.set_cons_zero, List.set_cons_succ]
        refine wpAnyH_take (i := 1) (v := ?_) (by simp only [List.getElem?_toArray, List.getElem?_cons_zero, List.getElem?_cons_succ]; rfl) (by kernel_rfl) (by kernel_rfl) (by kernel_rfl) (by intro _ _ _ h; exact h) (Or.inl ⟨by rfl, ?_⟩) (by assumption) ?_
        rotate_left
        · (intro w9 hSw; (try dsimp only at hSw); go_simp <;> with_reducible rfl)
        try simp only [Act.put, List.setIfInBounds_toArray, List.set_cons_zero, List.set_cons_succ]
        refine wpAnyH_take (i := 2) (v := ?_) (by simp only [List.getElem?_toArray, List.getElem?_cons_zero, List.getElem?_cons_succ]; rfl) (by kernel_rfl) (by kernel_rfl) (by kernel_rfl) (by intro _ _ _ h; exact h) (Or.inl ⟨by rfl, ?_⟩) (by assumption) ?_
        rotate_left
        · (intro w9 hSw; (try dsimp only at hSw); go_simp <;> with_reducible rfl)
        try simp only [Act.put, List.setIfInBounds_toArray, List.set_cons_zero, List.set_cons_succ]
        refine wpAnyH_take (i := 3) (v := ?_) (by simp only [List.getElem?_toArray, List.getElem?_cons_zero, List.getElem?_cons_succ]; rfl) (by kernel_rfl) (by kernel_rfl) (by kernel_rfl) (by intro _ _ _ h; exact h) (Or.inl ⟨by rfl, ?_⟩) (by assumption) ?_
        rotate_left
        · (intro w9 hSw; (try dsimp only at hSw); go_simp <;> with_reducible rfl)
        try simp only [Act.put, List.setIfInBounds_toArray, List.set_cons_zero, List.set_cons_succ]
        refine wpAnyH_take (i := 4) (v := undef) (by simp only [List.getElem?_toArray, List.getElem?_cons_zero, List.getElem?_cons_succ]; rfl) (by kernel_rfl) (by kernel_rfl) (by kernel_rfl) (by intro _ _ _ h; exact h) (Or.inr ⟨by rfl, rfl⟩) (by assumption) ?_
        try simp only [Act.put, List.setIfInBounds_toArray, List.set_cons_zero, List.set_cons_succ]
        refine wpAnyH_take (i := 5) (v := undef) (by simp only [List.getElem?_toArray, List.getElem?_cons_zero, List.getElem?_cons_succ]; rfl) (by kernel_rfl) (by kernel_rfl) (by kernel_rfl) (by intro _ _ _ h; exact h) (Or.inr ⟨by rfl, rfl⟩) (by assumption) ?_
        try simp only [Act.put, List.setIfInBounds_toArray, List.set_cons_zero, List.set_cons_succ]
        refine wpAnyH_take (i := 6) (v := undef) (by simp only [List.getElem?_toArray, List.getElem?_cons_zero, List.getElem?_cons_succ]; rfl) (by kernel_rfl) (by kernel_rfl) (by kernel_rfl) (by intro _ _ _ h; exact h) (Or.inr ⟨by rfl, rfl⟩) (by assumption) ?_
        try simp only [Act.put, List.setIfInBounds_toArray, List.set_cons_zero, List.set_cons_succ]
        refine wpAnyH_take (i := 7) (v := undef) (by simp only [List.getElem?_toArray, List.getElem?_cons_zero, List.getElem?_cons_succ]; rfl) (by kernel_rfl) (by kernel_rfl) (by kernel_rfl) (by intro _ _ _ h; exact h) (Or.inr ⟨by rfl, rfl⟩) (by assumption) ?_
        try simp only [Act.put, List.setIfInBounds_toArray, List.set_cons_zero, List.set_cons_succ]
        refine wpAnyH_take (i := 8) (v := undef) (by simp only [List.getElem?_toArray, List.getElem?_cons_zero, List.getElem?_cons_succ]; rfl) (by kernel_rfl) (by kernel_rfl) (by kernel_rfl) (by intro _ _ _ h; exact h) (Or.inr ⟨by rfl, rfl⟩) (by assumption) ?_
        try simp only [Act.put, List.setIfInBounds_toArray, List.set_cons_zero, List.set_cons_succ]
        refine wpAnyH_take (i := 9) (v := undef) (by simp only [List.getElem?_toArray, List.getElem?_cons_zero, List.getElem?_cons_succ]; rfl) (by kernel_rfl) (by kernel_rfl) (by kernel_rfl) (by intro _ _ _ h; exact h) (Or.inr ⟨by rfl, rfl⟩) (by assumption) ?_
        try simp only [Act.put, List.setIfInBounds_toArray, List.set_cons_zero, List.set_cons_succ]
        refine wpAnyH_take (i := 10) (v := undef) (by simp only [List.getElem?_toArray, List.getElem?_cons_zero, List.getElem?_cons_succ]; rfl) (by kernel_rfl) (by kernel_rfl) (by kernel_rfl) (by intro _ _ _ h; exact h) (Or.inr ⟨by rfl, rfl⟩) (by assumption) ?_
        try simp only [Act.put, List.setIfInBounds_toArray, List.set_cons_zero, List.set_cons_succ]
        refine wpAnyH_take (i := 11) (v := undef) (by simp only [List.getElem?_toArray, List.getElem?_cons_zero, List.getElem?_cons_succ]; rfl) (by kernel_rfl) (by kernel_rfl) (by kernel_rfl) (by intro _ _ _ h; exact h) (Or.inr ⟨by rfl, rfl⟩) (by assumption) ?_
        try simp only [Act.put, List.setIfInBounds_toArray, List.set_cons_zero, List.set_cons_succ]
        refine wpAnyH_take (i := 12) (v := undef) (by simp only [List.getElem?_toArray, List.getElem?_cons_zero, List.getElem?_cons_succ]; rfl) (by kernel_rfl) (by kernel_rfl) (by kernel_rfl) (by intro _ _ _ h; exact h) (Or.inr ⟨by rfl, rfl⟩) (by assumption) ?_
        try simp only [Act.put, List.setIfInBounds_toArray, List.set_cons_zero, List.set_cons_succ]
        refine wpAnyH_take (i := 13) (v := undef) (by simp only [List.getElem?_toArray, List.getElem?_cons_zero, List.getElem?_cons_succ]; rfl) (by kernel_rfl) (by kernel_rfl) (by kernel_rfl) (by intro _ _ _ h; exact h) (Or.inr ⟨by rfl, rfl⟩) (by assumption) ?_
        try simp only [Act.put, List.setIfInBounds_toArray, List.set_cons_zero, List.set_cons_succ]
        refine wpAnyH_take (i := 14) (v := undef) (by simp only [List.getElem?_toArray, List.getElem?_cons_zero, List.getElem?_cons_succ]; rfl) (by kernel_rfl) (by kernel_rfl) (by kernel_rfl) (by intro _ _ _ h; exact h) (Or.inr ⟨by rfl, rfl⟩) (by assumption) ?_
        try simp only [Act.put, List.setIfInBounds_toArray, List.set_cons_zero, List.set_cons_succ]
        refine wpAnyH_take (i := 15) (v := undef) (by simp only [List.getElem?_toArray, List.getElem?_cons_zero, List.getElem?_cons_succ]; rfl) (by kernel_rfl) (by kernel_rfl) (by kernel_rfl) (by intro _ _ _ h; exact h) (Or.inr ⟨by rfl, rfl⟩) (by assumption) ?_
        try simp only [Act.put, List.setIfInBounds_toArray, List.set_cons_zero, List.set_cons_succ]
        refine wpAnyH_take (i := 16) (v := undef) (by simp only [List.getElem?_toArray, List.getElem?_cons_zero, List.getElem?_cons_succ]; rfl) (by kernel_rfl) (by kernel_rfl) (by kernel_rfl) (by intro _ _ _ h; exact h) (Or.inr ⟨by rfl, rfl⟩) (by assumption) ?_
        try simp only [Act.put, List.setIfInBounds_toArray, List.set_cons_zero, List.set_cons_succ]
        refine wpAnyH_take (i := 17) (v := undef) (by simp only [List.getElem?_toArray, List.getElem?_cons_zero, List.getElem?_cons_succ]; rfl) (by kernel_rfl) (by kernel_rfl) (by kernel_rfl) (by intro _ _ _ h; exact h) (Or.inr ⟨by rfl, rfl⟩) (by assumption) ?_
        try simp only [Act.put, List.setIfInBounds_toArray, List.set_cons_zero, List.set_cons_succ]
        refine wpAnyH_take (i := 18) (v := undef) (by simp only [List.getElem?_toArray, List.getElem?_cons_zero, List.getElem?_cons_succ]; rfl) (by kernel_rfl) (by kernel_rfl) (by kernel_rfl) (by intro _ _ _ h; exact h) (Or.inr ⟨by rfl, rfl⟩) (by assumption) ?_
        try simp only [Act.put, List.setIfInBounds_toArray, List.set_cons_zero, List.set_cons_succ]
        refine wpAnyH_take (i := 19) (v := undef) (by simp only [List.getElem?_toArray, List.getElem?_cons_zero, List.getElem?_cons_succ]; rfl) (by kernel_rfl) (by kernel_rfl) (by kernel_rfl) (by intro _ _ _ h; exact h) (Or.inr ⟨by rfl, rfl⟩) (by assumption) ?_
        try simp only [Act.put, List.setIfInBounds_toArray, List.set_cons_zero, List.set_cons_succ]
        refine wpAnyH_take (i := 20) (v := undef) (by simp only [List.getElem?_toArray, List.getElem?_cons_zero, List.getElem?_cons_succ]; rfl) (by kernel_rfl) (by kernel_rfl) (by kernel_rfl) (by intro _ _ _ h; exact h) (Or.inr ⟨by rfl, rfl⟩) (by assumption) ?_
        try simp only [Act.put, List.setIfInBounds_toArray, List.set_cons_zero, List.set_cons_succ]
        refine wpAnyH_take (i := 21) (v := undef) (by simp only [List.getElem?_toArray, List.getElem?_cons_zero, List.getElem?_cons_succ]; rfl) (by kernel_rfl) (by kernel_rfl) (by kernel_rfl) (by intro _ _ _ h; exact h) (Or.inr ⟨by rfl, rfl⟩) (by assumption) ?_
        try simp only [Act.put, List.setIfInBounds_toArray, List.set_cons_zero, List.set_cons_succ]
        refine wpAnyH_take (i := 22) (v := undef) (by simp only [List.getElem?_toArray, List.getElem?_cons_zero, List.getElem?_cons_succ]; rfl) (by kernel_rfl) (by kernel_rfl) (by kernel_rfl) (by intro _ _ _ h; exact h) (Or.inr ⟨by rfl, rfl⟩) (by assumption) ?_
        try simp only [Act.put, List.setIfInBounds_toArray, List.set_cons_zero, List.set_cons_succ]
        refine wpAnyH_take (i := 23) (v := undef) (by simp only [List.getElem?_toArray, List.getElem?_cons_zero, List.getElem?_cons_succ]; rfl) (by kernel_rfl) (by kernel_rfl) (by kernel_rfl) (by intro _ _ _ h; exact h) (Or.inr ⟨by rfl, rfl⟩) (by assumption) ?_
        try simp only [Act.put, List.setIfInBounds_toArray, List.set_cons_zero, List.set_cons_succ]
        refine wpAnyH_take (i := 24) (v := undef) (by simp only [List.getElem?_toArray, List.getElem?_cons_zero, List.getElem?_cons_succ]; rfl) (by kernel_rfl) (by kernel_rfl) (by kernel_rfl) (by intro _ _ _ h; exact h) (Or.inr ⟨by rfl, rfl⟩) (by assumption) ?_
        try simp only [Act.put, List.setIfInBounds_toArray, List.set_cons_zero, List.set_cons_succ]
        refine wpAnyH_take (i := 25) (v := undef) (by simp only [List.getElem?_toArray, List.getElem?_cons_zero, List.getElem?_cons_succ]; rfl) (by kernel_rfl) (by kernel_rfl) (by kernel_rfl) (by intro _ _ _ h; exact h) (Or.inr ⟨by rfl, rfl⟩) (by assumption) ?_
        try simp only [Act.put, List.setIfInBounds_toArray, List.set_cons_zero, List.set_cons_succ]
        refine wpAnyH_take (i := 26) (v := undef) (by simp only [List.getElem?_toArray, List.getElem?_cons_zero, List.getElem?_cons_succ]; rfl) (by kernel_rfl) (by kernel_rfl) (by kernel_rfl) (by intro _ _ _ h; exact h) (Or.inr ⟨by rfl, rfl⟩) (by assumption) ?_
        try simp only [Act.put, List.setIfInBounds_toArray, List.set_cons_zero, List.set_cons_succ]
        refine wpAnyH_take (i := 27) (v := undef) (by simp only [List.getElem?_toArray, List.getElem?_cons_zero, List.getElem?_cons_succ]; rfl) (by kernel_rfl) (by kernel_rfl) (by kernel_rfl) (by intro _ _ _ h; exact h) (Or.inr ⟨by rfl, rfl⟩) (by assumption) ?_
        try simp only [Act.put, List.setIfInBounds_toArray, List.set_cons_zero, List.set_cons_succ]
        refine wpAnyH_take (i := 28) (v := undef) (by simp only [List.getElem?_toArray, List.getElem?_cons_zero, List.getElem?_cons_succ]; rfl) (by kernel_rfl) (by kernel_rfl) (by kernel_rfl) (by intro _ _ _ h; exact h) (Or.inr ⟨by rfl, rfl⟩) (by assumption) ?_
        try simp only [Act.put, List.setIfInBounds_toArray, List.set_cons_zero, List.set_cons_succ]
        refine wpAnyH_take (i := 29) (v := undef) (by simp only [List.getElem?_toArray, List.getElem?_cons_zero, List.getElem?_cons_succ]; rfl) (by kernel_rfl) (by kernel_rfl) (by kernel_rfl) (by intro _ _ _ h; exact h) (Or.inr ⟨by rfl, rfl⟩) (by assumption) ?_
        try simp only [Act.put, List.setIfInBounds_toArray, List.set_cons_zero, List.set_cons_succ]
        refine wpAnyH_take (i := 30) (v := undef) (by simp only [List.getElem?_toArray, List.getElem?_cons_zero, List.getElem?_cons_succ]; rfl) (by kernel_rfl) (by kernel_rfl) (by kernel_rfl) (by intro _ _ _ h; exact h) (Or.inr ⟨by rfl, rfl⟩) (by assumption) ?_
        try simp only [Act.put, List.setIfInBounds_toArray, List.set_cons_zero, List.set_cons_succ]
        refine wpAnyH_take (i := 31) (v := undef) (by simp only [List.getElem?_toArray, List.getElem?_cons_zero, List.getElem?_cons_succ]; rfl) (by kernel_rfl) (by kernel_rfl) (by kernel_rfl) (by intro _ _ _ h; exact h) (Or.inr ⟨by rfl, rfl⟩) (by assumption) ?_
        try simp only [Act.put, List.setIfInBounds_toArray, List.set_cons_zero, List.set_cons_succ]
        refine wpAnyH_take (i := 32) (v := undef) (by simp only [List.getElem?_toArray, List.getElem?_cons_zero, List.getElem?_cons_succ]; rfl) (by kernel_rfl) (by kernel_rfl) (by kernel_rfl) (by intro _ _ _ h; exact h) (Or.inr ⟨by rfl, rfl⟩) (by assumption) ?_
        try simp only [Act.put, List.setIfInBounds_toArray, List.set_cons_zero, List.set_cons_succ]
        refine wpAnyH_take (i := 33) (v := undef) (by simp only [List.getElem?_toArray, List.getElem?_cons_zero, List.getElem?_cons_succ]; rfl) (by kernel_rfl) (by kernel_rfl) (by kernel_rfl) (by intro _ _ _ h; exact h) (Or.inr ⟨by rfl, rfl⟩) (by assumption) ?_
        try simp only [Act.put, List.setIfInBounds_toArray, List.set_cons_zero, List.set_cons_succ]
        refine wpAnyH_take (i := 34) (v := undef) (by simp only [List.getElem?_toArray, List.getElem?_cons_zero, List.getElem?_cons_succ]; rfl) (by kernel_rfl) (by kernel_rfl) (by kernel_rfl) (by intro _ _ _ h; exact h) (Or.inr ⟨by rfl, rfl⟩) (by assumption) ?_
        try simp only [Act.put, List.setIfInBounds_toArray, List.set_cons_zero, List.set_cons_succ]
        refine wpAnyH_take (i := 35) (v := undef) (by simp only [List.getElem?_toArray, List.getElem?_cons_zero, List.getElem?_cons_succ]; rfl) (by kernel_rfl) (by kernel_rfl) (by kernel_rfl) (by intro _ _ _ h; exact h) (Or.inr ⟨by rfl, rfl⟩) (by assumption) ?_
        try simp only [Act.put, List.setIfInBounds_toArray, List.set_cons_zero, List.set_cons_succ]
        refine wpAnyH_take (i := 36) (v := undef) (by simp only [List.getElem?_toArray, List.getElem?_cons_zero, List.getElem?_cons_succ]; rfl) (by kernel_rfl) (by kernel_rfl) (by kernel_rfl) (by intro _ _ _ h; exact h) (Or.inr ⟨by rfl, rfl⟩) (by assumption) ?_
        try simp only [Act.put, List.setIfInBounds_toArray, List.set_cons_zero, List.set_cons_succ]
        refine wpAnyH_take (i := 37) (v := undef) (by simp only [List.getElem?_toArray, List.getElem?_cons_zero, List.getElem?_cons_succ]; rfl) (by kernel_rfl) (by kernel_rfl) (by kernel_rfl) (by intro _ _ _ h; exact h) (Or.inr ⟨by rfl, rfl⟩) (by assumption) ?_
        try simp only [Act.put, List.setIfInBounds_toArray, List.set_cons_zero, List.set_cons_succ]
        refine wpAnyH_take (i := 38) (v := undef) (by simp only [List.getElem?_toArray, List.getElem?_cons_zero, List.getElem?_cons_succ]; rfl) (by kernel_rfl) (by kernel_rfl) (by kernel_rfl) (by intro _ _ _ h; exact h) (Or.inr ⟨by rfl, rfl⟩) (by assumption) ?_
        try simp only [Act.put, List.setIfInBounds_toArray, List.set_cons_zero, List.set_cons_succ]
        refine wpAnyH_take (i := 39) (v := undef) (by simp only [List.getElem?_toArray, List.getElem?_cons_zero, List.getElem?_cons_succ]; rfl) (by kernel_rfl) (by kernel_rfl) (by kernel_rfl) (by intro _ _ _ h; exact h) (Or.inr ⟨by rfl, rfl⟩) (by assumption) ?_
        try simp only [Act.put, List.setIfInBounds_toArray, List.set_cons_zero, List.set_cons_succ]
        refine wpAnyH_take (i := 40) (v := undef) (by simp only [List.getElem?_toArray, List.getElem?_cons_zero, List.getElem?_cons_succ]; rfl) (by kernel_rfl) (by kernel_rfl) (by kernel_rfl) (by intro _ _ _ h; exact h) (Or.inr ⟨by rfl, rfl⟩) (by assumption) ?_
        try simp only [Act.put, List.setIfInBounds_toArray, List.set_cons_zero, List.set_cons_succ]
        refine wpAnyH_take (i := 41) (v := ?_) (by simp only [List.getElem?_toArray, List.getElem?_cons_zero, List.getElem?_cons_succ]; rfl) (by kernel_rfl) (by kernel_rfl) (by kernel_rfl) (by intro _ _ _ h; exact h) (Or.inl ⟨by rfl, ?_⟩) (by assumption) ?_
        rotate_left
        · (intro w9 hSw; (try dsimp only at hSw); go_simp <;> with_reducible rfl)
        try simp only [Act.put, List.setIfInBounds_toArray, List.set_cons_zero, List.set_cons_succ]
        refine wpAnyH_take (i := 42) (v := ?_) (by simp only [List.getElem?_toArray, List.getElem?_cons_zero, List.getElem?_cons_succ]; rfl) (by kernel_rfl) (by kernel_rfl) (by kernel_rfl) (by intro _ _ _ h; exact h) (Or.inl ⟨by rfl, ?_⟩) (by assumption) ?_
        rotate_left
        · (intro w9 hSw; (try dsimp only at hSw); go_simp <;> with_reducible rfl)
        try simp only [Act.put, List.setIfInBounds_toArray, List.set_cons_zero, List.set_cons_succ]
        refine wpAnyH_done (by kernel_rfl) ?_ _
        go_wp2
        go_ret
        exact ⟨by first | rfl | (simp; done), bel_drew hbE⟩
end Go.Proofs.YtkadmigecojpoaaDoor
