/- Laid together: what the claim needs of the texts that were built one by one. -/
import Derived.Test.YtabphkmhafflbaaPkCkpNA
import Derived.BigQuiet
import Derived.Deep.RegionHeld3
import Derived.Lib.SmallJoins
import Derived.RangeFuncRecord
import Derived.Test.YtabphkmhafflbaaPkBase
namespace Go.Proofs.Ytabphkmhafflbaa
open Go.ChangeShapes Go.WideShapes Go.ChangeAt Go.RowKit
set_option linter.unusedVariables false
set_option linter.unusedSimpArgs false

def DrawCN (w : World) (e' : Ending) (w' : World) : Prop := ∃ (s t k z p l e : Int) (b : Bool) (v r : Int), e' = .returned (.agg #[.int .i64 s, .int .i64 t, .int .i64 k, .int .i64 z, .int .i64 p, .int .i64 l, .int .i64 e, .bool b, .int .i64 v, .int .i64 r]) ∧ Below w.heap.size w w'

set_option maxRecDepth 20000 in
set_option maxHeartbeats 4000000 in
theorem drawckpnew_any (a : Option Addr) (len cap : Nat) (w : World) (hlc : len ≤ cap) (hm : len ≤ 1048576) (hb : BytesAt w a len) (hl : ∀ g o, a = some ⟨g, o, none⟩ → 0 < len → g < w.heap.size) (hn : a = none → cap = 0) : Calls Try.prog 4 #[.slice a len cap] w fun e w' => DrawCN w e w' := by
  have hbA : Below w.heap.size w (w.alloc (.cells #[.int .i64 0, .int .i64 0, .int .i64 0, .int .i64 0, .int .i64 0, .int .i64 0, .int .i64 0, .bool false, .int .i64 0, .int .i64 0] 24)) := bel_one _ _
  have hX0 : (w.alloc (.cells #[.int .i64 0, .int .i64 0, .int .i64 0, .int .i64 0, .int .i64 0, .int .i64 0, .int .i64 0, .bool false, .int .i64 0, .int .i64 0] 24)).heap[w.heap.size]? = some (.cells #[.int .i64 0, .int .i64 0, .int .i64 0, .int .i64 0, .int .i64 0, .int .i64 0, .int .i64 0, .bool false, .int .i64 0, .int .i64 0] 24 (0, 0)) := World.alloc_heap_new w _
  go_enter Try.func4, Try.ntmps4
  go_wp2_with fail
  refine (open_any a len cap _ hlc hm (hb.bel hl hbA) (fun g o h1 h2 => Nat.lt_of_lt_of_le (hl g o h1 h2) hbA.size) hn).mono ?_
  rintro e' w1 ⟨R, ln, cp, rfl, hR1, hR2, hb1, hrd⟩
  have hX1 := (hb1.block w.heap.size (by simp)).trans hX0
  have hRw : w.heap.size < R := by simp at hR1; omega
  clear hb hl hn hX0 hR1
  go_wp2_with fail
  refine (anyjob_any R a ln cp 0 6 _ (by decide) (by decide) (by omega) hR2 hrd).mono ?_
  rintro e' w2 ⟨s, t, k, z, p, l, e, b, v, r, rfl, k2, p2, hp2, rd2⟩
  have hX2 := (k2.all w.heap.size (by have := hb1.size; simp at this; omega) (by omega)).trans hX1
  clear hrd hX1 rd2
  have hbF : Below w.heap.size w w2 := hbA.trans ((hb1.mono (by simp)).trans (k2.low.mono (Nat.le_of_lt hRw)))
  have r0 : w2.cell? ⟨w.heap.size, 0, none⟩ = some (.int .i64 0) := by simp [World.cell?, hX2, go_sem]
  have r1 : w2.cell? ⟨w.heap.size, 1, none⟩ = some (.int .i64 0) := by simp [World.cell?, hX2, go_sem]
  have r2 : w2.cell? ⟨w.heap.size, 2, none⟩ = some (.int .i64 0) := by simp [World.cell?, hX2, go_sem]
  have r3 : w2.cell? ⟨w.heap.size, 3, none⟩ = some (.int .i64 0) := by simp [World.cell?, hX2, go_sem]
  have r4 : w2.cell? ⟨w.heap.size, 4, none⟩ = some (.int .i64 0) := by simp [World.cell?, hX2, go_sem]
  have r5 : w2.cell? ⟨w.heap.size, 5, none⟩ = some (.int .i64 0) := by simp [World.cell?, hX2, go_sem]
  have r6 : w2.cell? ⟨w.heap.size, 6, none⟩ = some (.int .i64 0) := by simp [World.cell?, hX2, go_sem]
  have r7 : w2.cell? ⟨w.heap.size, 7, none⟩ = some (.bool false) := by simp [World.cell?, hX2, go_sem]
  have r8 : w2.cell? ⟨w.heap.size, 8, none⟩ = some (.int .i64 0) := by simp [World.cell?, hX2, go_sem]
  have r9 : w2.cell? ⟨w.heap.size, 9, none⟩ = some (.int .i64 0) := by simp [World.cell?, hX2, go_sem]
  have hF0 : ∀ o, w2.frozen? ⟨w.heap.size, o, none⟩ = false := by intro o; simp [World.frozen?, hX2, go_sem]
  have g0 := hF0 0
  have g1 := hF0 1
  have g2 := hF0 2
  have g3 := hF0 3
  have g4 := hF0 4
  have g5 := hF0 5
  have g6 := hF0 6
  have g7 := hF0 7
  have g8 := hF0 8
  have g9 := hF0 9
  clear hF0 hX2
  go_wp2
  refine bodyPost_ret (v := .agg #[.int .i64 s, .int .i64 t, .int .i64 k, .int .i64 z, .int .i64 p, .int .i64 l, .int .i64 e, .bool b, .int .i64 v, .int .i64 r]) (by simp (maxDischargeDepth := 9) [results, Try.results4, go_sem, *]) rfl ⟨s, t, k, z, p, l, e, b, v, r, rfl, ?_⟩
  repeat (first | (with_reducible exact hbF) | (with_reducible refine bel_set ?_ (by simp) _))

set_option maxRecDepth 20000 in
set_option maxHeartbeats 8000000 in
theorem lawCkpNewP (a : Option Addr) (len cap : Nat) (w : World) (hlc : len ≤ cap) (hm : len ≤ maxLen) (hb : BytesAt w a len) (hl : ∀ g o, a = some ⟨g, o, none⟩ → 0 < len → g < w.heap.size) (hn : a = none → cap = 0) : Calls Try.prog 3 #[.slice a len cap] w fun e w' => e = .returned (.bool true) ∧ Below w.heap.size w w' := by
  unfold maxLen at hm
  by_cases hlen : (len : Int) ≤ 1048576
  rotate_left
  · go_enter Try.func3, Try.ntmps3
    go_wp2
    go_ret
    exact ⟨rfl, Below.refl _ _⟩
  have hd := hide (drawckpnew_any a len cap w hlc (by omega) hb hl hn)
  clear hb hl hn
  go_enter Try.func3, Try.ntmps3
  go_wp2_with fail
  refine (unhide hd).mono ?_
  rintro e' w1 ⟨s, t, k, z, p, l, e, b, v, r, rfl, hb1⟩
  clear hd
  obtain ⟨src, tsk, sn, at_, ssn, hD, hN1, hN2, hL, hK⟩ := ckOf_is s t k z p l e v r
  have HD := hide hD
  have HN := hide (And.intro hN1 hN2)
  have HL := hide hL
  have HK := hide hK
  clear hD hN1 hN2 hL hK
  go_wp2_with fail
  refine (implnewc_is s t k z p l e b v r src tsk sn at_ ssn _ HD).mono ?_
  rintro e' w2 ⟨a2, c2, a3, c3, a4, c4, a6, c6, a7, c7, rfl, hM, hb2⟩
  have HC := hide hM
  clear hM
  have bJ0 : w2.heap[w1.heap.size]? = some (.cells #[.int .i64 s, .int .i64 t, .int .i64 k, .int .i64 z, .int .i64 p, .int .i64 l, .int .i64 e, .bool b, .int .i64 v, .int .i64 r] 24 (0, 0)) := (hb2.block w1.heap.size (by simp)).trans (World.alloc_heap_new w1 _)
  have zJ : w1.heap.size < w2.heap.size := by have := hb2.size; simp at this; omega
  have bJ : (w2.alloc (.cells #[.int .i64 0, .bool false, .slice a2 src.length c2, .slice a3 tsk.length c3, .slice a4 sn.length c4, .int .i64 0, .slice a6 at_.length c6, .slice a7 ssn.length c7] 32)).drew.heap[w1.heap.size]? = some (.cells #[.int .i64 s, .int .i64 t, .int .i64 k, .int .i64 z, .int .i64 p, .int .i64 l, .int .i64 e, .bool b, .int .i64 v, .int .i64 r] 24 (0, 0)) := (Below.heap_alloc w2 _ _ zJ).trans bJ0
  have bC : (w2.alloc (.cells #[.int .i64 0, .bool false, .slice a2 src.length c2, .slice a3 tsk.length c3, .slice a4 sn.length c4, .int .i64 0, .slice a6 at_.length c6, .slice a7 ssn.length c7] 32)).drew.heap[w2.heap.size]? = some (.cells #[.int .i64 0, .bool false, .slice a2 src.length c2, .slice a3 tsk.length c3, .slice a4 sn.length c4, .int .i64 0, .slice a6 at_.length c6, .slice a7 ssn.length c7] 32 (0, 0)) := World.alloc_heap_new w2 _
  have hbA2 : Below w.heap.size w (w2.alloc (.cells #[.int .i64 0, .bool false, .slice a2 src.length c2, .slice a3 tsk.length c3, .slice a4 sn.length c4, .int .i64 0, .slice a6 at_.length c6, .slice a7 ssn.length c7] 32)).drew := bel_drew (bel_alloc (bel_trans (bel_alloc hb1 _) hb2) _)
  clear bJ0 hb2 hb1
  go_wp2_with fail
  refine wp_region_held_drew (S := (fun W => W.heap[w1.heap.size]? = some (.cells #[.int .i64 s, .int .i64 t, .int .i64 k, .int .i64 z, .int .i64 p, .int .i64 l, .int .i64 e, .bool b, .int .i64 v, .int .i64 r] 24 (0, 0)) ∧ W.heap[w2.heap.size]? = some (.cells #[.int .i64 0, .bool false, .slice a2 src.length c2, .slice a3 tsk.length c3, .slice a4 sn.length c4, .int .i64 0, .slice a6 at_.length c6, .slice a7 ssn.length c7] 32 (0, 0)))) (by kernel_rfl) ?_ (fun hHeld => ?_)
  · first | trivial | ((try dsimp only); exact ⟨bJ, bC⟩)
  refine kT 0 ?_ ?_ ?_
  rotate_left
  · (intro w9 hSw; (try dsimp only at hSw); obtain ⟨q0, q1⟩ := hSw; have g1x0 : w9.cell? ⟨w2.heap.size, 0, none⟩ = some (.int .i64 0) := (by simp [World.cell?, q1, go_sem]); have g1x1 : w9.cell? ⟨w2.heap.size, 1, none⟩ = some (.bool false) := (by simp [World.cell?, q1, go_sem]); have g1x2 : w9.cell? ⟨w2.heap.size, 2, none⟩ = some (.slice a2 src.length c2) := (by simp [World.cell?, q1, go_sem]); have g1x3 : w9.cell? ⟨w2.heap.size, 3, none⟩ = some (.slice a3 tsk.length c3) := (by simp [World.cell?, q1, go_sem]); have g1x4 : w9.cell? ⟨w2.heap.size, 4, none⟩ = some (.slice a4 sn.length c4) := (by simp [World.cell?, q1, go_sem]); have g1x5 : w9.cell? ⟨w2.heap.size, 5, none⟩ = some (.int .i64 0) := (by simp [World.cell?, q1, go_sem]); have g1x6 : w9.cell? ⟨w2.heap.size, 6, none⟩ = some (.slice a6 at_.length c6) := (by simp [World.cell?, q1, go_sem]); have g1x7 : w9.cell? ⟨w2.heap.size, 7, none⟩ = some (.slice a7 ssn.length c7) := (by simp [World.cell?, q1, go_sem]); go_simp <;> with_reducible rfl)
  try simp only [Act.put, tA, tZ, tS]
  refine kT 1 ?_ ?_ ?_
  rotate_left
  · (intro w9 hSw; (try dsimp only at hSw); obtain ⟨q0, q1⟩ := hSw; have g0x0 : w9.cell? ⟨w1.heap.size, 0, none⟩ = some (.int .i64 s) := (by simp [World.cell?, q0, go_sem]); have g0x1 : w9.cell? ⟨w1.heap.size, 1, none⟩ = some (.int .i64 t) := (by simp [World.cell?, q0, go_sem]); have g0x2 : w9.cell? ⟨w1.heap.size, 2, none⟩ = some (.int .i64 k) := (by simp [World.cell?, q0, go_sem]); have g0x3 : w9.cell? ⟨w1.heap.size, 3, none⟩ = some (.int .i64 z) := (by simp [World.cell?, q0, go_sem]); have g0x4 : w9.cell? ⟨w1.heap.size, 4, none⟩ = some (.int .i64 p) := (by simp [World.cell?, q0, go_sem]); have g0x5 : w9.cell? ⟨w1.heap.size, 5, none⟩ = some (.int .i64 l) := (by simp [World.cell?, q0, go_sem]); have g0x6 : w9.cell? ⟨w1.heap.size, 6, none⟩ = some (.int .i64 e) := (by simp [World.cell?, q0, go_sem]); have g0x7 : w9.cell? ⟨w1.heap.size, 7, none⟩ = some (.bool b) := (by simp [World.cell?, q0, go_sem]); have g0x8 : w9.cell? ⟨w1.heap.size, 8, none⟩ = some (.int .i64 v) := (by simp [World.cell?, q0, go_sem]); have g0x9 : w9.cell? ⟨w1.heap.size, 9, none⟩ = some (.int .i64 r) := (by simp [World.cell?, q0, go_sem]); go_simp <;> with_reducible rfl)
  try simp only [Act.put, tA, tZ, tS]
  refine wpAnyH_ready (rs := [2]) (by kernel_rfl) (by simp) ?_
  refine AllReadyH.cons (by simp only [gA, gZ, gS]; rfl) (fun K hK => ?_) AllReadyH.nil
  go_simp
  (go_at_call 7; refine (specnewc_is s t k z p l e b v r src tsk sn at_ ssn _ HD).mono ?_; rintro e9 w3 ⟨b2, d2, b3, d3, b4, d4, b6, d6, b7, d7, rfl, hS0, hbw3⟩; have HS := hide hS0; have HC3 := hide (((unhide HC).below (bel_drew (bel_one _ _))).below hbw3); clear hS0)
  (try go_wp2_with fail)
  have zw3 := hbw3.size
  (try simp at zw3)
  have bJ := (hbw3.block (w1.heap.size) (sB)).trans bJ
  have bC := (hbw3.block (w2.heap.size) (sB)).trans bC
  refine hK.out _ _ ?_ (fun hHeld2 => ?_)
  · first | trivial | ((try dsimp only); exact ⟨bJ, bC⟩)
  clear hK K hHeld
  have hHeld := hHeld2
  clear hHeld2
  try simp only [Act.put, tA, tZ, tS]
  refine wpAnyH_ready (rs := [3]) (by kernel_rfl) (by simp) ?_
  refine AllReadyH.cons (by simp only [gA, gZ, gS]; rfl) (fun K hK => ?_) AllReadyH.nil
  go_simp
  (go_at_call 6; refine (frckp_any 0 false 0 _ _ src tsk sn at_ ssn _ _ _ _ _ _ _ _ _ _ _ _ _ _ _ _ _ _ _ _ _ _ _ _ _ _ (unhide HC3).1.1 (unhide HS).1.1 (unhide HC3).2.1.1 (unhide HS).2.1.1 (unhide HC3).2.2.1 (unhide HS).2.2.1 (unhide HC3).2.2.2.1.1 (unhide HS).2.2.2.1.1 (unhide HC3).2.2.2.2 (unhide HS).2.2.2.2 (unhide HN).1 (unhide HN).2).mono ?_; rintro e9 w4 ⟨rfl, hbw4⟩; have HC4 := hide ((unhide HC3).below hbw4))
  (try go_wp2_with fail)
  have zw4 := hbw4.size
  (try simp at zw4)
  have bJ := (hbw4.block (w1.heap.size) (sB)).trans bJ
  have bC := (hbw4.block (w2.heap.size) (sB)).trans bC
  refine hK.out _ _ ?_ (fun hHeld2 => ?_)
  · first | trivial | ((try dsimp only); exact ⟨bJ, bC⟩)
  clear hK K hHeld
  have hHeld := hHeld2
  clear hHeld2
  try simp only [Act.put, tA, tZ, tS]
  refine kT 4 ?_ ?_ ?_
  rotate_left
  · (intro w9 hSw; (try dsimp only at hSw); go_simp <;> with_reducible rfl)
  try simp only [Act.put, tA, tZ, tS]
  refine wpAnyH_done (by kernel_rfl) ?_ _
  have hbA4 : Below w.heap.size w w4 := bel_trans (bel_trans hbA2 hbw3) hbw4
  clear HC HC3 HS hbA2 hbw3 hbw4 hHeld
  have hbF := hbA4
  have HC := HC4
  have z4 : w2.heap.size < w4.heap.size := by omega
  clear hbA4 HC4 zw3 zw4
  by_cases hj : okJob s t k z p l e v r = true
  rotate_left
  · have hjf : okJob s t k z p l e v r = false := by simpa using hj
    have HJ := hide hjf
    have HO := hide (ckNo (x := ⟨0, false, src, tsk, sn, 0, at_, ssn⟩) hjf)
    clear hj hjf HK
    have cj0 : w4.cell? ⟨w1.heap.size, 0, none⟩ = some (.int .i64 s) := Joins.cell_of_block bJ 0
    have cj1 : w4.cell? ⟨w1.heap.size, 1, none⟩ = some (.int .i64 t) := Joins.cell_of_block bJ 1
    have cj2 : w4.cell? ⟨w1.heap.size, 2, none⟩ = some (.int .i64 k) := Joins.cell_of_block bJ 2
    have cj3 : w4.cell? ⟨w1.heap.size, 3, none⟩ = some (.int .i64 z) := Joins.cell_of_block bJ 3
    have cj4 : w4.cell? ⟨w1.heap.size, 4, none⟩ = some (.int .i64 p) := Joins.cell_of_block bJ 4
    have cj5 : w4.cell? ⟨w1.heap.size, 5, none⟩ = some (.int .i64 l) := Joins.cell_of_block bJ 5
    have cj6 : w4.cell? ⟨w1.heap.size, 6, none⟩ = some (.int .i64 e) := Joins.cell_of_block bJ 6
    have cj7 : w4.cell? ⟨w1.heap.size, 7, none⟩ = some (.bool b) := Joins.cell_of_block bJ 7
    have cj8 : w4.cell? ⟨w1.heap.size, 8, none⟩ = some (.int .i64 v) := Joins.cell_of_block bJ 8
    have cj9 : w4.cell? ⟨w1.heap.size, 9, none⟩ = some (.int .i64 r) := Joins.cell_of_block bJ 9
    have cc0 : w4.cell? ⟨w2.heap.size, 0, none⟩ = some (.int .i64 0) := Joins.cell_of_block bC 0
    have cc1 : w4.cell? ⟨w2.heap.size, 1, none⟩ = some (.bool false) := Joins.cell_of_block bC 1
    have cc2 : w4.cell? ⟨w2.heap.size, 2, none⟩ = some (.slice a2 src.length c2) := Joins.cell_of_block bC 2
    have cc3 : w4.cell? ⟨w2.heap.size, 3, none⟩ = some (.slice a3 tsk.length c3) := Joins.cell_of_block bC 3
    have cc4 : w4.cell? ⟨w2.heap.size, 4, none⟩ = some (.slice a4 sn.length c4) := Joins.cell_of_block bC 4
    have cc5 : w4.cell? ⟨w2.heap.size, 5, none⟩ = some (.int .i64 0) := Joins.cell_of_block bC 5
    have cc6 : w4.cell? ⟨w2.heap.size, 6, none⟩ = some (.slice a6 at_.length c6) := Joins.cell_of_block bC 6
    have cc7 : w4.cell? ⟨w2.heap.size, 7, none⟩ = some (.slice a7 ssn.length c7) := Joins.cell_of_block bC 7
    go_wp2_with fail
    clear cj0 cj1 cj2 cj3 cj4 cj5 cj6 cj7 cj8 cj9 cc0 cc1 cc2 cc3 cc4 cc5 cc6 cc7
    refine (specjob_is s t k z p l e b v r _ HJ).mono ?_
    rintro e9 w5 ⟨rfl, hbw5⟩
    have zw5 := hbw5.size
    replace bJ := (hbw5.block w1.heap.size (by omega)).trans bJ
    replace bC := (hbw5.block w2.heap.size (by omega)).trans bC
    replace HC := hide ((unhide HC).below hbw5)
    replace hbF := bel_trans hbF hbw5
    clear hbw5
    have cj0 : w5.cell? ⟨w1.heap.size, 0, none⟩ = some (.int .i64 s) := Joins.cell_of_block bJ 0
    have cj1 : w5.cell? ⟨w1.heap.size, 1, none⟩ = some (.int .i64 t) := Joins.cell_of_block bJ 1
    have cj2 : w5.cell? ⟨w1.heap.size, 2, none⟩ = some (.int .i64 k) := Joins.cell_of_block bJ 2
    have cj3 : w5.cell? ⟨w1.heap.size, 3, none⟩ = some (.int .i64 z) := Joins.cell_of_block bJ 3
    have cj4 : w5.cell? ⟨w1.heap.size, 4, none⟩ = some (.int .i64 p) := Joins.cell_of_block bJ 4
    have cj5 : w5.cell? ⟨w1.heap.size, 5, none⟩ = some (.int .i64 l) := Joins.cell_of_block bJ 5
    have cj6 : w5.cell? ⟨w1.heap.size, 6, none⟩ = some (.int .i64 e) := Joins.cell_of_block bJ 6
    have cj7 : w5.cell? ⟨w1.heap.size, 7, none⟩ = some (.bool b) := Joins.cell_of_block bJ 7
    have cj8 : w5.cell? ⟨w1.heap.size, 8, none⟩ = some (.int .i64 v) := Joins.cell_of_block bJ 8
    have cj9 : w5.cell? ⟨w1.heap.size, 9, none⟩ = some (.int .i64 r) := Joins.cell_of_block bJ 9
    have cc0 : w5.cell? ⟨w2.heap.size, 0, none⟩ = some (.int .i64 0) := Joins.cell_of_block bC 0
    have cc1 : w5.cell? ⟨w2.heap.size, 1, none⟩ = some (.bool false) := Joins.cell_of_block bC 1
    have cc2 : w5.cell? ⟨w2.heap.size, 2, none⟩ = some (.slice a2 src.length c2) := Joins.cell_of_block bC 2
    have cc3 : w5.cell? ⟨w2.heap.size, 3, none⟩ = some (.slice a3 tsk.length c3) := Joins.cell_of_block bC 3
    have cc4 : w5.cell? ⟨w2.heap.size, 4, none⟩ = some (.slice a4 sn.length c4) := Joins.cell_of_block bC 4
    have cc5 : w5.cell? ⟨w2.heap.size, 5, none⟩ = some (.int .i64 0) := Joins.cell_of_block bC 5
    have cc6 : w5.cell? ⟨w2.heap.size, 6, none⟩ = some (.slice a6 at_.length c6) := Joins.cell_of_block bC 6
    have cc7 : w5.cell? ⟨w2.heap.size, 7, none⟩ = some (.slice a7 ssn.length c7) := Joins.cell_of_block bC 7
    go_wp2_with fail
    clear cj0 cj1 cj2 cj3 cj4 cj5 cj6 cj7 cj8 cj9 cc0 cc1 cc2 cc3 cc4 cc5 cc6 cc7
    refine (okck_is s t k z p l e b v r src tsk sn at_ ssn a2 a3 a4 a6 a7 c2 c3 c4 c6 c7 _ _ (unhide HC) HO).mono ?_
    rintro e9 w6 ⟨rfl, hbw6⟩
    have zw6 := hbw6.size
    replace bJ := (hbw6.block w1.heap.size (by omega)).trans bJ
    replace bC := (hbw6.block w2.heap.size (by omega)).trans bC
    replace hbF := bel_trans hbF hbw6
    clear hbw6
    go_wp2_with fail
    refine (frok_any _).mono ?_
    rintro e9 w7 ⟨rfl, hbw7⟩
    go_wp2
    go_ret
    exact ⟨rfl, bel_trans hbF hbw7⟩
  · have HJ := hide hj
    obtain ⟨hT, hO⟩ := unhide HK hj
    have HO := hide hO
    have HT := hide hT
    clear hj hT hO HK
    have cj0 : w4.cell? ⟨w1.heap.size, 0, none⟩ = some (.int .i64 s) := Joins.cell_of_block bJ 0
    have cj1 : w4.cell? ⟨w1.heap.size, 1, none⟩ = some (.int .i64 t) := Joins.cell_of_block bJ 1
    have cj2 : w4.cell? ⟨w1.heap.size, 2, none⟩ = some (.int .i64 k) := Joins.cell_of_block bJ 2
    have cj3 : w4.cell? ⟨w1.heap.size, 3, none⟩ = some (.int .i64 z) := Joins.cell_of_block bJ 3
    have cj4 : w4.cell? ⟨w1.heap.size, 4, none⟩ = some (.int .i64 p) := Joins.cell_of_block bJ 4
    have cj5 : w4.cell? ⟨w1.heap.size, 5, none⟩ = some (.int .i64 l) := Joins.cell_of_block bJ 5
    have cj6 : w4.cell? ⟨w1.heap.size, 6, none⟩ = some (.int .i64 e) := Joins.cell_of_block bJ 6
    have cj7 : w4.cell? ⟨w1.heap.size, 7, none⟩ = some (.bool b) := Joins.cell_of_block bJ 7
    have cj8 : w4.cell? ⟨w1.heap.size, 8, none⟩ = some (.int .i64 v) := Joins.cell_of_block bJ 8
    have cj9 : w4.cell? ⟨w1.heap.size, 9, none⟩ = some (.int .i64 r) := Joins.cell_of_block bJ 9
    have cc0 : w4.cell? ⟨w2.heap.size, 0, none⟩ = some (.int .i64 0) := Joins.cell_of_block bC 0
    have cc1 : w4.cell? ⟨w2.heap.size, 1, none⟩ = some (.bool false) := Joins.cell_of_block bC 1
    have cc2 : w4.cell? ⟨w2.heap.size, 2, none⟩ = some (.slice a2 src.length c2) := Joins.cell_of_block bC 2
    have cc3 : w4.cell? ⟨w2.heap.size, 3, none⟩ = some (.slice a3 tsk.length c3) := Joins.cell_of_block bC 3
    have cc4 : w4.cell? ⟨w2.heap.size, 4, none⟩ = some (.slice a4 sn.length c4) := Joins.cell_of_block bC 4
    have cc5 : w4.cell? ⟨w2.heap.size, 5, none⟩ = some (.int .i64 0) := Joins.cell_of_block bC 5
    have cc6 : w4.cell? ⟨w2.heap.size, 6, none⟩ = some (.slice a6 at_.length c6) := Joins.cell_of_block bC 6
    have cc7 : w4.cell? ⟨w2.heap.size, 7, none⟩ = some (.slice a7 ssn.length c7) := Joins.cell_of_block bC 7
    go_wp2_with fail
    clear cj0 cj1 cj2 cj3 cj4 cj5 cj6 cj7 cj8 cj9 cc0 cc1 cc2 cc3 cc4 cc5 cc6 cc7
    refine (specjob_is s t k z p l e b v r _ HJ).mono ?_
    rintro e9 w5 ⟨rfl, hbw5⟩
    have zw5 := hbw5.size
    replace bJ := (hbw5.block w1.heap.size (by omega)).trans bJ
    replace bC := (hbw5.block w2.heap.size (by omega)).trans bC
    replace HC := hide ((unhide HC).below hbw5)
    replace hbF := bel_trans hbF hbw5
    clear hbw5
    have cj0 : w5.cell? ⟨w1.heap.size, 0, none⟩ = some (.int .i64 s) := Joins.cell_of_block bJ 0
    have cj1 : w5.cell? ⟨w1.heap.size, 1, none⟩ = some (.int .i64 t) := Joins.cell_of_block bJ 1
    have cj2 : w5.cell? ⟨w1.heap.size, 2, none⟩ = some (.int .i64 k) := Joins.cell_of_block bJ 2
    have cj3 : w5.cell? ⟨w1.heap.size, 3, none⟩ = some (.int .i64 z) := Joins.cell_of_block bJ 3
    have cj4 : w5.cell? ⟨w1.heap.size, 4, none⟩ = some (.int .i64 p) := Joins.cell_of_block bJ 4
    have cj5 : w5.cell? ⟨w1.heap.size, 5, none⟩ = some (.int .i64 l) := Joins.cell_of_block bJ 5
    have cj6 : w5.cell? ⟨w1.heap.size, 6, none⟩ = some (.int .i64 e) := Joins.cell_of_block bJ 6
    have cj7 : w5.cell? ⟨w1.heap.size, 7, none⟩ = some (.bool b) := Joins.cell_of_block bJ 7
    have cj8 : w5.cell? ⟨w1.heap.size, 8, none⟩ = some (.int .i64 v) := Joins.cell_of_block bJ 8
    have cj9 : w5.cell? ⟨w1.heap.size, 9, none⟩ = some (.int .i64 r) := Joins.cell_of_block bJ 9
    have cc0 : w5.cell? ⟨w2.heap.size, 0, none⟩ = some (.int .i64 0) := Joins.cell_of_block bC 0
    have cc1 : w5.cell? ⟨w2.heap.size, 1, none⟩ = some (.bool false) := Joins.cell_of_block bC 1
    have cc2 : w5.cell? ⟨w2.heap.size, 2, none⟩ = some (.slice a2 src.length c2) := Joins.cell_of_block bC 2
    have cc3 : w5.cell? ⟨w2.heap.size, 3, none⟩ = some (.slice a3 tsk.length c3) := Joins.cell_of_block bC 3
    have cc4 : w5.cell? ⟨w2.heap.size, 4, none⟩ = some (.slice a4 sn.length c4) := Joins.cell_of_block bC 4
    have cc5 : w5.cell? ⟨w2.heap.size, 5, none⟩ = some (.int .i64 0) := Joins.cell_of_block bC 5
    have cc6 : w5.cell? ⟨w2.heap.size, 6, none⟩ = some (.slice a6 at_.length c6) := Joins.cell_of_block bC 6
    have cc7 : w5.cell? ⟨w2.heap.size, 7, none⟩ = some (.slice a7 ssn.length c7) := Joins.cell_of_block bC 7
    go_wp2_with fail
    clear cj0 cj1 cj2 cj3 cj4 cj5 cj6 cj7 cj8 cj9 cc0 cc1 cc2 cc3 cc4 cc5 cc6 cc7
    refine (save_is s t k z p l e b v r src tsk sn at_ ssn a2 a3 a4 a6 a7 c2 c3 c4 c6 c7 _ _ (unhide HC) (unhide HL) HO).mono ?_
    rintro e9 w6 ⟨b2, d2, b3, d3, b4, d4, b6, d6, b7, d7, rfl, hX, hbw6⟩
    have zw6 := hbw6.size
    have HX := hide hX
    clear hX
    replace bJ := (hbw6.block w1.heap.size (by omega)).trans bJ
    replace bC := (hbw6.block w2.heap.size (by omega)).trans bC
    replace HC := hide ((unhide HC).below hbw6)
    replace hbF := bel_trans hbF hbw6
    clear hbw6
    have bX : (w6.alloc (.cells #[.int .i64 0, .bool false, .slice b2 src.length d2, .slice b3 tsk.length d3, .slice b4 sn.length d4, .int .i64 0, .slice b6 at_.length d6, .slice b7 ssn.length d7] 32)).heap[w6.heap.size]? = some (.cells #[.int .i64 0, .bool false, .slice b2 src.length d2, .slice b3 tsk.length d3, .slice b4 sn.length d4, .int .i64 0, .slice b6 at_.length d6, .slice b7 ssn.length d7] 32 (0, 0)) := World.alloc_heap_new w6 _
    replace bJ : (w6.alloc (.cells #[.int .i64 0, .bool false, .slice b2 src.length d2, .slice b3 tsk.length d3, .slice b4 sn.length d4, .int .i64 0, .slice b6 at_.length d6, .slice b7 ssn.length d7] 32)).heap[w1.heap.size]? = some (.cells #[.int .i64 s, .int .i64 t, .int .i64 k, .int .i64 z, .int .i64 p, .int .i64 l, .int .i64 e, .bool b, .int .i64 v, .int .i64 r] 24 (0, 0)) := (Below.heap_alloc w6 _ _ (by omega)).trans bJ
    replace bC : (w6.alloc (.cells #[.int .i64 0, .bool false, .slice b2 src.length d2, .slice b3 tsk.length d3, .slice b4 sn.length d4, .int .i64 0, .slice b6 at_.length d6, .slice b7 ssn.length d7] 32)).heap[w2.heap.size]? = some (.cells #[.int .i64 0, .bool false, .slice a2 src.length c2, .slice a3 tsk.length c3, .slice a4 sn.length c4, .int .i64 0, .slice a6 at_.length c6, .slice a7 ssn.length c7] 32 (0, 0)) := (Below.heap_alloc w6 _ _ (by omega)).trans bC
    replace HC := hide ((unhide HC).below (bel_one w6 (.cells #[.int .i64 0, .bool false, .slice b2 src.length d2, .slice b3 tsk.length d3, .slice b4 sn.length d4, .int .i64 0, .slice b6 at_.length d6, .slice b7 ssn.length d7] 32)))
    replace HX := hide ((unhide HX).below (bel_one w6 (.cells #[.int .i64 0, .bool false, .slice b2 src.length d2, .slice b3 tsk.length d3, .slice b4 sn.length d4, .int .i64 0, .slice b6 at_.length d6, .slice b7 ssn.length d7] 32)))
    replace hbF := bel_alloc hbF (.cells #[.int .i64 0, .bool false, .slice b2 src.length d2, .slice b3 tsk.length d3, .slice b4 sn.length d4, .int .i64 0, .slice b6 at_.length d6, .slice b7 ssn.length d7] 32)
    have zA : (w6.alloc (.cells #[.int .i64 0, .bool false, .slice b2 src.length d2, .slice b3 tsk.length d3, .slice b4 sn.length d4, .int .i64 0, .slice b6 at_.length d6, .slice b7 ssn.length d7] 32)).heap.size = w6.heap.size + 1 := by simp
    have cj0 : (w6.alloc (.cells #[.int .i64 0, .bool false, .slice b2 src.length d2, .slice b3 tsk.length d3, .slice b4 sn.length d4, .int .i64 0, .slice b6 at_.length d6, .slice b7 ssn.length d7] 32)).cell? ⟨w1.heap.size, 0, none⟩ = some (.int .i64 s) := Joins.cell_of_block bJ 0
    have cj1 : (w6.alloc (.cells #[.int .i64 0, .bool false, .slice b2 src.length d2, .slice b3 tsk.length d3, .slice b4 sn.length d4, .int .i64 0, .slice b6 at_.length d6, .slice b7 ssn.length d7] 32)).cell? ⟨w1.heap.size, 1, none⟩ = some (.int .i64 t) := Joins.cell_of_block bJ 1
    have cj2 : (w6.alloc (.cells #[.int .i64 0, .bool false, .slice b2 src.length d2, .slice b3 tsk.length d3, .slice b4 sn.length d4, .int .i64 0, .slice b6 at_.length d6, .slice b7 ssn.length d7] 32)).cell? ⟨w1.heap.size, 2, none⟩ = some (.int .i64 k) := Joins.cell_of_block bJ 2
    have cj3 : (w6.alloc (.cells #[.int .i64 0, .bool false, .slice b2 src.length d2, .slice b3 tsk.length d3, .slice b4 sn.length d4, .int .i64 0, .slice b6 at_.length d6, .slice b7 ssn.length d7] 32)).cell? ⟨w1.heap.size, 3, none⟩ = some (.int .i64 z) := Joins.cell_of_block bJ 3
    have cj4 : (w6.alloc (.cells #[.int .i64 0, .bool false, .slice b2 src.length d2, .slice b3 tsk.length d3, .slice b4 sn.length d4, .int .i64 0, .slice b6 at_.length d6, .slice b7 ssn.length d7] 32)).cell? ⟨w1.heap.size, 4, none⟩ = some (.int .i64 p) := Joins.cell_of_block bJ 4
    have cj5 : (w6.alloc (.cells #[.int .i64 0, .bool false, .slice b2 src.length d2, .slice b3 tsk.length d3, .slice b4 sn.length d4, .int .i64 0, .slice b6 at_.length d6, .slice b7 ssn.length d7] 32)).cell? ⟨w1.heap.size, 5, none⟩ = some (.int .i64 l) := Joins.cell_of_block bJ 5
    have cj6 : (w6.alloc (.cells #[.int .i64 0, .bool false, .slice b2 src.length d2, .slice b3 tsk.length d3, .slice b4 sn.length d4, .int .i64 0, .slice b6 at_.length d6, .slice b7 ssn.length d7] 32)).cell? ⟨w1.heap.size, 6, none⟩ = some (.int .i64 e) := Joins.cell_of_block bJ 6
    have cj7 : (w6.alloc (.cells #[.int .i64 0, .bool false, .slice b2 src.length d2, .slice b3 tsk.length d3, .slice b4 sn.length d4, .int .i64 0, .slice b6 at_.length d6, .slice b7 ssn.length d7] 32)).cell? ⟨w1.heap.size, 7, none⟩ = some (.bool b) := Joins.cell_of_block bJ 7
    have cj8 : (w6.alloc (.cells #[.int .i64 0, .bool false, .slice b2 src.length d2, .slice b3 tsk.length d3, .slice b4 sn.length d4, .int .i64 0, .slice b6 at_.length d6, .slice b7 ssn.length d7] 32)).cell? ⟨w1.heap.size, 8, none⟩ = some (.int .i64 v) := Joins.cell_of_block bJ 8
    have cj9 : (w6.alloc (.cells #[.int .i64 0, .bool false, .slice b2 src.length d2, .slice b3 tsk.length d3, .slice b4 sn.length d4, .int .i64 0, .slice b6 at_.length d6, .slice b7 ssn.length d7] 32)).cell? ⟨w1.heap.size, 9, none⟩ = some (.int .i64 r) := Joins.cell_of_block bJ 9
    have cc0 : (w6.alloc (.cells #[.int .i64 0, .bool false, .slice b2 src.length d2, .slice b3 tsk.length d3, .slice b4 sn.length d4, .int .i64 0, .slice b6 at_.length d6, .slice b7 ssn.length d7] 32)).cell? ⟨w2.heap.size, 0, none⟩ = some (.int .i64 0) := Joins.cell_of_block bC 0
    have cc1 : (w6.alloc (.cells #[.int .i64 0, .bool false, .slice b2 src.length d2, .slice b3 tsk.length d3, .slice b4 sn.length d4, .int .i64 0, .slice b6 at_.length d6, .slice b7 ssn.length d7] 32)).cell? ⟨w2.heap.size, 1, none⟩ = some (.bool false) := Joins.cell_of_block bC 1
    have cc2 : (w6.alloc (.cells #[.int .i64 0, .bool false, .slice b2 src.length d2, .slice b3 tsk.length d3, .slice b4 sn.length d4, .int .i64 0, .slice b6 at_.length d6, .slice b7 ssn.length d7] 32)).cell? ⟨w2.heap.size, 2, none⟩ = some (.slice a2 src.length c2) := Joins.cell_of_block bC 2
    have cc3 : (w6.alloc (.cells #[.int .i64 0, .bool false, .slice b2 src.length d2, .slice b3 tsk.length d3, .slice b4 sn.length d4, .int .i64 0, .slice b6 at_.length d6, .slice b7 ssn.length d7] 32)).cell? ⟨w2.heap.size, 3, none⟩ = some (.slice a3 tsk.length c3) := Joins.cell_of_block bC 3
    have cc4 : (w6.alloc (.cells #[.int .i64 0, .bool false, .slice b2 src.length d2, .slice b3 tsk.length d3, .slice b4 sn.length d4, .int .i64 0, .slice b6 at_.length d6, .slice b7 ssn.length d7] 32)).cell? ⟨w2.heap.size, 4, none⟩ = some (.slice a4 sn.length c4) := Joins.cell_of_block bC 4
    have cc5 : (w6.alloc (.cells #[.int .i64 0, .bool false, .slice b2 src.length d2, .slice b3 tsk.length d3, .slice b4 sn.length d4, .int .i64 0, .slice b6 at_.length d6, .slice b7 ssn.length d7] 32)).cell? ⟨w2.heap.size, 5, none⟩ = some (.int .i64 0) := Joins.cell_of_block bC 5
    have cc6 : (w6.alloc (.cells #[.int .i64 0, .bool false, .slice b2 src.length d2, .slice b3 tsk.length d3, .slice b4 sn.length d4, .int .i64 0, .slice b6 at_.length d6, .slice b7 ssn.length d7] 32)).cell? ⟨w2.heap.size, 6, none⟩ = some (.slice a6 at_.length c6) := Joins.cell_of_block bC 6
    have cc7 : (w6.alloc (.cells #[.int .i64 0, .bool false, .slice b2 src.length d2, .slice b3 tsk.length d3, .slice b4 sn.length d4, .int .i64 0, .slice b6 at_.length d6, .slice b7 ssn.length d7] 32)).cell? ⟨w2.heap.size, 7, none⟩ = some (.slice a7 ssn.length c7) := Joins.cell_of_block bC 7
    have cx0 : (w6.alloc (.cells #[.int .i64 0, .bool false, .slice b2 src.length d2, .slice b3 tsk.length d3, .slice b4 sn.length d4, .int .i64 0, .slice b6 at_.length d6, .slice b7 ssn.length d7] 32)).cell? ⟨w6.heap.size, 0, none⟩ = some (.int .i64 0) := Joins.cell_of_block bX 0
    have cx1 : (w6.alloc (.cells #[.int .i64 0, .bool false, .slice b2 src.length d2, .slice b3 tsk.length d3, .slice b4 sn.length d4, .int .i64 0, .slice b6 at_.length d6, .slice b7 ssn.length d7] 32)).cell? ⟨w6.heap.size, 1, none⟩ = some (.bool false) := Joins.cell_of_block bX 1
    have cx2 : (w6.alloc (.cells #[.int .i64 0, .bool false, .slice b2 src.length d2, .slice b3 tsk.length d3, .slice b4 sn.length d4, .int .i64 0, .slice b6 at_.length d6, .slice b7 ssn.length d7] 32)).cell? ⟨w6.heap.size, 2, none⟩ = some (.slice b2 src.length d2) := Joins.cell_of_block bX 2
    have cx3 : (w6.alloc (.cells #[.int .i64 0, .bool false, .slice b2 src.length d2, .slice b3 tsk.length d3, .slice b4 sn.length d4, .int .i64 0, .slice b6 at_.length d6, .slice b7 ssn.length d7] 32)).cell? ⟨w6.heap.size, 3, none⟩ = some (.slice b3 tsk.length d3) := Joins.cell_of_block bX 3
    have cx4 : (w6.alloc (.cells #[.int .i64 0, .bool false, .slice b2 src.length d2, .slice b3 tsk.length d3, .slice b4 sn.length d4, .int .i64 0, .slice b6 at_.length d6, .slice b7 ssn.length d7] 32)).cell? ⟨w6.heap.size, 4, none⟩ = some (.slice b4 sn.length d4) := Joins.cell_of_block bX 4
    have cx5 : (w6.alloc (.cells #[.int .i64 0, .bool false, .slice b2 src.length d2, .slice b3 tsk.length d3, .slice b4 sn.length d4, .int .i64 0, .slice b6 at_.length d6, .slice b7 ssn.length d7] 32)).cell? ⟨w6.heap.size, 5, none⟩ = some (.int .i64 0) := Joins.cell_of_block bX 5
    have cx6 : (w6.alloc (.cells #[.int .i64 0, .bool false, .slice b2 src.length d2, .slice b3 tsk.length d3, .slice b4 sn.length d4, .int .i64 0, .slice b6 at_.length d6, .slice b7 ssn.length d7] 32)).cell? ⟨w6.heap.size, 6, none⟩ = some (.slice b6 at_.length d6) := Joins.cell_of_block bX 6
    have cx7 : (w6.alloc (.cells #[.int .i64 0, .bool false, .slice b2 src.length d2, .slice b3 tsk.length d3, .slice b4 sn.length d4, .int .i64 0, .slice b6 at_.length d6, .slice b7 ssn.length d7] 32)).cell? ⟨w6.heap.size, 7, none⟩ = some (.slice b7 ssn.length d7) := Joins.cell_of_block bX 7
    go_wp2_with fail
    clear cj0 cj1 cj2 cj3 cj4 cj5 cj6 cj7 cj8 cj9 cc0 cc1 cc2 cc3 cc4 cc5 cc6 cc7 cx0 cx1 cx2 cx3 cx4 cx5 cx6 cx7
    refine (okck_is s t k z p l e b v r src tsk sn at_ ssn a2 a3 a4 a6 a7 c2 c3 c4 c6 c7 _ _ (unhide HC) HO).mono ?_
    rintro e9 w7 ⟨rfl, hbw7⟩
    have zw7 := hbw7.size
    rw [zA] at zw7
    replace bJ := (hbw7.block w1.heap.size (sB)).trans bJ
    replace bC := (hbw7.block w2.heap.size (sB)).trans bC
    replace bX := (hbw7.block w6.heap.size (sB)).trans bX
    replace HC := hide ((unhide HC).below hbw7)
    replace HX := hide ((unhide HX).below hbw7)
    replace hbF := bel_trans hbF hbw7
    clear hbw7
    have cj0 : w7.cell? ⟨w1.heap.size, 0, none⟩ = some (.int .i64 s) := Joins.cell_of_block bJ 0
    have cj1 : w7.cell? ⟨w1.heap.size, 1, none⟩ = some (.int .i64 t) := Joins.cell_of_block bJ 1
    have cj2 : w7.cell? ⟨w1.heap.size, 2, none⟩ = some (.int .i64 k) := Joins.cell_of_block bJ 2
    have cj3 : w7.cell? ⟨w1.heap.size, 3, none⟩ = some (.int .i64 z) := Joins.cell_of_block bJ 3
    have cj4 : w7.cell? ⟨w1.heap.size, 4, none⟩ = some (.int .i64 p) := Joins.cell_of_block bJ 4
    have cj5 : w7.cell? ⟨w1.heap.size, 5, none⟩ = some (.int .i64 l) := Joins.cell_of_block bJ 5
    have cj6 : w7.cell? ⟨w1.heap.size, 6, none⟩ = some (.int .i64 e) := Joins.cell_of_block bJ 6
    have cj7 : w7.cell? ⟨w1.heap.size, 7, none⟩ = some (.bool b) := Joins.cell_of_block bJ 7
    have cj8 : w7.cell? ⟨w1.heap.size, 8, none⟩ = some (.int .i64 v) := Joins.cell_of_block bJ 8
    have cj9 : w7.cell? ⟨w1.heap.size, 9, none⟩ = some (.int .i64 r) := Joins.cell_of_block bJ 9
    have cc0 : w7.cell? ⟨w2.heap.size, 0, none⟩ = some (.int .i64 0) := Joins.cell_of_block bC 0
    have cc1 : w7.cell? ⟨w2.heap.size, 1, none⟩ = some (.bool false) := Joins.cell_of_block bC 1
    have cc2 : w7.cell? ⟨w2.heap.size, 2, none⟩ = some (.slice a2 src.length c2) := Joins.cell_of_block bC 2
    have cc3 : w7.cell? ⟨w2.heap.size, 3, none⟩ = some (.slice a3 tsk.length c3) := Joins.cell_of_block bC 3
    have cc4 : w7.cell? ⟨w2.heap.size, 4, none⟩ = some (.slice a4 sn.length c4) := Joins.cell_of_block bC 4
    have cc5 : w7.cell? ⟨w2.heap.size, 5, none⟩ = some (.int .i64 0) := Joins.cell_of_block bC 5
    have cc6 : w7.cell? ⟨w2.heap.size, 6, none⟩ = some (.slice a6 at_.length c6) := Joins.cell_of_block bC 6
    have cc7 : w7.cell? ⟨w2.heap.size, 7, none⟩ = some (.slice a7 ssn.length c7) := Joins.cell_of_block bC 7
    have cx0 : w7.cell? ⟨w6.heap.size, 0, none⟩ = some (.int .i64 0) := Joins.cell_of_block bX 0
    have cx1 : w7.cell? ⟨w6.heap.size, 1, none⟩ = some (.bool false) := Joins.cell_of_block bX 1
    have cx2 : w7.cell? ⟨w6.heap.size, 2, none⟩ = some (.slice b2 src.length d2) := Joins.cell_of_block bX 2
    have cx3 : w7.cell? ⟨w6.heap.size, 3, none⟩ = some (.slice b3 tsk.length d3) := Joins.cell_of_block bX 3
    have cx4 : w7.cell? ⟨w6.heap.size, 4, none⟩ = some (.slice b4 sn.length d4) := Joins.cell_of_block bX 4
    have cx5 : w7.cell? ⟨w6.heap.size, 5, none⟩ = some (.int .i64 0) := Joins.cell_of_block bX 5
    have cx6 : w7.cell? ⟨w6.heap.size, 6, none⟩ = some (.slice b6 at_.length d6) := Joins.cell_of_block bX 6
    have cx7 : w7.cell? ⟨w6.heap.size, 7, none⟩ = some (.slice b7 ssn.length d7) := Joins.cell_of_block bX 7
    go_wp2_with fail
    clear cj0 cj1 cj2 cj3 cj4 cj5 cj6 cj7 cj8 cj9 cc0 cc1 cc2 cc3 cc4 cc5 cc6 cc7 cx0 cx1 cx2 cx3 cx4 cx5 cx6 cx7
    refine (frckp_any 0 false 0 _ _ src tsk sn at_ ssn _ _ _ _ _ _ _ _ _ _ _ _ _ _ _ _ _ _ _ _ _ _ _ _ _ _ (unhide HX).1.1 (unhide HC).1.1 (unhide HX).2.1.1 (unhide HC).2.1.1 (unhide HX).2.2.1 (unhide HC).2.2.1 (unhide HX).2.2.2.1.1 (unhide HC).2.2.2.1.1 (unhide HX).2.2.2.2 (unhide HC).2.2.2.2 (unhide HN).1 (unhide HN).2).mono ?_
    rintro e9 w8 ⟨rfl, hbw8⟩
    have zw8 := hbw8.size
    replace bJ := (hbw8.block w1.heap.size (by omega)).trans bJ
    replace bC := (hbw8.block w2.heap.size (by omega)).trans bC
    replace bX := (hbw8.block w6.heap.size (by omega)).trans bX
    replace HC := hide ((unhide HC).below hbw8)
    replace HX := hide ((unhide HX).below hbw8)
    replace hbF := bel_trans hbF hbw8
    clear hbw8
    have cj0 : w8.cell? ⟨w1.heap.size, 0, none⟩ = some (.int .i64 s) := Joins.cell_of_block bJ 0
    have cj1 : w8.cell? ⟨w1.heap.size, 1, none⟩ = some (.int .i64 t) := Joins.cell_of_block bJ 1
    have cj2 : w8.cell? ⟨w1.heap.size, 2, none⟩ = some (.int .i64 k) := Joins.cell_of_block bJ 2
    have cj3 : w8.cell? ⟨w1.heap.size, 3, none⟩ = some (.int .i64 z) := Joins.cell_of_block bJ 3
    have cj4 : w8.cell? ⟨w1.heap.size, 4, none⟩ = some (.int .i64 p) := Joins.cell_of_block bJ 4
    have cj5 : w8.cell? ⟨w1.heap.size, 5, none⟩ = some (.int .i64 l) := Joins.cell_of_block bJ 5
    have cj6 : w8.cell? ⟨w1.heap.size, 6, none⟩ = some (.int .i64 e) := Joins.cell_of_block bJ 6
    have cj7 : w8.cell? ⟨w1.heap.size, 7, none⟩ = some (.bool b) := Joins.cell_of_block bJ 7
    have cj8 : w8.cell? ⟨w1.heap.size, 8, none⟩ = some (.int .i64 v) := Joins.cell_of_block bJ 8
    have cj9 : w8.cell? ⟨w1.heap.size, 9, none⟩ = some (.int .i64 r) := Joins.cell_of_block bJ 9
    have cc0 : w8.cell? ⟨w2.heap.size, 0, none⟩ = some (.int .i64 0) := Joins.cell_of_block bC 0
    have cc1 : w8.cell? ⟨w2.heap.size, 1, none⟩ = some (.bool false) := Joins.cell_of_block bC 1
    have cc2 : w8.cell? ⟨w2.heap.size, 2, none⟩ = some (.slice a2 src.length c2) := Joins.cell_of_block bC 2
    have cc3 : w8.cell? ⟨w2.heap.size, 3, none⟩ = some (.slice a3 tsk.length c3) := Joins.cell_of_block bC 3
    have cc4 : w8.cell? ⟨w2.heap.size, 4, none⟩ = some (.slice a4 sn.length c4) := Joins.cell_of_block bC 4
    have cc5 : w8.cell? ⟨w2.heap.size, 5, none⟩ = some (.int .i64 0) := Joins.cell_of_block bC 5
    have cc6 : w8.cell? ⟨w2.heap.size, 6, none⟩ = some (.slice a6 at_.length c6) := Joins.cell_of_block bC 6
    have cc7 : w8.cell? ⟨w2.heap.size, 7, none⟩ = some (.slice a7 ssn.length c7) := Joins.cell_of_block bC 7
    have cx0 : w8.cell? ⟨w6.heap.size, 0, none⟩ = some (.int .i64 0) := Joins.cell_of_block bX 0
    have cx1 : w8.cell? ⟨w6.heap.size, 1, none⟩ = some (.bool false) := Joins.cell_of_block bX 1
    have cx2 : w8.cell? ⟨w6.heap.size, 2, none⟩ = some (.slice b2 src.length d2) := Joins.cell_of_block bX 2
    have cx3 : w8.cell? ⟨w6.heap.size, 3, none⟩ = some (.slice b3 tsk.length d3) := Joins.cell_of_block bX 3
    have cx4 : w8.cell? ⟨w6.heap.size, 4, none⟩ = some (.slice b4 sn.length d4) := Joins.cell_of_block bX 4
    have cx5 : w8.cell? ⟨w6.heap.size, 5, none⟩ = some (.int .i64 0) := Joins.cell_of_block bX 5
    have cx6 : w8.cell? ⟨w6.heap.size, 6, none⟩ = some (.slice b6 at_.length d6) := Joins.cell_of_block bX 6
    have cx7 : w8.cell? ⟨w6.heap.size, 7, none⟩ = some (.slice b7 ssn.length d7) := Joins.cell_of_block bX 7
    go_wp2_with fail
    clear cj0 cj1 cj2 cj3 cj4 cj5 cj6 cj7 cj8 cj9 cc0 cc1 cc2 cc3 cc4 cc5 cc6 cc7 cx0 cx1 cx2 cx3 cx4 cx5 cx6 cx7
    refine (ready_is s t k z p l e b v r src tsk sn at_ ssn a2 a3 a4 a6 a7 c2 c3 c4 c6 c7 _ _ (unhide HC) (unhide HL)).mono ?_
    rintro e9 w9 ⟨rfl, hbw9⟩
    have zw9 := hbw9.size
    replace bJ := (hbw9.block w1.heap.size (by omega)).trans bJ
    replace bC := (hbw9.block w2.heap.size (by omega)).trans bC
    replace bX := (hbw9.block w6.heap.size (by omega)).trans bX
    replace hbF := bel_trans hbF hbw9
    clear hbw9
    have cj0 : w9.cell? ⟨w1.heap.size, 0, none⟩ = some (.int .i64 s) := Joins.cell_of_block bJ 0
    have cj1 : w9.cell? ⟨w1.heap.size, 1, none⟩ = some (.int .i64 t) := Joins.cell_of_block bJ 1
    have cj2 : w9.cell? ⟨w1.heap.size, 2, none⟩ = some (.int .i64 k) := Joins.cell_of_block bJ 2
    have cj3 : w9.cell? ⟨w1.heap.size, 3, none⟩ = some (.int .i64 z) := Joins.cell_of_block bJ 3
    have cj4 : w9.cell? ⟨w1.heap.size, 4, none⟩ = some (.int .i64 p) := Joins.cell_of_block bJ 4
    have cj5 : w9.cell? ⟨w1.heap.size, 5, none⟩ = some (.int .i64 l) := Joins.cell_of_block bJ 5
    have cj6 : w9.cell? ⟨w1.heap.size, 6, none⟩ = some (.int .i64 e) := Joins.cell_of_block bJ 6
    have cj7 : w9.cell? ⟨w1.heap.size, 7, none⟩ = some (.bool b) := Joins.cell_of_block bJ 7
    have cj8 : w9.cell? ⟨w1.heap.size, 8, none⟩ = some (.int .i64 v) := Joins.cell_of_block bJ 8
    have cj9 : w9.cell? ⟨w1.heap.size, 9, none⟩ = some (.int .i64 r) := Joins.cell_of_block bJ 9
    have cc0 : w9.cell? ⟨w2.heap.size, 0, none⟩ = some (.int .i64 0) := Joins.cell_of_block bC 0
    have cc1 : w9.cell? ⟨w2.heap.size, 1, none⟩ = some (.bool false) := Joins.cell_of_block bC 1
    have cc2 : w9.cell? ⟨w2.heap.size, 2, none⟩ = some (.slice a2 src.length c2) := Joins.cell_of_block bC 2
    have cc3 : w9.cell? ⟨w2.heap.size, 3, none⟩ = some (.slice a3 tsk.length c3) := Joins.cell_of_block bC 3
    have cc4 : w9.cell? ⟨w2.heap.size, 4, none⟩ = some (.slice a4 sn.length c4) := Joins.cell_of_block bC 4
    have cc5 : w9.cell? ⟨w2.heap.size, 5, none⟩ = some (.int .i64 0) := Joins.cell_of_block bC 5
    have cc6 : w9.cell? ⟨w2.heap.size, 6, none⟩ = some (.slice a6 at_.length c6) := Joins.cell_of_block bC 6
    have cc7 : w9.cell? ⟨w2.heap.size, 7, none⟩ = some (.slice a7 ssn.length c7) := Joins.cell_of_block bC 7
    have cx0 : w9.cell? ⟨w6.heap.size, 0, none⟩ = some (.int .i64 0) := Joins.cell_of_block bX 0
    have cx1 : w9.cell? ⟨w6.heap.size, 1, none⟩ = some (.bool false) := Joins.cell_of_block bX 1
    have cx2 : w9.cell? ⟨w6.heap.size, 2, none⟩ = some (.slice b2 src.length d2) := Joins.cell_of_block bX 2
    have cx3 : w9.cell? ⟨w6.heap.size, 3, none⟩ = some (.slice b3 tsk.length d3) := Joins.cell_of_block bX 3
    have cx4 : w9.cell? ⟨w6.heap.size, 4, none⟩ = some (.slice b4 sn.length d4) := Joins.cell_of_block bX 4
    have cx5 : w9.cell? ⟨w6.heap.size, 5, none⟩ = some (.int .i64 0) := Joins.cell_of_block bX 5
    have cx6 : w9.cell? ⟨w6.heap.size, 6, none⟩ = some (.slice b6 at_.length d6) := Joins.cell_of_block bX 6
    have cx7 : w9.cell? ⟨w6.heap.size, 7, none⟩ = some (.slice b7 ssn.length d7) := Joins.cell_of_block bX 7
    have hT := unhide HT
    go_wp2
    go_ret
    exact ⟨rfl, hbF⟩
end Go.Proofs.Ytabphkmhafflbaa
