/- Laid together: what the claim needs of the texts that were built one by one. -/
import Derived.Test.YtflignpbboiahaaGreatQ6
import Derived.Test.YtflignpbboiahaaGreatQ7
import Derived.Test.YtflignpbboiahaaGreatQ8
import Derived.OwnWalk
import Derived.Deep.DeepCutAuto
import Derived.Test.YtflignpbboiahaaGreatQ0
set_option linter.unusedVariables false
namespace Go.Proofs.YtflignpbboiahaaGreat
open Go.ChangeShapes Go.WideShapes Go.ChangeAt Go.RowKit Go.Shelf Go.Maps
set_option linter.unusedSimpArgs false
def restP (r : OrR) (d : Bool) (zs : List OrR) : List OrR := if d = true then offO (plO r) zs else insO r (offO (plO r) zs)
theorem restP_s {r x : OrR} {d : Bool} {zs : List OrR} (h : plO x = plO r) : restP r d (x :: zs) = restP r d zs := by
 have e1 : offO (plO r) (x :: zs) = offO (plO r) zs := by
  unfold offO
  rw [List.filter_cons, if_neg (by simp [h])]
 unfold restP
 rw [e1]
theorem off_c {r x : OrR} {zs : List OrR} (h : ¬ plO x = plO r) : offO (plO r) (x :: zs) = x :: offO (plO r) zs := by
 unfold offO
 rw [List.filter_cons, if_pos (by simp [h])]
theorem restP_d {r x : OrR} {zs : List OrR} (h : ¬ plO x = plO r) : restP r true (x :: zs) = x :: restP r true zs := by
 unfold restP
 rw [if_pos rfl, if_pos rfl, off_c h]
theorem restP_n {r x : OrR} {zs : List OrR} (h : ¬ plO x = plO r) (h2 : ¬ ltPl (plO r) (plO x)) : restP r false (x :: zs) = x :: restP r false zs := by
 unfold restP
 rw [if_neg (by simp), if_neg (by simp), off_c h]
 show (if _ then _ else _) = _
 rw [if_neg h2]
theorem restP_a {r x : OrR} {zs : List OrR} (h : ¬ plO x = plO r) (h2 : ltPl (plO r) (plO x)) : restP r false (x :: zs) = r :: x :: restP r true zs := by
 unfold restP
 rw [if_neg (by simp), if_pos rfl, off_c h]
 show (if _ then _ else _) = _
 rw [if_pos h2]
theorem aheadPl {r x : OrR} : aheadP r.ky r.st r.en x.ky x.st x.en = true ↔ ltPl (plO r) (plO x) := aheadP_iff
set_option maxRecDepth 100000 in
set_option maxHeartbeats 8000000 in
theorem l7put_any (r : OrR) (a : Option Addr) (len cap : Nat) (xs : List OrR) (w : World) (h : OrRs w a len xs) (hlen : len ≤ 1000) : Calls Tryz.prog 87 #[.slice a len cap, .agg #[.int .i64 r.ky, .int .i64 r.st, .int .i64 r.en, .int .i64 r.an, .int .i64 r.asu, .int .i64 r.ale, .int .i64 r.amo, .int .i64 r.fn, .int .i64 r.fsu, .int .i64 r.fle, .int .i64 r.fmo, .int .i64 r.td, .bool r.tm]] w fun e' w' => ∃ v, e' = .returned v ∧ OwnOr w' w.heap.size v (putO r xs) ∧ Below w.heap.size w w' := by
 obtain ⟨i0, hi, hz0', hz1', hz2'⟩ := info_parts Tryz.infoOr
 have hxl := h.1
 go_enter Tryz.func87, Tryz.ntmps87
 go_wp2
 go_loopw [5, 6, 7] (fun ov dv iv wr => ∃ (d : Bool) (i : Nat) (ys : List OrR), i ≤ len ∧ dv = .bool d ∧ iv = .int .i64 i ∧ Hid (OwnOr wr (w.heap.size + 1) ov ys) ∧ Hid (putO r xs = ys ++ restP r d (xs.drop i)) ∧ ys.length ≤ i + d.toNat ∧ wr.heap[w.heap.size]? = some (.cells #[.int .i64 r.ky, .int .i64 r.st, .int .i64 r.en, .int .i64 r.an, .int .i64 r.asu, .int .i64 r.ale, .int .i64 r.amo, .int .i64 r.fn, .int .i64 r.fsu, .int .i64 r.fle, .int .i64 r.fmo, .int .i64 r.td, .bool r.tm] 76 (0, 0)) ∧ Below w.heap.size w wr) (fun _ _ iv _ => len - (intOf iv).toNat)
 case atStart => exact ⟨false, 0, [], Nat.zero_le _, rfl, rfl, hide (ownLit (W := w.alloc (.cells #[.int .i64 r.ky, .int .i64 r.st, .int .i64 r.en, .int .i64 r.an, .int .i64 r.asu, .int .i64 r.ale, .int .i64 r.amo, .int .i64 r.fn, .int .i64 r.fsu, .int .i64 r.fle, .int .i64 r.fmo, .int .i64 r.td, .bool r.tm] 76)) (B := (w.heap.size + 1)) _ _ (by simp) (by simp)), hide rfl, by simp, (Below.heap_alloc _ _ _ (by simp)).trans (World.alloc_heap_new w _), bel_alloc (bel_one _ _) _⟩
 case round =>
  obtain ⟨d, i, ys, hil, rfl, rfl, HO, HQ, hyl, bR, hbw⟩ := hrel
  have hzr : w.heap.size < wr.heap.size := (Array.getElem?_eq_some_iff.1 bR).1
  have hlt9 := hide (fun b9 (e9 : u5.ownBlock = some b9) => (World.ownsRow.lt (unhide HO) b9 e9).2)
  by_cases hlt : i < len
  ·obtain ⟨_, _, hy⟩ := h
   obtain ⟨g, o, rfl, hr⟩ := hy.resolve_left (by omega)
   obtain ⟨x, hxk⟩ : ∃ x, xs[i]? = some x := ⟨_, List.getElem?_eq_getElem (by omega)⟩
   have hg : g < w.heap.size := hr.lt (by omega)
   obtain ⟨d0, d1, d2, d3, d4, d5, d6, d7, d8, d9, d10, d11, d12⟩ := (hr i _ hxk).below hbw hg
   have Hdr : Hid (xs.drop i = x :: xs.drop (i + 1)) := hide (by
    obtain ⟨h8, h9⟩ := List.getElem?_eq_some_iff.1 hxk
    rw [List.drop_eq_getElem_cons h8, h9])
   have hgr : g < wr.heap.size := by omega
   clear hr hy hxk
   go_upto_region 6 with fail
   go_cut [8] (fun pv W => pv = .pointer (some ⟨wr.heap.size, 0, none⟩) ∧ W.heap[wr.heap.size]? = some (.cells #[.int .i64 x.ky, .int .i64 x.st, .int .i64 x.en, .int .i64 x.an, .int .i64 x.asu, .int .i64 x.ale, .int .i64 x.amo, .int .i64 x.fn, .int .i64 x.fsu, .int .i64 x.fle, .int .i64 x.fmo, .int .i64 x.td, .bool x.tm] 76 (0, 0)) ∧ W.heap[w.heap.size]? = some (.cells #[.int .i64 r.ky, .int .i64 r.st, .int .i64 r.en, .int .i64 r.an, .int .i64 r.asu, .int .i64 r.ale, .int .i64 r.amo, .int .i64 r.fn, .int .i64 r.fsu, .int .i64 r.fle, .int .i64 r.fmo, .int .i64 r.td, .bool r.tm] 76 (0, 0)) ∧ Hid (OwnOr W (w.heap.size + 1) u5 ys) ∧ Below w.heap.size w W ∧ wr.heap.size < W.heap.size)
   case first =>
    go_wp2
    go_meet
    exact ⟨rfl, World.alloc_heap_new wr _, (Below.heap_alloc wr _ _ hzr).trans bR, hide (World.ownsRow.alloc (unhide HO) _), bel_alloc hbw _, (by simp)⟩
   case rest =>
    rename World => wq
    obtain ⟨rfl, bG1, bR1, HO1, hb1, hz1⟩ := hcut
    clear HO bR hbw d0 d1 d2 d3 d4 d5 d6 d7 d8 d9 d10 d11 d12
    have g0 := Joins.cell_of_block bG1 0
    have c0 := Joins.cell_of_block bR1 0
    have g1 := Joins.cell_of_block bG1 1
    have c1 := Joins.cell_of_block bR1 1
    have g2 := Joins.cell_of_block bG1 2
    have c2 := Joins.cell_of_block bR1 2
    have g3 := Joins.cell_of_block bG1 3
    have c3 := Joins.cell_of_block bR1 3
    have g4 := Joins.cell_of_block bG1 4
    have c4 := Joins.cell_of_block bR1 4
    have g5 := Joins.cell_of_block bG1 5
    have c5 := Joins.cell_of_block bR1 5
    have g6 := Joins.cell_of_block bG1 6
    have c6 := Joins.cell_of_block bR1 6
    have g7 := Joins.cell_of_block bG1 7
    have c7 := Joins.cell_of_block bR1 7
    have g8 := Joins.cell_of_block bG1 8
    have c8 := Joins.cell_of_block bR1 8
    have g9 := Joins.cell_of_block bG1 9
    have c9 := Joins.cell_of_block bR1 9
    have g10 := Joins.cell_of_block bG1 10
    have c10 := Joins.cell_of_block bR1 10
    have g11 := Joins.cell_of_block bG1 11
    have c11 := Joins.cell_of_block bR1 11
    have g12 := Joins.cell_of_block bG1 12
    have c12 := Joins.cell_of_block bR1 12
    simp only [gA, gZ, gS] at g0 c0 g1 c1 g2 c2 g3 c3 g4 c4 g5 c5 g6 c6 g7 c7 g8 c8 g9 c9 g10 c10 g11 c11 g12 c12
    by_cases k1 : x.ky = r.ky
    ·by_cases k2 : x.st = r.st
     ·by_cases k3 : x.en = r.en
      ·skip
       have hpl : plO x = plO r := by unfold plO; rw [k1, k2, k3]
       have HS := hide (restP_s (d := d) (zs := xs.drop (i + 1)) hpl)
       have b1 : (x.ky == r.ky) = true := by simp [k1]
       have e1 : decide (x.ky = r.ky) = true := by simp [k1]
       have b2 : (x.st == r.st) = true := by simp [k2]
       have e2 : decide (x.st = r.st) = true := by simp [k2]
       have b3 : (x.en == r.en) = true := by simp [k3]
       have e3 : decide (x.en = r.en) = true := by simp [k3]
       clear hpl k1 k2 k3
       go_wp2
       refine ⟨⟨d, i + 1, ys, by omega, rfl, by go_num, HO1, hide ?_, by omega, bR1, hb1⟩, by simp [intOf]; omega⟩
       rw [unhide HQ, unhide Hdr, unhide HS]
      ·skip
       have hne0 : ¬ plO x = plO r := fun h9 => k3 (by unfold plO at h9; simp only [Prod.mk.injEq] at h9; exact h9.2.2)
       have Hne := hide hne0
       have b1 : (x.ky == r.ky) = true := by simp [k1]
       have e1 : decide (x.ky = r.ky) = true := by simp [k1]
       have b2 : (x.st == r.st) = true := by simp [k2]
       have e2 : decide (x.st = r.st) = true := by simp [k2]
       have b3 : (x.en == r.en) = false := by simp [k3]
       have e3 : decide (x.en = r.en) = false := by simp [k3]
       clear hne0 k1 k2 k3
       cases d with
       | true =>
        have hyT : ys.length ≤ i + 1 := hyl
        go_wp2_with (at_builtin; go_loud (refine wpList_append_own _ rfl _ _ 30 rfl (w.heap.size + 1) 76 i0 _ 13 104 Tryz.underlying30 hi hz0' hz1' hz2' rfl (by decide) u5 _ _ rfl (World.ownsRow.alloc (unhide HO1) _) ⟨wq.heap.size, 0, none⟩ 1 1 [.int .i64 x.ky, .int .i64 x.st, .int .i64 x.en, .int .i64 x.an, .int .i64 x.asu, .int .i64 x.ale, .int .i64 x.amo, .int .i64 x.fn, .int .i64 x.fsu, .int .i64 x.fle, .int .i64 x.fmo, .int .i64 x.td, .bool x.tm] rfl rfl (cells_newOr wq _ _ _ _ _ _ _ _ _ _ _ _ _ _) (by simp [Value.oneCell']) (by unfold maxLen; omega) (by omega) (by simp; omega) ?_); intro v5 w5 hownw5 hgroww5 hnnw5)
        have hgew5 := hide (fun b9 (e9 : (u5 : Value).ownBlock = some b9) => ownOr_geX (unhide HO1) b9 e9)
        have bR5 : w5.heap[w.heap.size]? = some (.cells #[.int .i64 r.ky, .int .i64 r.st, .int .i64 r.en, .int .i64 r.an, .int .i64 r.asu, .int .i64 r.ale, .int .i64 r.amo, .int .i64 r.fn, .int .i64 r.fsu, .int .i64 r.fle, .int .i64 r.fmo, .int .i64 r.td, .bool r.tm] 76 (0, 0)) := (hgroww5.block (w.heap.size) (by simp; omega) (fun e9 => by have := unhide hgew5 _ e9.symm; omega)).trans ((Below.heap_alloc _ _ _ (by omega)).trans bR1)
        have hb5 : Below w.heap.size w w5 := (bel_alloc hb1 _).grown hgroww5 (by have := hb1.size; simp; omega) (fun b9 e9 => by have := unhide hgew5 b9 e9; omega)
        have hz5 : wr.heap.size < w5.heap.size := by have := hgroww5.size; simp at this; omega
        clear g0 c0 g1 c1 g2 c2 g3 c3 g4 c4 g5 c5 g6 c6 g7 c7 g8 c8 g9 c9 g10 c10 g11 c11 g12 c12
        go_wp2
        refine ⟨⟨true, i + 1, ys ++ [x], by omega, rfl, by go_num, hide (ownOr_snoc hownw5), hide ?_, by simp; omega, bR5, hb5⟩, by simp [intOf]; omega⟩
        rw [unhide HQ, unhide Hdr, restP_d (unhide Hne)]
        simp
       | false =>
        have hyT : ys.length ≤ i := hyl
        obtain ⟨ah, hah⟩ : ∃ ah, aheadP r.ky r.st r.en x.ky x.st x.en = ah := ⟨_, rfl⟩
        have Hah := hide hah
        clear hah
        go_wp2_with fail
        refine (l5aheadP_any r.ky r.st r.en x.ky x.st x.en _).mono ?_
        rw [unhide Hah]
        rintro e9 wl ⟨rfl, hbl⟩
        clear g0 c0 g1 c1 g2 c2 g3 c3 g4 c4 g5 c5 g6 c6 g7 c7 g8 c8 g9 c9 g10 c10 g11 c11 g12 c12
        have bG2 := (hbl.block _ (Array.getElem?_eq_some_iff.1 bG1).1).trans bG1
        have bR2 := (hbl.block _ (Array.getElem?_eq_some_iff.1 bR1).1).trans bR1
        have HO2 : Hid (OwnOr wl (w.heap.size + 1) u5 ys) := hide (own_row (unhide HO1) (grown_of0 hbl) (fun _ e9 => by cases e9))
        have hb2 : Below w.heap.size w wl := bel_trans hb1 hbl
        have hz2 : wr.heap.size < wl.heap.size := Nat.lt_of_lt_of_le hz1 hbl.size
        have g0 := Joins.cell_of_block bG2 0
        have c0 := Joins.cell_of_block bR2 0
        have g1 := Joins.cell_of_block bG2 1
        have c1 := Joins.cell_of_block bR2 1
        have g2 := Joins.cell_of_block bG2 2
        have c2 := Joins.cell_of_block bR2 2
        have g3 := Joins.cell_of_block bG2 3
        have c3 := Joins.cell_of_block bR2 3
        have g4 := Joins.cell_of_block bG2 4
        have c4 := Joins.cell_of_block bR2 4
        have g5 := Joins.cell_of_block bG2 5
        have c5 := Joins.cell_of_block bR2 5
        have g6 := Joins.cell_of_block bG2 6
        have c6 := Joins.cell_of_block bR2 6
        have g7 := Joins.cell_of_block bG2 7
        have c7 := Joins.cell_of_block bR2 7
        have g8 := Joins.cell_of_block bG2 8
        have c8 := Joins.cell_of_block bR2 8
        have g9 := Joins.cell_of_block bG2 9
        have c9 := Joins.cell_of_block bR2 9
        have g10 := Joins.cell_of_block bG2 10
        have c10 := Joins.cell_of_block bR2 10
        have g11 := Joins.cell_of_block bG2 11
        have c11 := Joins.cell_of_block bR2 11
        have g12 := Joins.cell_of_block bG2 12
        have c12 := Joins.cell_of_block bR2 12
        simp only [gA, gZ, gS] at g0 c0 g1 c1 g2 c2 g3 c3 g4 c4 g5 c5 g6 c6 g7 c7 g8 c8 g9 c9 g10 c10 g11 c11 g12 c12
        cases ah with
        | false =>
         go_wp2_with (at_builtin; go_loud (refine wpList_append_own _ rfl _ _ 30 rfl (w.heap.size + 1) 76 i0 _ 13 104 Tryz.underlying30 hi hz0' hz1' hz2' rfl (by decide) u5 _ _ rfl (World.ownsRow.alloc (unhide HO2) _) ⟨wl.heap.size, 0, none⟩ 1 1 [.int .i64 x.ky, .int .i64 x.st, .int .i64 x.en, .int .i64 x.an, .int .i64 x.asu, .int .i64 x.ale, .int .i64 x.amo, .int .i64 x.fn, .int .i64 x.fsu, .int .i64 x.fle, .int .i64 x.fmo, .int .i64 x.td, .bool x.tm] rfl rfl (cells_newOr wl _ _ _ _ _ _ _ _ _ _ _ _ _ _) (by simp [Value.oneCell']) (by unfold maxLen; omega) (by omega) (by simp; omega) ?_); intro v5 w5 hownw5 hgroww5 hnnw5)
         have hgew5 := hide (fun b9 (e9 : (u5 : Value).ownBlock = some b9) => ownOr_geX (unhide HO2) b9 e9)
         have bR5 : w5.heap[w.heap.size]? = some (.cells #[.int .i64 r.ky, .int .i64 r.st, .int .i64 r.en, .int .i64 r.an, .int .i64 r.asu, .int .i64 r.ale, .int .i64 r.amo, .int .i64 r.fn, .int .i64 r.fsu, .int .i64 r.fle, .int .i64 r.fmo, .int .i64 r.td, .bool r.tm] 76 (0, 0)) := (hgroww5.block (w.heap.size) (by simp; omega) (fun e9 => by have := unhide hgew5 _ e9.symm; omega)).trans ((Below.heap_alloc _ _ _ (by omega)).trans bR2)
         have hb5 : Below w.heap.size w w5 := (bel_alloc hb2 _).grown hgroww5 (by have := hb2.size; simp; omega) (fun b9 e9 => by have := unhide hgew5 b9 e9; omega)
         have hz5 : wr.heap.size < w5.heap.size := by have := hgroww5.size; simp at this; omega
         clear g0 c0 g1 c1 g2 c2 g3 c3 g4 c4 g5 c5 g6 c6 g7 c7 g8 c8 g9 c9 g10 c10 g11 c11 g12 c12
         go_wp2
         refine ⟨⟨false, i + 1, ys ++ [x], by omega, rfl, by go_num, hide (ownOr_snoc hownw5), hide ?_, by simp; omega, bR5, hb5⟩, by simp [intOf]; omega⟩
         rw [unhide HQ, unhide Hdr, restP_n (unhide Hne) (fun h9 => by have := aheadPl.2 h9; rw [unhide Hah] at this; cases this)]
         simp
        | true =>
         go_upto_region 10 with (at_builtin; go_loud (refine wpList_append_own _ rfl _ _ 30 rfl (w.heap.size + 1) 76 i0 _ 13 104 Tryz.underlying30 hi hz0' hz1' hz2' rfl (by decide) u5 _ _ rfl (World.ownsRow.alloc (unhide HO2) _) ⟨wl.heap.size, 0, none⟩ 1 1 [.int .i64 r.ky, .int .i64 r.st, .int .i64 r.en, .int .i64 r.an, .int .i64 r.asu, .int .i64 r.ale, .int .i64 r.amo, .int .i64 r.fn, .int .i64 r.fsu, .int .i64 r.fle, .int .i64 r.fmo, .int .i64 r.td, .bool r.tm] rfl rfl (cells_newOr wl _ _ _ _ _ _ _ _ _ _ _ _ _ _) (by simp [Value.oneCell']) (by unfold maxLen; omega) (by omega) (by simp; omega) ?_); intro v3 w3 hownw3 hgroww3 hnnw3)
         have hgew3 := hide (fun b9 (e9 : (u5 : Value).ownBlock = some b9) => ownOr_geX (unhide HO2) b9 e9)
         have bR3 : w3.heap[w.heap.size]? = some (.cells #[.int .i64 r.ky, .int .i64 r.st, .int .i64 r.en, .int .i64 r.an, .int .i64 r.asu, .int .i64 r.ale, .int .i64 r.amo, .int .i64 r.fn, .int .i64 r.fsu, .int .i64 r.fle, .int .i64 r.fmo, .int .i64 r.td, .bool r.tm] 76 (0, 0)) := (hgroww3.block (w.heap.size) (by simp; omega) (fun e9 => by have := unhide hgew3 _ e9.symm; omega)).trans ((Below.heap_alloc _ _ _ (by omega)).trans bR2)
         have bG3 : w3.heap[wr.heap.size]? = some (.cells #[.int .i64 x.ky, .int .i64 x.st, .int .i64 x.en, .int .i64 x.an, .int .i64 x.asu, .int .i64 x.ale, .int .i64 x.amo, .int .i64 x.fn, .int .i64 x.fsu, .int .i64 x.fle, .int .i64 x.fmo, .int .i64 x.td, .bool x.tm] 76 (0, 0)) := (hgroww3.block (wr.heap.size) (by simp; omega) (fun e9 => by have := unhide hlt9 _ e9.symm; omega)).trans ((Below.heap_alloc _ _ _ (by omega)).trans bG2)
         have hb3 : Below w.heap.size w w3 := (bel_alloc hb2 _).grown hgroww3 (by have := hb2.size; simp; omega) (fun b9 e9 => by have := unhide hgew3 b9 e9; omega)
         have hz3 : wr.heap.size < w3.heap.size := by have := hgroww3.size; simp at this; omega
         have HO3 : Hid (OwnOr w3 (w.heap.size + 1) v3 (ys ++ [r])) := hide (ownOr_snoc hownw3)
         have hyl3 : (ys ++ [r]).length ≤ i + 2 := by simp; omega
         clear g0 c0 g1 c1 g2 c2 g3 c3 g4 c4 g5 c5 g6 c6 g7 c7 g8 c8 g9 c9 g10 c10 g11 c11 g12 c12 hownw3 hgroww3
         have g0 := Joins.cell_of_block bG3 0
         have c0 := Joins.cell_of_block bR3 0
         have g1 := Joins.cell_of_block bG3 1
         have c1 := Joins.cell_of_block bR3 1
         have g2 := Joins.cell_of_block bG3 2
         have c2 := Joins.cell_of_block bR3 2
         have g3 := Joins.cell_of_block bG3 3
         have c3 := Joins.cell_of_block bR3 3
         have g4 := Joins.cell_of_block bG3 4
         have c4 := Joins.cell_of_block bR3 4
         have g5 := Joins.cell_of_block bG3 5
         have c5 := Joins.cell_of_block bR3 5
         have g6 := Joins.cell_of_block bG3 6
         have c6 := Joins.cell_of_block bR3 6
         have g7 := Joins.cell_of_block bG3 7
         have c7 := Joins.cell_of_block bR3 7
         have g8 := Joins.cell_of_block bG3 8
         have c8 := Joins.cell_of_block bR3 8
         have g9 := Joins.cell_of_block bG3 9
         have c9 := Joins.cell_of_block bR3 9
         have g10 := Joins.cell_of_block bG3 10
         have c10 := Joins.cell_of_block bR3 10
         have g11 := Joins.cell_of_block bG3 11
         have c11 := Joins.cell_of_block bR3 11
         have g12 := Joins.cell_of_block bG3 12
         have c12 := Joins.cell_of_block bR3 12
         simp only [gA, gZ, gS] at g0 c0 g1 c1 g2 c2 g3 c3 g4 c4 g5 c5 g6 c6 g7 c7 g8 c8 g9 c9 g10 c10 g11 c11 g12 c12
         go_wp2_with (at_builtin; go_loud (refine wpList_append_own _ rfl _ _ 30 rfl (w.heap.size + 1) 76 i0 _ 13 104 Tryz.underlying30 hi hz0' hz1' hz2' rfl (by decide) v3 _ _ rfl (World.ownsRow.alloc (unhide HO3) _) ⟨w3.heap.size, 0, none⟩ 1 1 [.int .i64 x.ky, .int .i64 x.st, .int .i64 x.en, .int .i64 x.an, .int .i64 x.asu, .int .i64 x.ale, .int .i64 x.amo, .int .i64 x.fn, .int .i64 x.fsu, .int .i64 x.fle, .int .i64 x.fmo, .int .i64 x.td, .bool x.tm] rfl rfl (cells_newOr w3 _ _ _ _ _ _ _ _ _ _ _ _ _ _) (by simp [Value.oneCell']) (by unfold maxLen; omega) (by omega) (by simp; omega) ?_); intro v5 w5 hownw5 hgroww5 hnnw5)
         have hgew5 := hide (fun b9 (e9 : (v3 : Value).ownBlock = some b9) => ownOr_geX (unhide HO3) b9 e9)
         have bR5 : w5.heap[w.heap.size]? = some (.cells #[.int .i64 r.ky, .int .i64 r.st, .int .i64 r.en, .int .i64 r.an, .int .i64 r.asu, .int .i64 r.ale, .int .i64 r.amo, .int .i64 r.fn, .int .i64 r.fsu, .int .i64 r.fle, .int .i64 r.fmo, .int .i64 r.td, .bool r.tm] 76 (0, 0)) := (hgroww5.block (w.heap.size) (by simp; omega) (fun e9 => by have := unhide hgew5 _ e9.symm; omega)).trans ((Below.heap_alloc _ _ _ (by omega)).trans bR3)
         have hb5 : Below w.heap.size w w5 := (bel_alloc hb3 _).grown hgroww5 (by have := hb3.size; simp; omega) (fun b9 e9 => by have := unhide hgew5 b9 e9; omega)
         have hz5 : wr.heap.size < w5.heap.size := by have := hgroww5.size; simp at this; omega
         clear g0 c0 g1 c1 g2 c2 g3 c3 g4 c4 g5 c5 g6 c6 g7 c7 g8 c8 g9 c9 g10 c10 g11 c11 g12 c12
         go_wp2
         refine ⟨⟨true, i + 1, (ys ++ [r]) ++ [x], by omega, rfl, by go_num, hide (ownOr_snoc hownw5), hide ?_, by simp; omega, bR5, hb5⟩, by simp [intOf]; omega⟩
         rw [unhide HQ, unhide Hdr, restP_a (unhide Hne) (aheadPl.1 (unhide Hah))]
         simp
     ·skip
      have hne0 : ¬ plO x = plO r := fun h9 => k2 (by unfold plO at h9; simp only [Prod.mk.injEq] at h9; exact h9.2.1)
      have Hne := hide hne0
      have b1 : (x.ky == r.ky) = true := by simp [k1]
      have e1 : decide (x.ky = r.ky) = true := by simp [k1]
      have b2 : (x.st == r.st) = false := by simp [k2]
      have e2 : decide (x.st = r.st) = false := by simp [k2]
      clear hne0 k1 k2
      cases d with
      | true =>
       have hyT : ys.length ≤ i + 1 := hyl
       go_wp2_with (at_builtin; go_loud (refine wpList_append_own _ rfl _ _ 30 rfl (w.heap.size + 1) 76 i0 _ 13 104 Tryz.underlying30 hi hz0' hz1' hz2' rfl (by decide) u5 _ _ rfl (World.ownsRow.alloc (unhide HO1) _) ⟨wq.heap.size, 0, none⟩ 1 1 [.int .i64 x.ky, .int .i64 x.st, .int .i64 x.en, .int .i64 x.an, .int .i64 x.asu, .int .i64 x.ale, .int .i64 x.amo, .int .i64 x.fn, .int .i64 x.fsu, .int .i64 x.fle, .int .i64 x.fmo, .int .i64 x.td, .bool x.tm] rfl rfl (cells_newOr wq _ _ _ _ _ _ _ _ _ _ _ _ _ _) (by simp [Value.oneCell']) (by unfold maxLen; omega) (by omega) (by simp; omega) ?_); intro v5 w5 hownw5 hgroww5 hnnw5)
       have hgew5 := hide (fun b9 (e9 : (u5 : Value).ownBlock = some b9) => ownOr_geX (unhide HO1) b9 e9)
       have bR5 : w5.heap[w.heap.size]? = some (.cells #[.int .i64 r.ky, .int .i64 r.st, .int .i64 r.en, .int .i64 r.an, .int .i64 r.asu, .int .i64 r.ale, .int .i64 r.amo, .int .i64 r.fn, .int .i64 r.fsu, .int .i64 r.fle, .int .i64 r.fmo, .int .i64 r.td, .bool r.tm] 76 (0, 0)) := (hgroww5.block (w.heap.size) (by simp; omega) (fun e9 => by have := unhide hgew5 _ e9.symm; omega)).trans ((Below.heap_alloc _ _ _ (by omega)).trans bR1)
       have hb5 : Below w.heap.size w w5 := (bel_alloc hb1 _).grown hgroww5 (by have := hb1.size; simp; omega) (fun b9 e9 => by have := unhide hgew5 b9 e9; omega)
       have hz5 : wr.heap.size < w5.heap.size := by have := hgroww5.size; simp at this; omega
       clear g0 c0 g1 c1 g2 c2 g3 c3 g4 c4 g5 c5 g6 c6 g7 c7 g8 c8 g9 c9 g10 c10 g11 c11 g12 c12
       go_wp2
       refine ⟨⟨true, i + 1, ys ++ [x], by omega, rfl, by go_num, hide (ownOr_snoc hownw5), hide ?_, by simp; omega, bR5, hb5⟩, by simp [intOf]; omega⟩
       rw [unhide HQ, unhide Hdr, restP_d (unhide Hne)]
       simp
      | false =>
       have hyT : ys.length ≤ i := hyl
       obtain ⟨ah, hah⟩ : ∃ ah, aheadP r.ky r.st r.en x.ky x.st x.en = ah := ⟨_, rfl⟩
       have Hah := hide hah
       clear hah
       go_wp2_with fail
       refine (l5aheadP_any r.ky r.st r.en x.ky x.st x.en _).mono ?_
       rw [unhide Hah]
       rintro e9 wl ⟨rfl, hbl⟩
       clear g0 c0 g1 c1 g2 c2 g3 c3 g4 c4 g5 c5 g6 c6 g7 c7 g8 c8 g9 c9 g10 c10 g11 c11 g12 c12
       have bG2 := (hbl.block _ (Array.getElem?_eq_some_iff.1 bG1).1).trans bG1
       have bR2 := (hbl.block _ (Array.getElem?_eq_some_iff.1 bR1).1).trans bR1
       have HO2 : Hid (OwnOr wl (w.heap.size + 1) u5 ys) := hide (own_row (unhide HO1) (grown_of0 hbl) (fun _ e9 => by cases e9))
       have hb2 : Below w.heap.size w wl := bel_trans hb1 hbl
       have hz2 : wr.heap.size < wl.heap.size := Nat.lt_of_lt_of_le hz1 hbl.size
       have g0 := Joins.cell_of_block bG2 0
       have c0 := Joins.cell_of_block bR2 0
       have g1 := Joins.cell_of_block bG2 1
       have c1 := Joins.cell_of_block bR2 1
       have g2 := Joins.cell_of_block bG2 2
       have c2 := Joins.cell_of_block bR2 2
       have g3 := Joins.cell_of_block bG2 3
       have c3 := Joins.cell_of_block bR2 3
       have g4 := Joins.cell_of_block bG2 4
       have c4 := Joins.cell_of_block bR2 4
       have g5 := Joins.cell_of_block bG2 5
       have c5 := Joins.cell_of_block bR2 5
       have g6 := Joins.cell_of_block bG2 6
       have c6 := Joins.cell_of_block bR2 6
       have g7 := Joins.cell_of_block bG2 7
       have c7 := Joins.cell_of_block bR2 7
       have g8 := Joins.cell_of_block bG2 8
       have c8 := Joins.cell_of_block bR2 8
       have g9 := Joins.cell_of_block bG2 9
       have c9 := Joins.cell_of_block bR2 9
       have g10 := Joins.cell_of_block bG2 10
       have c10 := Joins.cell_of_block bR2 10
       have g11 := Joins.cell_of_block bG2 11
       have c11 := Joins.cell_of_block bR2 11
       have g12 := Joins.cell_of_block bG2 12
       have c12 := Joins.cell_of_block bR2 12
       simp only [gA, gZ, gS] at g0 c0 g1 c1 g2 c2 g3 c3 g4 c4 g5 c5 g6 c6 g7 c7 g8 c8 g9 c9 g10 c10 g11 c11 g12 c12
       cases ah with
       | false =>
        go_wp2_with (at_builtin; go_loud (refine wpList_append_own _ rfl _ _ 30 rfl (w.heap.size + 1) 76 i0 _ 13 104 Tryz.underlying30 hi hz0' hz1' hz2' rfl (by decide) u5 _ _ rfl (World.ownsRow.alloc (unhide HO2) _) ⟨wl.heap.size, 0, none⟩ 1 1 [.int .i64 x.ky, .int .i64 x.st, .int .i64 x.en, .int .i64 x.an, .int .i64 x.asu, .int .i64 x.ale, .int .i64 x.amo, .int .i64 x.fn, .int .i64 x.fsu, .int .i64 x.fle, .int .i64 x.fmo, .int .i64 x.td, .bool x.tm] rfl rfl (cells_newOr wl _ _ _ _ _ _ _ _ _ _ _ _ _ _) (by simp [Value.oneCell']) (by unfold maxLen; omega) (by omega) (by simp; omega) ?_); intro v5 w5 hownw5 hgroww5 hnnw5)
        have hgew5 := hide (fun b9 (e9 : (u5 : Value).ownBlock = some b9) => ownOr_geX (unhide HO2) b9 e9)
        have bR5 : w5.heap[w.heap.size]? = some (.cells #[.int .i64 r.ky, .int .i64 r.st, .int .i64 r.en, .int .i64 r.an, .int .i64 r.asu, .int .i64 r.ale, .int .i64 r.amo, .int .i64 r.fn, .int .i64 r.fsu, .int .i64 r.fle, .int .i64 r.fmo, .int .i64 r.td, .bool r.tm] 76 (0, 0)) := (hgroww5.block (w.heap.size) (by simp; omega) (fun e9 => by have := unhide hgew5 _ e9.symm; omega)).trans ((Below.heap_alloc _ _ _ (by omega)).trans bR2)
        have hb5 : Below w.heap.size w w5 := (bel_alloc hb2 _).grown hgroww5 (by have := hb2.size; simp; omega) (fun b9 e9 => by have := unhide hgew5 b9 e9; omega)
        have hz5 : wr.heap.size < w5.heap.size := by have := hgroww5.size; simp at this; omega
        clear g0 c0 g1 c1 g2 c2 g3 c3 g4 c4 g5 c5 g6 c6 g7 c7 g8 c8 g9 c9 g10 c10 g11 c11 g12 c12
        go_wp2
        refine ⟨⟨false, i + 1, ys ++ [x], by omega, rfl, by go_num, hide (ownOr_snoc hownw5), hide ?_, by simp; omega, bR5, hb5⟩, by simp [intOf]; omega⟩
        rw [unhide HQ, unhide Hdr, restP_n (unhide Hne) (fun h9 => by have := aheadPl.2 h9; rw [unhide Hah] at this; cases this)]
        simp
       | true =>
        go_upto_region 10 with (at_builtin; go_loud (refine wpList_append_own _ rfl _ _ 30 rfl (w.heap.size + 1) 76 i0 _ 13 104 Tryz.underlying30 hi hz0' hz1' hz2' rfl (by decide) u5 _ _ rfl (World.ownsRow.alloc (unhide HO2) _) ⟨wl.heap.size, 0, none⟩ 1 1 [.int .i64 r.ky, .int .i64 r.st, .int .i64 r.en, .int .i64 r.an, .int .i64 r.asu, .int .i64 r.ale, .int .i64 r.amo, .int .i64 r.fn, .int .i64 r.fsu, .int .i64 r.fle, .int .i64 r.fmo, .int .i64 r.td, .bool r.tm] rfl rfl (cells_newOr wl _ _ _ _ _ _ _ _ _ _ _ _ _ _) (by simp [Value.oneCell']) (by unfold maxLen; omega) (by omega) (by simp; omega) ?_); intro v3 w3 hownw3 hgroww3 hnnw3)
        have hgew3 := hide (fun b9 (e9 : (u5 : Value).ownBlock = some b9) => ownOr_geX (unhide HO2) b9 e9)
        have bR3 : w3.heap[w.heap.size]? = some (.cells #[.int .i64 r.ky, .int .i64 r.st, .int .i64 r.en, .int .i64 r.an, .int .i64 r.asu, .int .i64 r.ale, .int .i64 r.amo, .int .i64 r.fn, .int .i64 r.fsu, .int .i64 r.fle, .int .i64 r.fmo, .int .i64 r.td, .bool r.tm] 76 (0, 0)) := (hgroww3.block (w.heap.size) (by simp; omega) (fun e9 => by have := unhide hgew3 _ e9.symm; omega)).trans ((Below.heap_alloc _ _ _ (by omega)).trans bR2)
        have bG3 : w3.heap[wr.heap.size]? = some (.cells #[.int .i64 x.ky, .int .i64 x.st, .int .i64 x.en, .int .i64 x.an, .int .i64 x.asu, .int .i64 x.ale, .int .i64 x.amo, .int .i64 x.fn, .int .i64 x.fsu, .int .i64 x.fle, .int .i64 x.fmo, .int .i64 x.td, .bool x.tm] 76 (0, 0)) := (hgroww3.block (wr.heap.size) (by simp; omega) (fun e9 => by have := unhide hlt9 _ e9.symm; omega)).trans ((Below.heap_alloc _ _ _ (by omega)).trans bG2)
        have hb3 : Below w.heap.size w w3 := (bel_alloc hb2 _).grown hgroww3 (by have := hb2.size; simp; omega) (fun b9 e9 => by have := unhide hgew3 b9 e9; omega)
        have hz3 : wr.heap.size < w3.heap.size := by have := hgroww3.size; simp at this; omega
        have HO3 : Hid (OwnOr w3 (w.heap.size + 1) v3 (ys ++ [r])) := hide (ownOr_snoc hownw3)
        have hyl3 : (ys ++ [r]).length ≤ i + 2 := by simp; omega
        clear g0 c0 g1 c1 g2 c2 g3 c3 g4 c4 g5 c5 g6 c6 g7 c7 g8 c8 g9 c9 g10 c10 g11 c11 g12 c12 hownw3 hgroww3
        have g0 := Joins.cell_of_block bG3 0
        have c0 := Joins.cell_of_block bR3 0
        have g1 := Joins.cell_of_block bG3 1
        have c1 := Joins.cell_of_block bR3 1
        have g2 := Joins.cell_of_block bG3 2
        have c2 := Joins.cell_of_block bR3 2
        have g3 := Joins.cell_of_block bG3 3
        have c3 := Joins.cell_of_block bR3 3
        have g4 := Joins.cell_of_block bG3 4
        have c4 := Joins.cell_of_block bR3 4
        have g5 := Joins.cell_of_block bG3 5
        have c5 := Joins.cell_of_block bR3 5
        have g6 := Joins.cell_of_block bG3 6
        have c6 := Joins.cell_of_block bR3 6
        have g7 := Joins.cell_of_block bG3 7
        have c7 := Joins.cell_of_block bR3 7
        have g8 := Joins.cell_of_block bG3 8
        have c8 := Joins.cell_of_block bR3 8
        have g9 := Joins.cell_of_block bG3 9
        have c9 := Joins.cell_of_block bR3 9
        have g10 := Joins.cell_of_block bG3 10
        have c10 := Joins.cell_of_block bR3 10
        have g11 := Joins.cell_of_block bG3 11
        have c11 := Joins.cell_of_block bR3 11
        have g12 := Joins.cell_of_block bG3 12
        have c12 := Joins.cell_of_block bR3 12
        simp only [gA, gZ, gS] at g0 c0 g1 c1 g2 c2 g3 c3 g4 c4 g5 c5 g6 c6 g7 c7 g8 c8 g9 c9 g10 c10 g11 c11 g12 c12
        go_wp2_with (at_builtin; go_loud (refine wpList_append_own _ rfl _ _ 30 rfl (w.heap.size + 1) 76 i0 _ 13 104 Tryz.underlying30 hi hz0' hz1' hz2' rfl (by decide) v3 _ _ rfl (World.ownsRow.alloc (unhide HO3) _) ⟨w3.heap.size, 0, none⟩ 1 1 [.int .i64 x.ky, .int .i64 x.st, .int .i64 x.en, .int .i64 x.an, .int .i64 x.asu, .int .i64 x.ale, .int .i64 x.amo, .int .i64 x.fn, .int .i64 x.fsu, .int .i64 x.fle, .int .i64 x.fmo, .int .i64 x.td, .bool x.tm] rfl rfl (cells_newOr w3 _ _ _ _ _ _ _ _ _ _ _ _ _ _) (by simp [Value.oneCell']) (by unfold maxLen; omega) (by omega) (by simp; omega) ?_); intro v5 w5 hownw5 hgroww5 hnnw5)
        have hgew5 := hide (fun b9 (e9 : (v3 : Value).ownBlock = some b9) => ownOr_geX (unhide HO3) b9 e9)
        have bR5 : w5.heap[w.heap.size]? = some (.cells #[.int .i64 r.ky, .int .i64 r.st, .int .i64 r.en, .int .i64 r.an, .int .i64 r.asu, .int .i64 r.ale, .int .i64 r.amo, .int .i64 r.fn, .int .i64 r.fsu, .int .i64 r.fle, .int .i64 r.fmo, .int .i64 r.td, .bool r.tm] 76 (0, 0)) := (hgroww5.block (w.heap.size) (by simp; omega) (fun e9 => by have := unhide hgew5 _ e9.symm; omega)).trans ((Below.heap_alloc _ _ _ (by omega)).trans bR3)
        have hb5 : Below w.heap.size w w5 := (bel_alloc hb3 _).grown hgroww5 (by have := hb3.size; simp; omega) (fun b9 e9 => by have := unhide hgew5 b9 e9; omega)
        have hz5 : wr.heap.size < w5.heap.size := by have := hgroww5.size; simp at this; omega
        clear g0 c0 g1 c1 g2 c2 g3 c3 g4 c4 g5 c5 g6 c6 g7 c7 g8 c8 g9 c9 g10 c10 g11 c11 g12 c12
        go_wp2
        refine ⟨⟨true, i + 1, (ys ++ [r]) ++ [x], by omega, rfl, by go_num, hide (ownOr_snoc hownw5), hide ?_, by simp; omega, bR5, hb5⟩, by simp [intOf]; omega⟩
        rw [unhide HQ, unhide Hdr, restP_a (unhide Hne) (aheadPl.1 (unhide Hah))]
        simp
    ·skip
     have hne0 : ¬ plO x = plO r := fun h9 => k1 (by unfold plO at h9; simp only [Prod.mk.injEq] at h9; exact h9.1)
     have Hne := hide hne0
     have b1 : (x.ky == r.ky) = false := by simp [k1]
     have e1 : decide (x.ky = r.ky) = false := by simp [k1]
     clear hne0 k1
     cases d with
     | true =>
      have hyT : ys.length ≤ i + 1 := hyl
      go_wp2_with (at_builtin; go_loud (refine wpList_append_own _ rfl _ _ 30 rfl (w.heap.size + 1) 76 i0 _ 13 104 Tryz.underlying30 hi hz0' hz1' hz2' rfl (by decide) u5 _ _ rfl (World.ownsRow.alloc (unhide HO1) _) ⟨wq.heap.size, 0, none⟩ 1 1 [.int .i64 x.ky, .int .i64 x.st, .int .i64 x.en, .int .i64 x.an, .int .i64 x.asu, .int .i64 x.ale, .int .i64 x.amo, .int .i64 x.fn, .int .i64 x.fsu, .int .i64 x.fle, .int .i64 x.fmo, .int .i64 x.td, .bool x.tm] rfl rfl (cells_newOr wq _ _ _ _ _ _ _ _ _ _ _ _ _ _) (by simp [Value.oneCell']) (by unfold maxLen; omega) (by omega) (by simp; omega) ?_); intro v5 w5 hownw5 hgroww5 hnnw5)
      have hgew5 := hide (fun b9 (e9 : (u5 : Value).ownBlock = some b9) => ownOr_geX (unhide HO1) b9 e9)
      have bR5 : w5.heap[w.heap.size]? = some (.cells #[.int .i64 r.ky, .int .i64 r.st, .int .i64 r.en, .int .i64 r.an, .int .i64 r.asu, .int .i64 r.ale, .int .i64 r.amo, .int .i64 r.fn, .int .i64 r.fsu, .int .i64 r.fle, .int .i64 r.fmo, .int .i64 r.td, .bool r.tm] 76 (0, 0)) := (hgroww5.block (w.heap.size) (by simp; omega) (fun e9 => by have := unhide hgew5 _ e9.symm; omega)).trans ((Below.heap_alloc _ _ _ (by omega)).trans bR1)
      have hb5 : Below w.heap.size w w5 := (bel_alloc hb1 _).grown hgroww5 (by have := hb1.size; simp; omega) (fun b9 e9 => by have := unhide hgew5 b9 e9; omega)
      have hz5 : wr.heap.size < w5.heap.size := by have := hgroww5.size; simp at this; omega
      clear g0 c0 g1 c1 g2 c2 g3 c3 g4 c4 g5 c5 g6 c6 g7 c7 g8 c8 g9 c9 g10 c10 g11 c11 g12 c12
      go_wp2
      refine ⟨⟨true, i + 1, ys ++ [x], by omega, rfl, by go_num, hide (ownOr_snoc hownw5), hide ?_, by simp; omega, bR5, hb5⟩, by simp [intOf]; omega⟩
      rw [unhide HQ, unhide Hdr, restP_d (unhide Hne)]
      simp
     | false =>
      have hyT : ys.length ≤ i := hyl
      obtain ⟨ah, hah⟩ : ∃ ah, aheadP r.ky r.st r.en x.ky x.st x.en = ah := ⟨_, rfl⟩
      have Hah := hide hah
      clear hah
      go_wp2_with fail
      refine (l5aheadP_any r.ky r.st r.en x.ky x.st x.en _).mono ?_
      rw [unhide Hah]
      rintro e9 wl ⟨rfl, hbl⟩
      clear g0 c0 g1 c1 g2 c2 g3 c3 g4 c4 g5 c5 g6 c6 g7 c7 g8 c8 g9 c9 g10 c10 g11 c11 g12 c12
      have bG2 := (hbl.block _ (Array.getElem?_eq_some_iff.1 bG1).1).trans bG1
      have bR2 := (hbl.block _ (Array.getElem?_eq_some_iff.1 bR1).1).trans bR1
      have HO2 : Hid (OwnOr wl (w.heap.size + 1) u5 ys) := hide (own_row (unhide HO1) (grown_of0 hbl) (fun _ e9 => by cases e9))
      have hb2 : Below w.heap.size w wl := bel_trans hb1 hbl
      have hz2 : wr.heap.size < wl.heap.size := Nat.lt_of_lt_of_le hz1 hbl.size
      have g0 := Joins.cell_of_block bG2 0
      have c0 := Joins.cell_of_block bR2 0
      have g1 := Joins.cell_of_block bG2 1
      have c1 := Joins.cell_of_block bR2 1
      have g2 := Joins.cell_of_block bG2 2
      have c2 := Joins.cell_of_block bR2 2
      have g3 := Joins.cell_of_block bG2 3
      have c3 := Joins.cell_of_block bR2 3
      have g4 := Joins.cell_of_block bG2 4
      have c4 := Joins.cell_of_block bR2 4
      have g5 := Joins.cell_of_block bG2 5
      have c5 := Joins.cell_of_block bR2 5
      have g6 := Joins.cell_of_block bG2 6
      have c6 := Joins.cell_of_block bR2 6
      have g7 := Joins.cell_of_block bG2 7
      have c7 := Joins.cell_of_block bR2 7
      have g8 := Joins.cell_of_block bG2 8
      have c8 := Joins.cell_of_block bR2 8
      have g9 := Joins.cell_of_block bG2 9
      have c9 := Joins.cell_of_block bR2 9
      have g10 := Joins.cell_of_block bG2 10
      have c10 := Joins.cell_of_block bR2 10
      have g11 := Joins.cell_of_block bG2 11
      have c11 := Joins.cell_of_block bR2 11
      have g12 := Joins.cell_of_block bG2 12
      have c12 := Joins.cell_of_block bR2 12
      simp only [gA, gZ, gS] at g0 c0 g1 c1 g2 c2 g3 c3 g4 c4 g5 c5 g6 c6 g7 c7 g8 c8 g9 c9 g10 c10 g11 c11 g12 c12
      cases ah with
      | false =>
       go_wp2_with (at_builtin; go_loud (refine wpList_append_own _ rfl _ _ 30 rfl (w.heap.size + 1) 76 i0 _ 13 104 Tryz.underlying30 hi hz0' hz1' hz2' rfl (by decide) u5 _ _ rfl (World.ownsRow.alloc (unhide HO2) _) ⟨wl.heap.size, 0, none⟩ 1 1 [.int .i64 x.ky, .int .i64 x.st, .int .i64 x.en, .int .i64 x.an, .int .i64 x.asu, .int .i64 x.ale, .int .i64 x.amo, .int .i64 x.fn, .int .i64 x.fsu, .int .i64 x.fle, .int .i64 x.fmo, .int .i64 x.td, .bool x.tm] rfl rfl (cells_newOr wl _ _ _ _ _ _ _ _ _ _ _ _ _ _) (by simp [Value.oneCell']) (by unfold maxLen; omega) (by omega) (by simp; omega) ?_); intro v5 w5 hownw5 hgroww5 hnnw5)
       have hgew5 := hide (fun b9 (e9 : (u5 : Value).ownBlock = some b9) => ownOr_geX (unhide HO2) b9 e9)
       have bR5 : w5.heap[w.heap.size]? = some (.cells #[.int .i64 r.ky, .int .i64 r.st, .int .i64 r.en, .int .i64 r.an, .int .i64 r.asu, .int .i64 r.ale, .int .i64 r.amo, .int .i64 r.fn, .int .i64 r.fsu, .int .i64 r.fle, .int .i64 r.fmo, .int .i64 r.td, .bool r.tm] 76 (0, 0)) := (hgroww5.block (w.heap.size) (by simp; omega) (fun e9 => by have := unhide hgew5 _ e9.symm; omega)).trans ((Below.heap_alloc _ _ _ (by omega)).trans bR2)
       have hb5 : Below w.heap.size w w5 := (bel_alloc hb2 _).grown hgroww5 (by have := hb2.size; simp; omega) (fun b9 e9 => by have := unhide hgew5 b9 e9; omega)
       have hz5 : wr.heap.size < w5.heap.size := by have := hgroww5.size; simp at this; omega
       clear g0 c0 g1 c1 g2 c2 g3 c3 g4 c4 g5 c5 g6 c6 g7 c7 g8 c8 g9 c9 g10 c10 g11 c11 g12 c12
       go_wp2
       refine ⟨⟨false, i + 1, ys ++ [x], by omega, rfl, by go_num, hide (ownOr_snoc hownw5), hide ?_, by simp; omega, bR5, hb5⟩, by simp [intOf]; omega⟩
       rw [unhide HQ, unhide Hdr, restP_n (unhide Hne) (fun h9 => by have := aheadPl.2 h9; rw [unhide Hah] at this; cases this)]
       simp
      | true =>
       go_upto_region 10 with (at_builtin; go_loud (refine wpList_append_own _ rfl _ _ 30 rfl (w.heap.size + 1) 76 i0 _ 13 104 Tryz.underlying30 hi hz0' hz1' hz2' rfl (by decide) u5 _ _ rfl (World.ownsRow.alloc (unhide HO2) _) ⟨wl.heap.size, 0, none⟩ 1 1 [.int .i64 r.ky, .int .i64 r.st, .int .i64 r.en, .int .i64 r.an, .int .i64 r.asu, .int .i64 r.ale, .int .i64 r.amo, .int .i64 r.fn, .int .i64 r.fsu, .int .i64 r.fle, .int .i64 r.fmo, .int .i64 r.td, .bool r.tm] rfl rfl (cells_newOr wl _ _ _ _ _ _ _ _ _ _ _ _ _ _) (by simp [Value.oneCell']) (by unfold maxLen; omega) (by omega) (by simp; omega) ?_); intro v3 w3 hownw3 hgroww3 hnnw3)
       have hgew3 := hide (fun b9 (e9 : (u5 : Value).ownBlock = some b9) => ownOr_geX (unhide HO2) b9 e9)
       have bR3 : w3.heap[w.heap.size]? = some (.cells #[.int .i64 r.ky, .int .i64 r.st, .int .i64 r.en, .int .i64 r.an, .int .i64 r.asu, .int .i64 r.ale, .int .i64 r.amo, .int .i64 r.fn, .int .i64 r.fsu, .int .i64 r.fle, .int .i64 r.fmo, .int .i64 r.td, .bool r.tm] 76 (0, 0)) := (hgroww3.block (w.heap.size) (by simp; omega) (fun e9 => by have := unhide hgew3 _ e9.symm; omega)).trans ((Below.heap_alloc _ _ _ (by omega)).trans bR2)
       have bG3 : w3.heap[wr.heap.size]? = some (.cells #[.int .i64 x.ky, .int .i64 x.st, .int .i64 x.en, .int .i64 x.an, .int .i64 x.asu, .int .i64 x.ale, .int .i64 x.amo, .int .i64 x.fn, .int .i64 x.fsu, .int .i64 x.fle, .int .i64 x.fmo, .int .i64 x.td, .bool x.tm] 76 (0, 0)) := (hgroww3.block (wr.heap.size) (by simp; omega) (fun e9 => by have := unhide hlt9 _ e9.symm; omega)).trans ((Below.heap_alloc _ _ _ (by omega)).trans bG2)
       have hb3 : Below w.heap.size w w3 := (bel_alloc hb2 _).grown hgroww3 (by have := hb2.size; simp; omega) (fun b9 e9 => by have := unhide hgew3 b9 e9; omega)
       have hz3 : wr.heap.size < w3.heap.size := by have := hgroww3.size; simp at this; omega
       have HO3 : Hid (OwnOr w3 (w.heap.size + 1) v3 (ys ++ [r])) := hide (ownOr_snoc hownw3)
       have hyl3 : (ys ++ [r]).length ≤ i + 2 := by simp; omega
       clear g0 c0 g1 c1 g2 c2 g3 c3 g4 c4 g5 c5 g6 c6 g7 c7 g8 c8 g9 c9 g10 c10 g11 c11 g12 c12 hownw3 hgroww3
       have g0 := Joins.cell_of_block bG3 0
       have c0 := Joins.cell_of_block bR3 0
       have g1 := Joins.cell_of_block bG3 1
       have c1 := Joins.cell_of_block bR3 1
       have g2 := Joins.cell_of_block bG3 2
       have c2 := Joins.cell_of_block bR3 2
       have g3 := Joins.cell_of_block bG3 3
       have c3 := Joins.cell_of_block bR3 3
       have g4 := Joins.cell_of_block bG3 4
       have c4 := Joins.cell_of_block bR3 4
       have g5 := Joins.cell_of_block bG3 5
       have c5 := Joins.cell_of_block bR3 5
       have g6 := Joins.cell_of_block bG3 6
       have c6 := Joins.cell_of_block bR3 6
       have g7 := Joins.cell_of_block bG3 7
       have c7 := Joins.cell_of_block bR3 7
       have g8 := Joins.cell_of_block bG3 8
       have c8 := Joins.cell_of_block bR3 8
       have g9 := Joins.cell_of_block bG3 9
       have c9 := Joins.cell_of_block bR3 9
       have g10 := Joins.cell_of_block bG3 10
       have c10 := Joins.cell_of_block bR3 10
       have g11 := Joins.cell_of_block bG3 11
       have c11 := Joins.cell_of_block bR3 11
       have g12 := Joins.cell_of_block bG3 12
       have c12 := Joins.cell_of_block bR3 12
       simp only [gA, gZ, gS] at g0 c0 g1 c1 g2 c2 g3 c3 g4 c4 g5 c5 g6 c6 g7 c7 g8 c8 g9 c9 g10 c10 g11 c11 g12 c12
       go_wp2_with (at_builtin; go_loud (refine wpList_append_own _ rfl _ _ 30 rfl (w.heap.size + 1) 76 i0 _ 13 104 Tryz.underlying30 hi hz0' hz1' hz2' rfl (by decide) v3 _ _ rfl (World.ownsRow.alloc (unhide HO3) _) ⟨w3.heap.size, 0, none⟩ 1 1 [.int .i64 x.ky, .int .i64 x.st, .int .i64 x.en, .int .i64 x.an, .int .i64 x.asu, .int .i64 x.ale, .int .i64 x.amo, .int .i64 x.fn, .int .i64 x.fsu, .int .i64 x.fle, .int .i64 x.fmo, .int .i64 x.td, .bool x.tm] rfl rfl (cells_newOr w3 _ _ _ _ _ _ _ _ _ _ _ _ _ _) (by simp [Value.oneCell']) (by unfold maxLen; omega) (by omega) (by simp; omega) ?_); intro v5 w5 hownw5 hgroww5 hnnw5)
       have hgew5 := hide (fun b9 (e9 : (v3 : Value).ownBlock = some b9) => ownOr_geX (unhide HO3) b9 e9)
       have bR5 : w5.heap[w.heap.size]? = some (.cells #[.int .i64 r.ky, .int .i64 r.st, .int .i64 r.en, .int .i64 r.an, .int .i64 r.asu, .int .i64 r.ale, .int .i64 r.amo, .int .i64 r.fn, .int .i64 r.fsu, .int .i64 r.fle, .int .i64 r.fmo, .int .i64 r.td, .bool r.tm] 76 (0, 0)) := (hgroww5.block (w.heap.size) (by simp; omega) (fun e9 => by have := unhide hgew5 _ e9.symm; omega)).trans ((Below.heap_alloc _ _ _ (by omega)).trans bR3)
       have hb5 : Below w.heap.size w w5 := (bel_alloc hb3 _).grown hgroww5 (by have := hb3.size; simp; omega) (fun b9 e9 => by have := unhide hgew5 b9 e9; omega)
       have hz5 : wr.heap.size < w5.heap.size := by have := hgroww5.size; simp at this; omega
       clear g0 c0 g1 c1 g2 c2 g3 c3 g4 c4 g5 c5 g6 c6 g7 c7 g8 c8 g9 c9 g10 c10 g11 c11 g12 c12
       go_wp2
       refine ⟨⟨true, i + 1, (ys ++ [r]) ++ [x], by omega, rfl, by go_num, hide (ownOr_snoc hownw5), hide ?_, by simp; omega, bR5, hb5⟩, by simp [intOf]; omega⟩
       rw [unhide HQ, unhide Hdr, restP_a (unhide Hne) (aheadPl.1 (unhide Hah))]
       simp
  ·obtain rfl : i = len := by omega
   have HD0 : Hid (putO r xs = ys ++ restP r d []) := by have h9 := unhide HQ; rw [List.drop_of_length_le (by omega)] at h9; exact hide h9
   cases d with
   | true =>
    go_wp2
    go_ret
    refine ⟨_, rfl, ?_, hbw⟩
    rw [unhide HD0]
    show OwnOr wr w.heap.size _ (ys ++ [])
    rw [List.append_nil]
    exact World.ownsRow.mono (unhide HO) (by omega)
   | false =>
    have hyT : ys.length ≤ i := hyl
    have c0 := Joins.cell_of_block bR 0
    have c1 := Joins.cell_of_block bR 1
    have c2 := Joins.cell_of_block bR 2
    have c3 := Joins.cell_of_block bR 3
    have c4 := Joins.cell_of_block bR 4
    have c5 := Joins.cell_of_block bR 5
    have c6 := Joins.cell_of_block bR 6
    have c7 := Joins.cell_of_block bR 7
    have c8 := Joins.cell_of_block bR 8
    have c9 := Joins.cell_of_block bR 9
    have c10 := Joins.cell_of_block bR 10
    have c11 := Joins.cell_of_block bR 11
    have c12 := Joins.cell_of_block bR 12
    simp only [gA, gZ, gS] at c0 c1 c2 c3 c4 c5 c6 c7 c8 c9 c10 c11 c12
    have hgeE := hide (fun b9 (e9 : u5.ownBlock = some b9) => ownOr_geX (unhide HO) b9 e9)
    go_wp2_with (at_builtin; go_loud (refine wpList_append_own _ rfl _ _ 30 rfl (w.heap.size + 1) 76 i0 _ 13 104 Tryz.underlying30 hi hz0' hz1' hz2' rfl (by decide) u5 _ _ rfl (World.ownsRow.alloc (unhide HO) _) ⟨wr.heap.size, 0, none⟩ 1 1 [.int .i64 r.ky, .int .i64 r.st, .int .i64 r.en, .int .i64 r.an, .int .i64 r.asu, .int .i64 r.ale, .int .i64 r.amo, .int .i64 r.fn, .int .i64 r.fsu, .int .i64 r.fle, .int .i64 r.fmo, .int .i64 r.td, .bool r.tm] rfl rfl (cells_newOr wr _ _ _ _ _ _ _ _ _ _ _ _ _ _) (by simp [Value.oneCell']) (by unfold maxLen; omega) (by omega) (by simp; omega) ?_); intro v5 w5 hownw5 hgroww5 hnnw5)
    have hb5 : Below w.heap.size w w5 := (bel_alloc hbw _).grown hgroww5 (by have := hbw.size; simp; omega) (fun b9 e9 => by have := unhide hgeE b9 e9; omega)
    go_ret
    refine ⟨_, rfl, ?_, hb5⟩
    rw [unhide HD0]
    exact World.ownsRow.mono (ownOr_snoc hownw5) (by omega)
end Go.Proofs.YtflignpbboiahaaGreat
