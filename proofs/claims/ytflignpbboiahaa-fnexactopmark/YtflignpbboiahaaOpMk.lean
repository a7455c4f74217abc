/- Proved here: an operator is told a mark, in the program. -/
import Derived.Test.YtflignpbboiahaaOpMkM
import Derived.Test.YtflignpbboiahaaOpOkL
namespace Go.Proofs.Ytflignpbboiahaa
open Go.ChangeShapes Go.WideShapes Go.ChangeAt Go.RowKit Go.Shelf Go.Maps
set_option linter.unusedVariables false

set_option linter.unusedSimpArgs false
theorem own_monoX {W : World} {B B' size n : Nat} {e : TypeId} {v : Value} {ys : List Value} (h : W.ownsRow B e size v n ys) (hB : B' ≤ B) : W.ownsRow B' e size v n ys := by
  rcases h with ⟨hl, h | ⟨g, cap, cur, rfl, hg, r⟩⟩
  · exact ⟨hl, Or.inl h⟩
  · exact ⟨hl, Or.inr ⟨g, cap, cur, rfl, by omega, r⟩⟩
set_option maxRecDepth 100000 in
set_option maxHeartbeats 8000000 in
theorem implmark_any (s t k z q l e : Int) (b : Bool) (v r m : Int) (a : Option Addr) (len cap : Nat) (xs : List OrR) (mark : Int) (w : World) (h : OrRs w a len xs) : Calls Try.prog 8 #[.agg #[.int .i64 s, .int .i64 t, .int .i64 k, .int .i64 z, .int .i64 q, .int .i64 l, .int .i64 e, .bool b, .int .i64 v, .int .i64 r], .agg #[.int .i64 m, .slice a len cap], .int .i64 mark] w fun e' w' => ∃ v1 v2, e' = .returned (.tuple #[.agg #[.int .i64 (markF s t k z q l e b v r m xs mark).1, v1], v2]) ∧ OwnOr w' w.heap.size v1 (markF s t k z q l e b v r m xs mark).2.1 ∧ OwnPn w' w.heap.size v2 (markF s t k z q l e b v r m xs mark).2.2 ∧ Below w.heap.size w w' := by
  have hxl := h.1
  have hbE : Below w.heap.size w (((w.alloc (.cells #[.int .i64 s, .int .i64 t, .int .i64 k, .int .i64 z, .int .i64 q, .int .i64 l, .int .i64 e, .bool b, .int .i64 v, .int .i64 r] 34)).alloc (.cells #[.int .i64 m, .slice a len cap] 30)).alloc (.cells #[.int .i64 0, .slice none 0 0] 30)) := bel_alloc (bel_alloc (bel_one _ _) _) _
  have HE := hide (h.below hbE)
  have bRE : (((w.alloc (.cells #[.int .i64 s, .int .i64 t, .int .i64 k, .int .i64 z, .int .i64 q, .int .i64 l, .int .i64 e, .bool b, .int .i64 v, .int .i64 r] 34)).alloc (.cells #[.int .i64 m, .slice a len cap] 30)).alloc (.cells #[.int .i64 0, .slice none 0 0] 30)).heap[w.heap.size + 1 + 1]? = some (.cells #[.int .i64 0, .slice none 0 0] 30 (0, 0)) := by
    have h9 := World.alloc_heap_new ((w.alloc (.cells #[.int .i64 s, .int .i64 t, .int .i64 k, .int .i64 z, .int .i64 q, .int .i64 l, .int .i64 e, .bool b, .int .i64 v, .int .i64 r] 34)).alloc (.cells #[.int .i64 m, .slice a len cap] 30)) (.cells #[.int .i64 0, .slice none 0 0] 30)
    rw [World.size_alloc, World.size_alloc] at h9
    exact h9
  obtain ⟨ob, hob⟩ : ∃ ob, okOp s t k z q l e v r m xs = ob := ⟨_, rfl⟩
  have HOB := hide hob
  go_enter Try.func8, Try.ntmps8
  go_wp2_with fail
  refine (implopok_eq s t k z q l e b v r m _ _ _ xs _ (unhide HE) HOB).mono ?_
  rintro e' w1 ⟨rfl, hb1⟩
  have hz1 : w.heap.size + 1 + 1 < w1.heap.size := by have := hb1.size; simp at this; omega
  have bR1 := (hb1.block (w.heap.size + 1 + 1) (by simp)).trans bRE
  have hbw1 : Below w.heap.size w w1 := bel_trans hbE hb1
  have H1 := hide ((unhide HE).below hb1)
  have j0 : w1.heap[w.heap.size]? = some (.cells #[.int .i64 s, .int .i64 t, .int .i64 k, .int .i64 z, .int .i64 q, .int .i64 l, .int .i64 e, .bool b, .int .i64 v, .int .i64 r] 34 (0, 0)) := (hb1.block w.heap.size (by simp; omega)).trans ((Below.heap_alloc _ _ _ (by simp; omega)).trans ((Below.heap_alloc _ _ _ (by simp)).trans (World.alloc_heap_new w _)))
  have j1 : w1.heap[w.heap.size + 1]? = some (.cells #[.int .i64 m, .slice a len cap] 30 (0, 0)) := (hb1.block (w.heap.size + 1) (by simp)).trans ((Below.heap_alloc _ _ _ (by simp)).trans (by
    have h9 := World.alloc_heap_new (w.alloc (.cells #[.int .i64 s, .int .i64 t, .int .i64 k, .int .i64 z, .int .i64 q, .int .i64 l, .int .i64 e, .bool b, .int .i64 v, .int .i64 r] 34)) (.cells #[.int .i64 m, .slice a len cap] 30)
    rw [World.size_alloc] at h9
    exact h9))
  have rc0 : w1.cell? ⟨w.heap.size + 1 + 1, 0, none⟩ = some (.int .i64 0) := Joins.cell_of_block bR1 0
  have rc1 : w1.cell? ⟨w.heap.size + 1 + 1, 1, none⟩ = some (.slice none 0 0) := Joins.cell_of_block bR1 1
  have rf0 : w1.frozen? ⟨w.heap.size + 1 + 1, 0, none⟩ = false := by simp [World.frozen?, bR1]
  have rf1 : w1.frozen? ⟨w.heap.size + 1 + 1, 1, none⟩ = false := by simp [World.frozen?, bR1]
  clear HE hbE hb1 hob
  have hnone : (okOp s t k z q l e v r m xs && inB mark 0 1000) = false → ∀ W : World, Below w.heap.size w W → ∃ v1 v2, (Ending.returned (.tuple #[.agg #[.int .i64 0, .slice none 0 0], .slice none 0 0])) = .returned (.tuple #[.agg #[.int .i64 (markF s t k z q l e b v r m xs mark).1, v1], v2]) ∧ OwnOr W w.heap.size v1 (markF s t k z q l e b v r m xs mark).2.1 ∧ OwnPn W w.heap.size v2 (markF s t k z q l e b v r m xs mark).2.2 ∧ Below w.heap.size w W := by
    intro h9 W hW
    have e9 : markF s t k z q l e b v r m xs mark = (0, [], []) := by unfold markF; rw [h9]; rfl
    rw [e9]
    exact ⟨_, _, rfl, World.ownsRow_nil _ _ _ _, World.ownsRow_nil _ _ _ _, hW⟩
  cases ob with
  | false =>
    have hno := hide (hnone (by rw [unhide HOB]; rfl))
    clear hnone
    go_wp2
    refine bodyPost_ret (v := .tuple #[.agg #[.int .i64 0, .slice none 0 0], .slice none 0 0]) (by simp (maxDischargeDepth := 9) [results, Try.results8, go_sem, *]) rfl (unhide hno _ ?_)
    exact bel_set (bel_set hbw1 (by simp; omega) _) (by simp; omega) _
  | true =>
    obtain ⟨ib, hib⟩ : ∃ ib, inB mark 0 1000 = ib := ⟨_, rfl⟩
    have HIB := hide hib
    have hwi := within_any mark 0 1000 w1
    rw [hib] at hwi
    have Hwi := hide hwi
    clear hib hwi
    go_wp2_with fail
    refine (unhide Hwi).mono ?_
    rintro e' w1x ⟨rfl, h1x⟩
    have h1y := h1x.symm
    clear h1x
    subst h1y
    cases ib with
    | false =>
      have hno := hide (hnone (by rw [unhide HOB, unhide HIB]; rfl))
      clear hnone
      go_wp2
      refine bodyPost_ret (v := .tuple #[.agg #[.int .i64 0, .slice none 0 0], .slice none 0 0]) (by simp (maxDischargeDepth := 9) [results, Try.results8, go_sem, *]) rfl (unhide hno _ ?_)
      exact bel_set (bel_set hbw1 (by simp; omega) _) (by simp; omega) _
    | true =>
      clear hnone Hwi
      obtain ⟨hx3, hl, hmb, hokx, hrs⟩ := okOp_at (unhide HOB)
      have p0 := Joins.cell_of_block j0 0
      have p1 := Joins.cell_of_block j0 1
      have p2 := Joins.cell_of_block j0 2
      have p3 := Joins.cell_of_block j0 3
      have p4 := Joins.cell_of_block j0 4
      have p5 := Joins.cell_of_block j0 5
      have p6 := Joins.cell_of_block j0 6
      have p7 := Joins.cell_of_block j0 7
      have p8 := Joins.cell_of_block j0 8
      have p9 := Joins.cell_of_block j0 9
      have s0 := Joins.cell_of_block j1 0
      have s1 := Joins.cell_of_block j1 1
      simp only [List.getElem?_toArray, List.getElem?_cons_zero, List.getElem?_cons_succ] at p0 p1 p2 p3 p4 p5 p6 p7 p8 p9 s0 s1
      go_wp2_with fail
      refine (operof_any s t k z q l e b v r m _ _ _ xs _ (unhide H1) (by omega) (fun x hx => ok_ok3 (hokx x hx)) hrs).mono ?_
      rintro e' w2 ⟨es, rfl, hE, hR2, bO2, hb2⟩
      have hesl : es.length = len := by have := congrArg List.length hE; rw [List.length_map] at this; omega
      have hex : ∀ e9 ∈ es, e9.2.okB l m = true := fun e9 he => hokx _ (by rw [← hE]; exact List.mem_map.2 ⟨e9, he, rfl⟩)
      have hrise : RiseE es := by unfold RiseE; rw [← hE] at hrs; exact (List.pairwise_map (f := fun e : Ent => e.2) (R := fun x y => ltPl (plO x) (plO y))).1 hrs
      have hMF := impl_mark s t k z q l e b v r m (unhide HOB) (unhide HIB) hE
      clear p0 p1 p2 p3 p4 p5 p6 p7 p8 p9 s0 s1 j0 j1
      unfold opV at bO2
      obtain ⟨Bo, hBo⟩ : ∃ Bo, w1.heap.size + 1 + 1 + 1 = Bo := ⟨_, rfl⟩
      obtain ⟨mb, hmbe⟩ : ∃ mb, w1.heap.size + 1 + 1 = mb := ⟨_, rfl⟩
      rw [hBo, hmbe] at bO2
      rw [hmbe] at hR2
      rw [hBo]
      have hP2 : OwnPn w2 w1.heap.size (.slice none 0 0) [] := World.ownsRow_nil _ _ _ _
      go_wp2_with fail
      refine (pass_any Bo w1.heap.size len s t k z q l e b v r m mb _ _ [] es mark w2 bO2 (by omega) hb2.size (by omega) hR2 hP2 hl hrise (fun e9 he => ok_ok3 (hex e9 he)) (fun e9 he => by have := (okB_all (hex e9 he)).2.1; omega) (fun e9 he => by have := (okB_all (hex e9 he)).2.2.2.1; omega) (by omega) (by simp) (by omega)).mono ?_
      rintro e' w3 ⟨rfl, pv', bO3, hR3, hP3, hb3⟩
      rw [List.nil_append] at hP3
      obtain ⟨mm, hmm⟩ : ∃ mm, max m mark = mm := ⟨_, rfl⟩
      rw [hmm] at bO3 hR3 hP3 hMF
      have hri3 : RiseE (sEs l mm (gEs mm es)) := List.Pairwise.sublist List.filter_sublist (gEs_rise hrise)
      have hok3' : ∀ e9 ∈ sEs l mm (gEs mm es), ok3 (plO e9.2) := fun e9 he => by
        obtain ⟨x, hx, _, h9, _⟩ := gEs_mem (List.mem_filter.1 he).1
        rw [h9]
        exact ok_ok3 (hex x hx)
      have hbw3 : Below w1.heap.size w1 w3 := hb2.trans hb3
      have bR3 := (hbw3.block (w.heap.size + 1 + 1) hz1).trans bR1
      have zO3 : Bo < w3.heap.size := (Array.getElem?_eq_some_iff.1 bO3).1
      have bO : w3.drew.heap[Bo]? = some (.cells #[.int .i64 s, .int .i64 t, .int .i64 k, .int .i64 z, .int .i64 q, .int .i64 l, .int .i64 e, .bool b, .int .i64 v, .int .i64 r, .int .i64 mm, .map (some (mb)), pv', .slice none 0 0] 54 (0, 0)) := bO3
      have hO3d : w3.drew.heap[Bo]? = some (.cells (opV s t k z q l e b v r mm mb pv' (.slice none 0 0)) 54 (0, 0)) := bO3
      have HR3d : Hid (RowsI w3.drew w1.heap.size mb len (sEs l mm (gEs mm es))) := hide (hR3.bel (bel_drew (Below.refl _ _)))
      have HP3 := hide hP3
      have HMF := hide hMF
      have bRd : w3.drew.heap[w.heap.size + 1 + 1]? = some (.cells #[.int .i64 0, .slice none 0 0] 30 (0, 0)) := bR3
      clear hP3 hMF hR3 hR2 bO2 hb2 hb3 bO3 rc0 rc1 rf0 rf1 hP2
      go_wp2_with fail
      refine wp_region_held_drew (S := (fun W => W.heap[Bo]? = some (.cells #[.int .i64 s, .int .i64 t, .int .i64 k, .int .i64 z, .int .i64 q, .int .i64 l, .int .i64 e, .bool b, .int .i64 v, .int .i64 r, .int .i64 mm, .map (some (mb)), pv', .slice none 0 0] 54 (0, 0)))) (by kernel_rfl) ?_ (fun hHeld => ?_)
      · (try dsimp only); exact bO
      refine wpAnyH_take (i := 0) (v := ?_) (by simp only [List.getElem?_toArray, List.getElem?_cons_zero, List.getElem?_cons_succ]; rfl) (by kernel_rfl) (by kernel_rfl) (by kernel_rfl) (by intro _ _ _ h; exact h) (Or.inl ⟨by rfl, ?_⟩) (by assumption) ?_
      rotate_left
      · (intro w9 hSw; (try dsimp only at hSw); go_simp <;> with_reducible rfl)
      try simp only [Act.put, List.setIfInBounds_toArray, List.set_cons_zero, List.set_cons_succ]
      refine wpAnyH_take (i := 2) (v := ?_) (by simp only [List.getElem?_toArray, List.getElem?_cons_zero, List.getElem?_cons_succ]; rfl) (by kernel_rfl) (by kernel_rfl) (by kernel_rfl) (by intro _ _ _ h; exact h) (Or.inl ⟨by rfl, ?_⟩) (by assumption) ?_
      rotate_left
      · (intro w9 hSw; (try dsimp only at hSw); go_simp <;> with_reducible rfl)
      try simp only [Act.put, List.setIfInBounds_toArray, List.set_cons_zero, List.set_cons_succ]
      refine wpAnyH_take (i := 3) (v := ?_) (by simp only [List.getElem?_toArray, List.getElem?_cons_zero, List.getElem?_cons_succ]; rfl) (by kernel_rfl) (by kernel_rfl) (by kernel_rfl) (by intro _ _ _ h; exact h) (Or.inl ⟨by rfl, ?_⟩) (by assumption) ?_
      rotate_left
      · (intro w9 hSw; (try dsimp only at hSw); go_simp <;> with_reducible rfl)
      try simp only [Act.put, List.setIfInBounds_toArray, List.set_cons_zero, List.set_cons_succ]
      refine wpAnyH_take (i := 4) (v := ?_) (by simp only [List.getElem?_toArray, List.getElem?_cons_zero, List.getElem?_cons_succ]; rfl) (by kernel_rfl) (by kernel_rfl) (by kernel_rfl) (by intro _ _ _ h; exact h) (Or.inl ⟨by rfl, ?_⟩) (by assumption) ?_
      rotate_left
      · (intro w9 hSw; (try dsimp only at hSw); go_simp <;> with_reducible rfl)
      try simp only [Act.put, List.setIfInBounds_toArray, List.set_cons_zero, List.set_cons_succ]
      refine wpAnyH_take (i := 5) (v := ?_) (by simp only [List.getElem?_toArray, List.getElem?_cons_zero, List.getElem?_cons_succ]; rfl) (by kernel_rfl) (by kernel_rfl) (by kernel_rfl) (by intro _ _ _ h; exact h) (Or.inl ⟨by rfl, ?_⟩) (by assumption) ?_
      rotate_left
      · (intro w9 hSw; (try dsimp only at hSw); have q0 := hSw; have g0x0 : w9.cell? ⟨Bo, 0, none⟩ = some (.int .i64 s) := (by simp [World.cell?, q0, go_sem]); have g0x1 : w9.cell? ⟨Bo, 1, none⟩ = some (.int .i64 t) := (by simp [World.cell?, q0, go_sem]); have g0x2 : w9.cell? ⟨Bo, 2, none⟩ = some (.int .i64 k) := (by simp [World.cell?, q0, go_sem]); have g0x3 : w9.cell? ⟨Bo, 3, none⟩ = some (.int .i64 z) := (by simp [World.cell?, q0, go_sem]); have g0x4 : w9.cell? ⟨Bo, 4, none⟩ = some (.int .i64 q) := (by simp [World.cell?, q0, go_sem]); have g0x5 : w9.cell? ⟨Bo, 5, none⟩ = some (.int .i64 l) := (by simp [World.cell?, q0, go_sem]); have g0x6 : w9.cell? ⟨Bo, 6, none⟩ = some (.int .i64 e) := (by simp [World.cell?, q0, go_sem]); have g0x7 : w9.cell? ⟨Bo, 7, none⟩ = some (.bool b) := (by simp [World.cell?, q0, go_sem]); have g0x8 : w9.cell? ⟨Bo, 8, none⟩ = some (.int .i64 v) := (by simp [World.cell?, q0, go_sem]); have g0x9 : w9.cell? ⟨Bo, 9, none⟩ = some (.int .i64 r) := (by simp [World.cell?, q0, go_sem]); have g0x10 : w9.cell? ⟨Bo, 10, none⟩ = some (.int .i64 mm) := (by simp [World.cell?, q0, go_sem]); have g0x11 : w9.cell? ⟨Bo, 11, none⟩ = some (.map (some (mb))) := (by simp [World.cell?, q0, go_sem]); have g0x12 : w9.cell? ⟨Bo, 12, none⟩ = some (pv') := (by simp [World.cell?, q0, go_sem]); have g0x13 : w9.cell? ⟨Bo, 13, none⟩ = some (.slice none 0 0) := (by simp [World.cell?, q0, go_sem]); go_simp <;> with_reducible rfl)
      try simp only [Act.put, List.setIfInBounds_toArray, List.set_cons_zero, List.set_cons_succ]
      refine wpAnyH_ready (rs := [1]) (by kernel_rfl) (by simp) ?_
      refine AllReadyH.cons (by simp only [List.getElem?_toArray, List.getElem?_cons_zero, List.getElem?_cons_succ]; rfl) (fun K hK => ?_) AllReadyH.nil
      go_simp
      (go_at_call 25; refine (state_any Bo w1.heap.size mb len s t k z q l e b v r mm pv' (.slice none 0 0) _ _ (show _ from hO3d) (unhide HR3d) hri3 hok3' (by omega)).mono ?_; rintro e9 wv ⟨av, cv, rfl, hOv, hbwv⟩)
      (try go_wp2_with fail)
      have zwv := hbwv.size
      (try simp at zwv)
      have bO := (hbwv.block (Bo) (by first | omega | (simp; done) | (simp; omega))).trans bO
      refine hK.out _ _ ?_ (fun hHeld2 => ?_)
      · (try dsimp only); exact bO
      clear hK K hHeld
      have hHeld := hHeld2
      clear hHeld2
      try simp only [Act.put, List.setIfInBounds_toArray, List.set_cons_zero, List.set_cons_succ]
      replace bRd := (hbwv.block (w.heap.size + 1 + 1) (by show w.heap.size + 1 + 1 < w3.heap.size; have := hbw3.size; omega)).trans bRd
      have q0 : wv.cell? ⟨w.heap.size + 1 + 1, 0, none⟩ = some (.int .i64 0) := Joins.cell_of_block bRd 0
      have q1 : wv.cell? ⟨w.heap.size + 1 + 1, 1, none⟩ = some (.slice none 0 0) := Joins.cell_of_block bRd 1
      have f0 : wv.frozen? ⟨w.heap.size + 1 + 1, 0, none⟩ = false := by simp [World.frozen?, bRd]
      have f1 : wv.frozen? ⟨w.heap.size + 1 + 1, 1, none⟩ = false := by simp [World.frozen?, bRd]
      have hneB : Bo ≠ w.heap.size + 1 + 1 := by omega
      have bRf : ((wv.setCell ⟨w.heap.size + 1 + 1, 0, none⟩ (.int .i64 mm)).setCell ⟨w.heap.size + 1 + 1, 1, none⟩ (.slice av (sEs l mm (gEs mm es)).length cv)).heap[w.heap.size + 1 + 1]? = some (.cells #[.int .i64 mm, .slice av (sEs l mm (gEs mm es)).length cv] 30 (0, 0)) := Joins.block_setCell (Joins.block_setCell bRd _) _
      have hOf := own_setX (u := .slice av (sEs l mm (gEs mm es)).length cv) (p := ⟨w.heap.size + 1 + 1, 1, none⟩) (own_setX (u := .int .i64 mm) (p := ⟨w.heap.size + 1 + 1, 0, none⟩) hOv (own_ne_ty hOv bRd (by decide))) (own_ne_ty hOv bRd (by decide))
      have hPv : wv.ownsRow w1.heap.size 62 9 pv' _ _ := own_row (unhide HP3) (grown_of0 (bel_trans (bel_drew (Below.refl _ _)) hbwv)) (fun _ e9 => by cases e9)
      have hPf := own_setX (u := .slice av (sEs l mm (gEs mm es)).length cv) (p := ⟨w.heap.size + 1 + 1, 1, none⟩) (own_setX (u := .int .i64 mm) (p := ⟨w.heap.size + 1 + 1, 0, none⟩) hPv (own_ne_ty hPv bRd (by decide))) (own_ne_ty hPv bRd (by decide))
      have hbf : Below w.heap.size w ((wv.setCell ⟨w.heap.size + 1 + 1, 0, none⟩ (.int .i64 mm)).setCell ⟨w.heap.size + 1 + 1, 1, none⟩ (.slice av (sEs l mm (gEs mm es)).length cv)) := bel_set (bel_set (bel_trans (bel_drew (hbw1.trans (hbw3.mono hbw1.size))) hbwv) (by simp; omega) _) (by simp; omega) _
      refine wpAnyH_ready (rs := [6]) (by kernel_rfl) (by simp) ?_
      refine AllReadyH.cons (by simp only [List.getElem?_toArray, List.getElem?_cons_zero, List.getElem?_cons_succ]; rfl) (fun K hK => ?_) AllReadyH.nil
      go_simp
      refine hK.out _ _ ?_ (fun hHeld2 => ?_)
      · (try dsimp only); exact (Below.heap_setCell _ _ _ _ hneB).trans ((Below.heap_setCell _ _ _ _ hneB).trans bO)
      clear hK K hHeld
      have hHeld := hHeld2
      clear hHeld2
      try simp only [Act.put, List.setIfInBounds_toArray, List.set_cons_zero, List.set_cons_succ]
      refine wpAnyH_take (i := 7) (v := ?_) (by simp only [List.getElem?_toArray, List.getElem?_cons_zero, List.getElem?_cons_succ]; rfl) (by kernel_rfl) (by kernel_rfl) (by kernel_rfl) (by intro _ _ _ h; exact h) (Or.inl ⟨by rfl, ?_⟩) (by assumption) ?_
      rotate_left
      · (intro w9 hSw; (try dsimp only at hSw); go_simp <;> with_reducible rfl)
      try simp only [Act.put, List.setIfInBounds_toArray, List.set_cons_zero, List.set_cons_succ]
      refine wpAnyH_done (by kernel_rfl) ?_ _
      clear hHeld q0 q1 f0 f1 bO bRd hOv hPv hbwv HR3d hO3d
      generalize (wv.setCell ⟨w.heap.size + 1 + 1, 0, none⟩ (.int .i64 mm)).setCell ⟨w.heap.size + 1 + 1, 1, none⟩ (.slice av (sEs l mm (gEs mm es)).length cv) = wF at bRf hOf hPf hbf ⊢
      have g0 : wF.cell? ⟨w.heap.size + 1 + 1, 0, none⟩ = some (.int .i64 mm) := Joins.cell_of_block bRf 0
      have g1 : wF.cell? ⟨w.heap.size + 1 + 1, 1, none⟩ = some (.slice av (sEs l mm (gEs mm es)).length cv) := Joins.cell_of_block bRf 1
      go_wp2
      refine bodyPost_ret (v := .tuple #[.agg #[.int .i64 mm, .slice av (sEs l mm (gEs mm es)).length cv], pv']) (by simp (maxDischargeDepth := 9) [results, Try.results8, go_sem, *]) rfl ?_
      refine ⟨_, _, by rw [unhide HMF], ?_, ?_, hbf⟩
      · rw [unhide HMF]
        exact own_monoX hOf (by show w.heap.size ≤ w3.heap.size; have := hbw1.size; have := hbw3.size; omega)
      · rw [unhide HMF]
        exact own_monoX hPf hbw1.size
end Go.Proofs.Ytflignpbboiahaa
