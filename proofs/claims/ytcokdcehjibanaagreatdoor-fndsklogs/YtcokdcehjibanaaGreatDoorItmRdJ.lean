/- Proved here: an item is read by the program: the item of words. -/
import Derived.Test.YtcokdcehjibanaaGreatDoorItmRdI
namespace Go.Proofs.YtcokdcehjibanaaGreatDoor
open Go.ChangeShapes Go.WideShapes Go.ChangeAt Go.RowKit
set_option linter.unusedVariables false


theorem cellLt {W : World} {g o : Nat} {v : Value} (h : W.cell? ⟨g, o, none⟩ = some v) : g < W.heap.size := by
  by_cases hg : g < W.heap.size
  · exact hg
  · simp [World.cell?, Array.getElem?_eq_none (Nat.le_of_not_lt hg)] at h
theorem cell_keep {w w' : World} {g j : Nat} {v : Value} (hb : Below w.heap.size w w') (h : w.cell? ⟨g, j, none⟩ = some v) : w'.cell? ⟨g, j, none⟩ = some v := (hb.cell (p := ⟨g, j, none⟩) (cellLt h)).trans h
set_option linter.unusedSimpArgs false in
set_option maxRecDepth 20000 in
set_option maxHeartbeats 2000000 in
theorem itemof_any {x : ByteArray} {ns : List Int} {a : Option Addr} {c m : Nat} (w : World) (hm : ns.length = m) (h : NumsAt w a ns) : Calls Tryz.prog 47 #[.string x, .slice a m c] w fun e w' => ∃ q t k v n, e = .returned (.agg #[.int .i64 q, .int .i64 t, .int .i64 k, .int .i64 v, .int .i64 n]) ∧ itX x ns = (q, t, k, v, n) ∧ Below w.heap.size w w' := by
  obtain ⟨i0, hi, hz0, hz1, hz2⟩ := info_parts Tryz.infoIntW
  go_enter Tryz.func47, Tryz.ntmps47
  by_cases e1 : x = ⟨#[114, 101, 99]⟩
  ·
    by_cases hl : ns.length = 3
    · obtain rfl : m = 3 := hm.symm.trans hl
      clear hm
      have t1 := toL_yes (x := x) (l := [114, 101, 99]) e1
      obtain ⟨n0, n1, n2, rfl⟩ := three hl
      have HX9 : Hid (itX x [n0, n1, n2] = (1, n0, n1, n2, 0)) := hide (by unfold itX; rw [if_pos ⟨e1, rfl⟩]; rfl)
      obtain h | ⟨g, rfl, hc⟩ := h
      · cases h
      have c0 : w.cell? ⟨g, 0, none⟩ = some (.int .i64 n0) := hc 0 n0 rfl
      have d0 : (w.alloc (.cells #[.int .i64 0, .int .i64 0, .int .i64 0, .int .i64 0, .int .i64 0] 45)).cell? ⟨g, 0, none⟩ = some (.int .i64 n0) := cell_keep (bel_one _ _) c0
      have c1 : w.cell? ⟨g, 1, none⟩ = some (.int .i64 n1) := hc 1 n1 rfl
      have d1 : (w.alloc (.cells #[.int .i64 0, .int .i64 0, .int .i64 0, .int .i64 0, .int .i64 0] 45)).cell? ⟨g, 1, none⟩ = some (.int .i64 n1) := cell_keep (bel_one _ _) c1
      have c2 : w.cell? ⟨g, 2, none⟩ = some (.int .i64 n2) := hc 2 n2 rfl
      have d2 : (w.alloc (.cells #[.int .i64 0, .int .i64 0, .int .i64 0, .int .i64 0, .int .i64 0] 45)).cell? ⟨g, 2, none⟩ = some (.int .i64 n2) := cell_keep (bel_one _ _) c2
      have zg : g < w.heap.size := cellLt c0
      clear hc
      clear e1
      go_wp2
      refine wp_region_held_drew (S := (fun W => W.cell? ⟨g, 0, none⟩ = some (.int .i64 n0) ∧ W.cell? ⟨g, 1, none⟩ = some (.int .i64 n1) ∧ W.cell? ⟨g, 2, none⟩ = some (.int .i64 n2))) (by kernel_rfl) ?_ (fun hHeld => ?_)
      · (try dsimp only); first | exact ⟨d0, d1, d2⟩ | (refine ⟨?_, ?_, ?_⟩ <;> simp [go_sem, *])
      refine wpAnyH_take (i := 0) (v := ?_) (by simp only [List.getElem?_toArray, List.getElem?_cons_zero, List.getElem?_cons_succ]; rfl) (by kernel_rfl) (by kernel_rfl) (by kernel_rfl) (by intro _ _ _ h; exact h) (Or.inl ⟨by rfl, ?_⟩) (by assumption) ?_
      rotate_left
      · (intro w9 hSw; (try dsimp only at hSw); go_simp <;> with_reducible rfl)
      try simp only [Act.put, List.setIfInBounds_toArray, List.set_cons_zero, List.set_cons_succ]
      refine wpAnyH_take (i := 1) (v := ?_) (by simp only [List.getElem?_toArray, List.getElem?_cons_zero, List.getElem?_cons_succ]; rfl) (by kernel_rfl) (by kernel_rfl) (by kernel_rfl) (by intro _ _ _ h; exact h) (Or.inl ⟨by rfl, ?_⟩) (by assumption) ?_
      rotate_left
      · (intro w9 hSw; (try dsimp only at hSw); go_simp <;> with_reducible rfl)
      try simp only [Act.put, List.setIfInBounds_toArray, List.set_cons_zero, List.set_cons_succ]
      refine wpAnyH_take (i := 2) (v := ?_) (by simp only [List.getElem?_toArray, List.getElem?_cons_zero, List.getElem?_cons_succ]; rfl) (by kernel_rfl) (by kernel_rfl) (by kernel_rfl) (by intro _ _ _ h; exact h) (Or.inl ⟨by rfl, ?_⟩) (by assumption) ?_
      rotate_left
      · (intro w9 hSw; (try dsimp only at hSw); go_simp <;> with_reducible rfl)
      try simp only [Act.put, List.setIfInBounds_toArray, List.set_cons_zero, List.set_cons_succ]
      refine wpAnyH_take (i := 3) (v := ?_) (by simp only [List.getElem?_toArray, List.getElem?_cons_zero, List.getElem?_cons_succ]; rfl) (by kernel_rfl) (by kernel_rfl) (by kernel_rfl) (by intro _ _ _ h; exact h) (Or.inl ⟨by rfl, ?_⟩) (by assumption) ?_
      rotate_left
      · (intro w9 hSw; (try dsimp only at hSw); go_simp <;> with_reducible rfl)
      try simp only [Act.put, List.setIfInBounds_toArray, List.set_cons_zero, List.set_cons_succ]
      refine wpAnyH_take (i := 4) (v := ?_) (by simp only [List.getElem?_toArray, List.getElem?_cons_zero, List.getElem?_cons_succ]; rfl) (by kernel_rfl) (by kernel_rfl) (by kernel_rfl) (by intro _ _ _ h; exact h) (Or.inl ⟨by rfl, ?_⟩) (by assumption) ?_
      rotate_left
      · (intro w9 hSw; (try dsimp only at hSw); go_simp <;> with_reducible rfl)
      try simp only [Act.put, List.setIfInBounds_toArray, List.set_cons_zero, List.set_cons_succ]
      refine wpAnyH_take (i := 5) (v := ?_) (by simp only [List.getElem?_toArray, List.getElem?_cons_zero, List.getElem?_cons_succ]; rfl) (by kernel_rfl) (by kernel_rfl) (by kernel_rfl) (by intro _ _ _ h; exact h) (Or.inl ⟨by rfl, ?_⟩) (by assumption) ?_
      rotate_left
      · (intro w9 hSw; (try dsimp only at hSw); go_simp <;> with_reducible rfl)
      try simp only [Act.put, List.setIfInBounds_toArray, List.set_cons_zero, List.set_cons_succ]
      refine wpAnyH_take (i := 6) (v := ?_) (by simp only [List.getElem?_toArray, List.getElem?_cons_zero, List.getElem?_cons_succ]; rfl) (by kernel_rfl) (by kernel_rfl) (by kernel_rfl) (by intro _ _ _ h; exact h) (Or.inl ⟨by rfl, ?_⟩) (by assumption) ?_
      rotate_left
      · (intro w9 hSw; (try dsimp only at hSw); go_simp <;> with_reducible rfl)
      try simp only [Act.put, List.setIfInBounds_toArray, List.set_cons_zero, List.set_cons_succ]
      refine wpAnyH_take (i := 7) (v := ?_) (by simp only [List.getElem?_toArray, List.getElem?_cons_zero, List.getElem?_cons_succ]; rfl) (by kernel_rfl) (by kernel_rfl) (by kernel_rfl) (by intro _ _ _ h; exact h) (Or.inl ⟨by rfl, ?_⟩) (by assumption) ?_
      rotate_left
      · (intro w9 hSw; (try dsimp only at hSw); go_simp <;> with_reducible rfl)
      try simp only [Act.put, List.setIfInBounds_toArray, List.set_cons_zero, List.set_cons_succ]
      refine wpAnyH_take (i := 8) (v := ?_) (by simp only [List.getElem?_toArray, List.getElem?_cons_zero, List.getElem?_cons_succ]; rfl) (by kernel_rfl) (by kernel_rfl) (by kernel_rfl) (by intro _ _ _ h; exact h) (Or.inl ⟨by rfl, ?_⟩) (by assumption) ?_
      rotate_left
      · (intro w9 hSw; (try dsimp only at hSw); go_simp <;> with_reducible rfl)
      try simp only [Act.put, List.setIfInBounds_toArray, List.set_cons_zero, List.set_cons_succ]
      refine wpAnyH_take (i := 9) (v := ?_) (by simp only [List.getElem?_toArray, List.getElem?_cons_zero, List.getElem?_cons_succ]; rfl) (by kernel_rfl) (by kernel_rfl) (by kernel_rfl) (by intro _ _ _ h; exact h) (Or.inl ⟨by rfl, ?_⟩) (by assumption) ?_
      rotate_left
      · (intro w9 hSw; (try dsimp only at hSw); go_simp <;> with_reducible rfl)
      try simp only [Act.put, List.setIfInBounds_toArray, List.set_cons_zero, List.set_cons_succ]
      refine wpAnyH_ready (rs := [10]) (by kernel_rfl) (by simp) ?_
      refine AllReadyH.cons (by simp only [List.getElem?_toArray, List.getElem?_cons_zero, List.getElem?_cons_succ]; rfl) (fun K hK => ?_) AllReadyH.nil
      go_simp
      skip
      (try go_wp2_with fail)
      refine hK.out _ _ ?_ (fun hHeld2 => ?_)
      · (try dsimp only); first | exact ⟨d0, d1, d2⟩ | (refine ⟨?_, ?_, ?_⟩ <;> simp [go_sem, *])
      clear hK K hHeld
      have hHeld := hHeld2
      clear hHeld2
      try simp only [Act.put, List.setIfInBounds_toArray, List.set_cons_zero, List.set_cons_succ]
      refine wpAnyH_done (by kernel_rfl) ?_ _
      go_wp2
      refine bodyPost_ret (v := .agg #[.int .i64 1, .int .i64 n0, .int .i64 n1, .int .i64 n2, .int .i64 0]) (by simp (maxDischargeDepth := 9) [results, Tryz.results47, go_sem, *]) rfl ⟨1, n0, n1, n2, 0, rfl, unhide HX9, (by repeat (first | (with_reducible exact Below.refl _ _) | (with_reducible assumption) | (with_reducible refine bel_set ?_ (by first | (simp; done) | (simp; omega)) _) | (with_reducible refine bel_alloc ?_ _) | (with_reducible refine bel_drew ?_) | (with_reducible refine bel_drewN ?_ _) | (with_reducible refine bel_trans ?_ (by with_reducible assumption))))⟩
    · have hl3 : ¬ (m : Int) = 3 := by omega
      have t1 := toL_yes (x := x) (l := [114, 101, 99]) e1
      have e2 : x ≠ ⟨#[109, 97, 114, 107]⟩ := by rw [e1]; exact ba_ne (by decide)
      have t2 := toL_no (x := x) (l := [109, 97, 114, 107]) e2
      have e3 : x ≠ ⟨#[119, 97, 108, 108]⟩ := by rw [e1]; exact ba_ne (by decide)
      have t3 := toL_no (x := x) (l := [119, 97, 108, 108]) e3
      have HX9 : Hid (itX x ns = (0, 0, 0, 0, 0)) := hide (by unfold itX; rw [if_neg (fun h => hl h.2), if_neg (fun h => e2 h.1), if_neg (fun h => e3 h.1)])
      clear h hm hl e1 e2 e3
      go_wp2
      refine bodyPost_ret (v := .agg #[.int .i64 0, .int .i64 0, .int .i64 0, .int .i64 0, .int .i64 0]) (by simp (maxDischargeDepth := 9) [results, Tryz.results47, go_sem, *]) rfl ⟨0, 0, 0, 0, 0, rfl, unhide HX9, (by repeat (first | (with_reducible exact Below.refl _ _) | (with_reducible assumption) | (with_reducible refine bel_set ?_ (by first | (simp; done) | (simp; omega)) _) | (with_reducible refine bel_alloc ?_ _) | (with_reducible refine bel_drew ?_) | (with_reducible refine bel_drewN ?_ _) | (with_reducible refine bel_trans ?_ (by with_reducible assumption))))⟩
  by_cases e2 : x = ⟨#[109, 97, 114, 107]⟩
  ·
    by_cases hl : ns.length = 1
    · obtain rfl : m = 1 := hm.symm.trans hl
      clear hm
      have t1 := toL_no (x := x) (l := [114, 101, 99]) e1
      have t2 := toL_yes (x := x) (l := [109, 97, 114, 107]) e2
      obtain ⟨n0, rfl⟩ := one hl
      have HX9 : Hid (itX x [n0] = (2, n0, 0, 0, 0)) := hide (by unfold itX; rw [if_neg (fun h => e1 h.1), if_pos ⟨e2, rfl⟩]; rfl)
      obtain h | ⟨g, rfl, hc⟩ := h
      · cases h
      have c0 : w.cell? ⟨g, 0, none⟩ = some (.int .i64 n0) := hc 0 n0 rfl
      have d0 : (w.alloc (.cells #[.int .i64 0, .int .i64 0, .int .i64 0, .int .i64 0, .int .i64 0] 45)).cell? ⟨g, 0, none⟩ = some (.int .i64 n0) := cell_keep (bel_one _ _) c0
      have zg : g < w.heap.size := cellLt c0
      clear hc
      clear e1 e2
      go_wp2
      refine bodyPost_ret (v := .agg #[.int .i64 2, .int .i64 n0, .int .i64 0, .int .i64 0, .int .i64 0]) (by simp (maxDischargeDepth := 9) [results, Tryz.results47, go_sem, *]) rfl ⟨2, n0, 0, 0, 0, rfl, unhide HX9, (by repeat (first | (with_reducible exact Below.refl _ _) | (with_reducible assumption) | (with_reducible refine bel_set ?_ (by first | (simp; done) | (simp; omega)) _) | (with_reducible refine bel_alloc ?_ _) | (with_reducible refine bel_drew ?_) | (with_reducible refine bel_drewN ?_ _) | (with_reducible refine bel_trans ?_ (by with_reducible assumption))))⟩
    · have hl3 : ¬ (m : Int) = 1 := by omega
      have t1 := toL_no (x := x) (l := [114, 101, 99]) e1
      have t2 := toL_yes (x := x) (l := [109, 97, 114, 107]) e2
      have e3 : x ≠ ⟨#[119, 97, 108, 108]⟩ := by rw [e2]; exact ba_ne (by decide)
      have t3 := toL_no (x := x) (l := [119, 97, 108, 108]) e3
      have HX9 : Hid (itX x ns = (0, 0, 0, 0, 0)) := hide (by unfold itX; rw [if_neg (fun h => e1 h.1), if_neg (fun h => hl h.2), if_neg (fun h => e3 h.1)])
      clear h hm hl e1 e2 e3
      go_wp2
      refine bodyPost_ret (v := .agg #[.int .i64 0, .int .i64 0, .int .i64 0, .int .i64 0, .int .i64 0]) (by simp (maxDischargeDepth := 9) [results, Tryz.results47, go_sem, *]) rfl ⟨0, 0, 0, 0, 0, rfl, unhide HX9, (by repeat (first | (with_reducible exact Below.refl _ _) | (with_reducible assumption) | (with_reducible refine bel_set ?_ (by first | (simp; done) | (simp; omega)) _) | (with_reducible refine bel_alloc ?_ _) | (with_reducible refine bel_drew ?_) | (with_reducible refine bel_drewN ?_ _) | (with_reducible refine bel_trans ?_ (by with_reducible assumption))))⟩
  by_cases e3 : x = ⟨#[119, 97, 108, 108]⟩
  ·
    by_cases hl : ns.length = 1
    · obtain rfl : m = 1 := hm.symm.trans hl
      clear hm
      have t1 := toL_no (x := x) (l := [114, 101, 99]) e1
      have t2 := toL_no (x := x) (l := [109, 97, 114, 107]) e2
      have t3 := toL_yes (x := x) (l := [119, 97, 108, 108]) e3
      obtain ⟨n0, rfl⟩ := one hl
      have HX9 : Hid (itX x [n0] = (3, 0, 0, 0, n0)) := hide (by unfold itX; rw [if_neg (fun h => e1 h.1), if_neg (fun h => e2 h.1), if_pos ⟨e3, rfl⟩]; rfl)
      obtain h | ⟨g, rfl, hc⟩ := h
      · cases h
      have c0 : w.cell? ⟨g, 0, none⟩ = some (.int .i64 n0) := hc 0 n0 rfl
      have d0 : (w.alloc (.cells #[.int .i64 0, .int .i64 0, .int .i64 0, .int .i64 0, .int .i64 0] 45)).cell? ⟨g, 0, none⟩ = some (.int .i64 n0) := cell_keep (bel_one _ _) c0
      have zg : g < w.heap.size := cellLt c0
      clear hc
      clear e1 e2 e3
      go_wp2
      refine bodyPost_ret (v := .agg #[.int .i64 3, .int .i64 0, .int .i64 0, .int .i64 0, .int .i64 n0]) (by simp (maxDischargeDepth := 9) [results, Tryz.results47, go_sem, *]) rfl ⟨3, 0, 0, 0, n0, rfl, unhide HX9, (by repeat (first | (with_reducible exact Below.refl _ _) | (with_reducible assumption) | (with_reducible refine bel_set ?_ (by first | (simp; done) | (simp; omega)) _) | (with_reducible refine bel_alloc ?_ _) | (with_reducible refine bel_drew ?_) | (with_reducible refine bel_drewN ?_ _) | (with_reducible refine bel_trans ?_ (by with_reducible assumption))))⟩
    · have hl3 : ¬ (m : Int) = 1 := by omega
      have t1 := toL_no (x := x) (l := [114, 101, 99]) e1
      have t2 := toL_no (x := x) (l := [109, 97, 114, 107]) e2
      have t3 := toL_yes (x := x) (l := [119, 97, 108, 108]) e3
      have HX9 : Hid (itX x ns = (0, 0, 0, 0, 0)) := hide (by unfold itX; rw [if_neg (fun h => e1 h.1), if_neg (fun h => e2 h.1), if_neg (fun h => hl h.2)])
      clear h hm hl e1 e2 e3
      go_wp2
      refine bodyPost_ret (v := .agg #[.int .i64 0, .int .i64 0, .int .i64 0, .int .i64 0, .int .i64 0]) (by simp (maxDischargeDepth := 9) [results, Tryz.results47, go_sem, *]) rfl ⟨0, 0, 0, 0, 0, rfl, unhide HX9, (by repeat (first | (with_reducible exact Below.refl _ _) | (with_reducible assumption) | (with_reducible refine bel_set ?_ (by first | (simp; done) | (simp; omega)) _) | (with_reducible refine bel_alloc ?_ _) | (with_reducible refine bel_drew ?_) | (with_reducible refine bel_drewN ?_ _) | (with_reducible refine bel_trans ?_ (by with_reducible assumption))))⟩
  have t1 := toL_no (x := x) (l := [114, 101, 99]) e1
  have t2 := toL_no (x := x) (l := [109, 97, 114, 107]) e2
  have t3 := toL_no (x := x) (l := [119, 97, 108, 108]) e3
  have HX9 : Hid (itX x ns = (0, 0, 0, 0, 0)) := hide (by unfold itX; rw [if_neg (fun h => e1 h.1), if_neg (fun h => e2 h.1), if_neg (fun h => e3 h.1)])
  clear h hm e1 e2 e3
  go_wp2
  refine bodyPost_ret (v := .agg #[.int .i64 0, .int .i64 0, .int .i64 0, .int .i64 0, .int .i64 0]) (by simp (maxDischargeDepth := 9) [results, Tryz.results47, go_sem, *]) rfl ⟨0, 0, 0, 0, 0, rfl, unhide HX9, (by repeat (first | (with_reducible exact Below.refl _ _) | (with_reducible assumption) | (with_reducible refine bel_set ?_ (by first | (simp; done) | (simp; omega)) _) | (with_reducible refine bel_alloc ?_ _) | (with_reducible refine bel_drew ?_) | (with_reducible refine bel_drewN ?_ _) | (with_reducible refine bel_trans ?_ (by with_reducible assumption))))⟩
end Go.Proofs.YtcokdcehjibanaaGreatDoor
