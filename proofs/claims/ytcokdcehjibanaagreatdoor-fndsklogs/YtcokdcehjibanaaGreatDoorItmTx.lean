/- Proved here: an item's text, in the specification and in the program. -/
import Derived.Test.YtcokdcehjibanaaGreatDoorItm2
import Derived.Test.YtcokdcehjibanaaGreatDoorDigI
import Derived.Deep.RegionHeld3
namespace Go.Proofs.YtcokdcehjibanaaGreatDoor
open Go.ChangeShapes Go.WideShapes Go.ChangeAt Go.RowKit
set_option linter.unusedVariables false


theorem blk_at0 {W : World} {o : Obj} : (W.alloc o).heap[W.heap.size]? = some o := by
  show (W.heap.push _)[W.heap.size]? = _
  simp
theorem ret_tx {a b : ByteArray} (h : a = b) : Ending.returned (.string a) = .returned (.string b) := by rw [h]
def itmTxt (q t k v n : Int) : ByteArray := if q = 1 then ⟨#[114, 101, 99, 32]⟩ ++ decI t ++ ⟨#[32]⟩ ++ decI k ++ ⟨#[32]⟩ ++ decI v else if q = 2 then ⟨#[109, 97, 114, 107, 32]⟩ ++ decI t else ⟨#[119, 97, 108, 108, 32]⟩ ++ decI n
def itmText (q t k v n : Int) : ByteArray := if okItm q t k v n = true then itmTxt q t k v n else ⟨#[]⟩
theorem itmText_ok {q t k v n : Int} (h : okItm q t k v n = true) : itmText q t k v n = itmTxt q t k v n := if_pos h
theorem itmText_no {q t k v n : Int} (h : okItm q t k v n = false) : itmText q t k v n = ⟨#[]⟩ := if_neg (by simp [h])
theorem okItm_bd {q t k v n : Int} (h : okItm q t k v n = true) : (q = 1 ∨ q = 2 ∨ q = 3) ∧ (0 ≤ t ∧ t ≤ 1000) ∧ (0 ≤ k ∧ k ≤ 3) ∧ (-9 ≤ v ∧ v ≤ 9) ∧ (0 ≤ n ∧ n ≤ 900) ∧ (q = 1 → n = 0) ∧ (q = 2 → k = 0 ∧ v = 0 ∧ n = 0) ∧ (q = 3 → t = 0 ∧ k = 0 ∧ v = 0) := by
  by_cases h1 : q = 1
  · subst h1
    rw [okItm_1] at h
    simp only [okRec, Bool.and_eq_true, beq_iff_eq] at h
    have a := inB_iff.1 h.1.1.1
    have b := inB_iff.1 h.1.1.2
    have c := inB_iff.1 h.1.2
    have d := h.2
    refine ⟨Or.inl rfl, by omega, by omega, by omega, by omega, fun _ => d, fun e => by omega, fun e => by omega⟩
  by_cases h2 : q = 2
  · subst h2
    rw [okItm_2] at h
    simp only [okMark, Bool.and_eq_true, Bool.or_eq_true, beq_iff_eq] at h
    obtain ⟨⟨⟨a, b⟩, c⟩, d⟩ := h
    have a' : 0 ≤ t ∧ t ≤ 1000 := by
      rcases a with a | a
      · have := inB_iff.1 a; omega
      · omega
    refine ⟨Or.inr (Or.inl rfl), a', by omega, by omega, by omega, fun e => by omega, fun _ => ⟨b, c, d⟩, fun e => by omega⟩
  by_cases h3 : q = 3
  · subst h3
    rw [okItm_3] at h
    simp only [okWall, Bool.and_eq_true, beq_iff_eq] at h
    obtain ⟨⟨⟨a, b⟩, c⟩, d⟩ := h
    have := inB_iff.1 a
    refine ⟨Or.inr (Or.inr rfl), by omega, by omega, by omega, by omega, fun e => by omega, fun e => by omega, fun _ => ⟨b, c, d⟩⟩
  rw [okItm_n h1 h2 h3] at h
  cases h
theorem digIe {n : Int} {ST : ByteArray} (w : World) (h0 : -99999999 ≤ n) (h1 : n ≤ 99999999) (h : Hid (decI n = ST)) : Calls Tryz.prog 41 #[.int .i64 n] w fun e w' => e = .returned (.string ST) ∧ Below w.heap.size w w' := by
  rw [← unhide h]; exact digI_any n w h0 h1
theorem itoaIe {n : Int} {ST : ByteArray} (w : World) (h0 : -99999999 ≤ n) (h1 : n ≤ 99999999) (htab : Lib.TabIs Tryz.prog w "internal/strconv.uint64pow10" .u64 Lib.pow10Tab) (h : Hid (decI n = ST)) : Calls Tryz.prog 57 #[.int .i64 n] w fun e w' => e = .returned (.string ST) ∧ Below w.heap.size w w' := by
  rw [← unhide h]; exact itoaI_any n w h0 h1 htab
theorem specitme {q t k v n : Int} {o : Bool} (w : World) (h : Hid (okItm q t k v n = o)) : Calls Tryz.prog 40 #[.agg #[.int .i64 q, .int .i64 t, .int .i64 k, .int .i64 v, .int .i64 n]] w fun e w' => e = .returned (.bool o) ∧ Below w.heap.size w w' := by
  rw [← unhide h]; exact specitm_any q t k v n w

set_option linter.unusedSimpArgs false in
set_option maxRecDepth 20000 in
set_option maxHeartbeats 2000000 in
theorem specitmtext_any (q t k v n : Int) (w : World) : Calls Tryz.prog 25 #[.agg #[.int .i64 q, .int .i64 t, .int .i64 k, .int .i64 v, .int .i64 n]] w fun e w' => e = .returned (.string (itmText q t k v n)) ∧ Below w.heap.size w w' := by
  cases ho : okItm q t k v n
  · have HT := hide (itmText_no ho)
    have HO := hide ho
    clear ho
    go_enter Tryz.func25, Tryz.ntmps25
    go_wp2_with fail
    refine (specitme _ HO).mono ?_
    rintro e w1 ⟨rfl, hb1⟩
    go_wp2
    go_ret
    exact ⟨ret_tx (unhide HT).symm, bel_trans (bel_one _ _) hb1⟩
  obtain ⟨hq, bt, bk, bv, bn, -⟩ := okItm_bd ho
  rcases hq with rfl | rfl | rfl
  · obtain ⟨St, hSt⟩ : ∃ S, decI t = S := ⟨_, rfl⟩
    have zt : St.size ≤ 22 := by rw [← hSt]; exact decI_size t (by omega) (by omega)
    have Ht := hide hSt
    obtain ⟨Sk, hSk⟩ : ∃ S, decI k = S := ⟨_, rfl⟩
    have zk : Sk.size ≤ 22 := by rw [← hSk]; exact decI_size k (by omega) (by omega)
    have Hk := hide hSk
    obtain ⟨Sv, hSv⟩ : ∃ S, decI v = S := ⟨_, rfl⟩
    have zv : Sv.size ≤ 22 := by rw [← hSv]; exact decI_size v (by omega) (by omega)
    have Hv := hide hSv
    have hT : itmText 1 t k v n = ⟨#[114, 101, 99, 32]⟩ ++ St ++ ⟨#[32]⟩ ++ Sk ++ ⟨#[32]⟩ ++ Sv := by rw [itmText_ok ho]; simp only [itmTxt, if_true, if_false, Int.reduceEq]; rw [hSt, hSk, hSv]
    have HT := hide hT
    clear hT hSt hSk hSv
    have s1 : ¬ 9223372036854775807 < 4 + St.size := by omega
    have s2 : ¬ 9223372036854775807 < 4 + St.size + 1 := by omega
    have s3 : ¬ 9223372036854775807 < 4 + St.size + 1 + Sk.size := by omega
    have s4 : ¬ 9223372036854775807 < 4 + St.size + 1 + Sk.size + 1 := by omega
    have s5 : ¬ 9223372036854775807 < 4 + St.size + 1 + Sk.size + 1 + Sv.size := by omega
    have HO := hide ho
    clear ho
    go_enter Tryz.func25, Tryz.ntmps25
    go_wp2_with fail
    refine (specitme _ HO).mono ?_
    rintro e w1 ⟨rfl, hb1⟩
    have z1 : w.heap.size < w1.heap.size := by have h9 := hb1.size; simp at h9; omega
    have hP : w1.heap[w.heap.size]? = some (.cells #[.int .i64 1, .int .i64 t, .int .i64 k, .int .i64 v, .int .i64 n] 45 (0, 0)) := (hb1.block _ (by simp)).trans blk_at0
    have c0 : w1.cell? ⟨w.heap.size, 0, none⟩ = some (.int .i64 1) := by simp [World.cell?, hP, go_sem]
    have c1 : w1.cell? ⟨w.heap.size, 1, none⟩ = some (.int .i64 t) := by simp [World.cell?, hP, go_sem]
    have c2 : w1.cell? ⟨w.heap.size, 2, none⟩ = some (.int .i64 k) := by simp [World.cell?, hP, go_sem]
    have c3 : w1.cell? ⟨w.heap.size, 3, none⟩ = some (.int .i64 v) := by simp [World.cell?, hP, go_sem]
    have c4 : w1.cell? ⟨w.heap.size, 4, none⟩ = some (.int .i64 n) := by simp [World.cell?, hP, go_sem]
    have hbA : Below w.heap.size w w1 := bel_trans (bel_one _ _) hb1
    go_wp2_with fail
    clear c0 c1 c2 c3 c4
    refine wp_region_held_drew (S := (fun W => W.heap[w.heap.size]? = some (.cells #[.int .i64 1, .int .i64 t, .int .i64 k, .int .i64 v, .int .i64 n] 45 (0, 0)))) (by kernel_rfl) ?_ (fun hHeld => ?_)
    · first | trivial | ((try dsimp only); exact hP)
    refine wpAnyH_take (i := 0) (v := ?_) (by simp only [List.getElem?_toArray, List.getElem?_cons_zero, List.getElem?_cons_succ]; rfl) (by kernel_rfl) (by kernel_rfl) (by kernel_rfl) (by intro _ _ _ h; exact h) (Or.inl ⟨by rfl, ?_⟩) (by assumption) ?_
    rotate_left
    · (intro w9 hSw; (try dsimp only at hSw); go_simp <;> with_reducible rfl)
    try simp only [Act.put, List.setIfInBounds_toArray, List.set_cons_zero, List.set_cons_succ]
    refine wpAnyH_take (i := 1) (v := ?_) (by simp only [List.getElem?_toArray, List.getElem?_cons_zero, List.getElem?_cons_succ]; rfl) (by kernel_rfl) (by kernel_rfl) (by kernel_rfl) (by intro _ _ _ h; exact h) (Or.inl ⟨by rfl, ?_⟩) (by assumption) ?_
    rotate_left
    · (intro w9 hSw; (try dsimp only at hSw); have q0 := hSw; have g0x0 : w9.cell? ⟨w.heap.size, 0, none⟩ = some (.int .i64 1) := (by simp [World.cell?, q0, go_sem]); have g0x1 : w9.cell? ⟨w.heap.size, 1, none⟩ = some (.int .i64 t) := (by simp [World.cell?, q0, go_sem]); have g0x2 : w9.cell? ⟨w.heap.size, 2, none⟩ = some (.int .i64 k) := (by simp [World.cell?, q0, go_sem]); have g0x3 : w9.cell? ⟨w.heap.size, 3, none⟩ = some (.int .i64 v) := (by simp [World.cell?, q0, go_sem]); have g0x4 : w9.cell? ⟨w.heap.size, 4, none⟩ = some (.int .i64 n) := (by simp [World.cell?, q0, go_sem]); go_simp <;> with_reducible rfl)
    try simp only [Act.put, List.setIfInBounds_toArray, List.set_cons_zero, List.set_cons_succ]
    refine wpAnyH_take (i := 5) (v := ?_) (by simp only [List.getElem?_toArray, List.getElem?_cons_zero, List.getElem?_cons_succ]; rfl) (by kernel_rfl) (by kernel_rfl) (by kernel_rfl) (by intro _ _ _ h; exact h) (Or.inl ⟨by rfl, ?_⟩) (by assumption) ?_
    rotate_left
    · (intro w9 hSw; (try dsimp only at hSw); go_simp <;> with_reducible rfl)
    try simp only [Act.put, List.setIfInBounds_toArray, List.set_cons_zero, List.set_cons_succ]
    refine wpAnyH_take (i := 6) (v := ?_) (by simp only [List.getElem?_toArray, List.getElem?_cons_zero, List.getElem?_cons_succ]; rfl) (by kernel_rfl) (by kernel_rfl) (by kernel_rfl) (by intro _ _ _ h; exact h) (Or.inl ⟨by rfl, ?_⟩) (by assumption) ?_
    rotate_left
    · (intro w9 hSw; (try dsimp only at hSw); have q0 := hSw; have g0x0 : w9.cell? ⟨w.heap.size, 0, none⟩ = some (.int .i64 1) := (by simp [World.cell?, q0, go_sem]); have g0x1 : w9.cell? ⟨w.heap.size, 1, none⟩ = some (.int .i64 t) := (by simp [World.cell?, q0, go_sem]); have g0x2 : w9.cell? ⟨w.heap.size, 2, none⟩ = some (.int .i64 k) := (by simp [World.cell?, q0, go_sem]); have g0x3 : w9.cell? ⟨w.heap.size, 3, none⟩ = some (.int .i64 v) := (by simp [World.cell?, q0, go_sem]); have g0x4 : w9.cell? ⟨w.heap.size, 4, none⟩ = some (.int .i64 n) := (by simp [World.cell?, q0, go_sem]); go_simp <;> with_reducible rfl)
    try simp only [Act.put, List.setIfInBounds_toArray, List.set_cons_zero, List.set_cons_succ]
    refine wpAnyH_take (i := 10) (v := ?_) (by simp only [List.getElem?_toArray, List.getElem?_cons_zero, List.getElem?_cons_succ]; rfl) (by kernel_rfl) (by kernel_rfl) (by kernel_rfl) (by intro _ _ _ h; exact h) (Or.inl ⟨by rfl, ?_⟩) (by assumption) ?_
    rotate_left
    · (intro w9 hSw; (try dsimp only at hSw); go_simp <;> with_reducible rfl)
    try simp only [Act.put, List.setIfInBounds_toArray, List.set_cons_zero, List.set_cons_succ]
    refine wpAnyH_take (i := 11) (v := ?_) (by simp only [List.getElem?_toArray, List.getElem?_cons_zero, List.getElem?_cons_succ]; rfl) (by kernel_rfl) (by kernel_rfl) (by kernel_rfl) (by intro _ _ _ h; exact h) (Or.inl ⟨by rfl, ?_⟩) (by assumption) ?_
    rotate_left
    · (intro w9 hSw; (try dsimp only at hSw); have q0 := hSw; have g0x0 : w9.cell? ⟨w.heap.size, 0, none⟩ = some (.int .i64 1) := (by simp [World.cell?, q0, go_sem]); have g0x1 : w9.cell? ⟨w.heap.size, 1, none⟩ = some (.int .i64 t) := (by simp [World.cell?, q0, go_sem]); have g0x2 : w9.cell? ⟨w.heap.size, 2, none⟩ = some (.int .i64 k) := (by simp [World.cell?, q0, go_sem]); have g0x3 : w9.cell? ⟨w.heap.size, 3, none⟩ = some (.int .i64 v) := (by simp [World.cell?, q0, go_sem]); have g0x4 : w9.cell? ⟨w.heap.size, 4, none⟩ = some (.int .i64 n) := (by simp [World.cell?, q0, go_sem]); go_simp <;> with_reducible rfl)
    try simp only [Act.put, List.setIfInBounds_toArray, List.set_cons_zero, List.set_cons_succ]
    refine wpAnyH_ready (rs := [2]) (by kernel_rfl) (by simp) ?_
    refine AllReadyH.cons (by simp only [List.getElem?_toArray, List.getElem?_cons_zero, List.getElem?_cons_succ]; rfl) (fun K hK => ?_) AllReadyH.nil
    go_simp
    (go_at_call 41; refine (digIe (ST := St) _ (by omega) (by omega) Ht).mono ?_; rintro e9 v1 ⟨rfl, hbv1⟩)
    (try go_wp2_with fail)
    have zv1 := hbv1.size
    (try simp at zv1)
    have hP := (hbv1.block (w.heap.size) (by first | omega | (simp; done) | (simp; omega))).trans hP
    refine hK.out _ _ ?_ (fun hHeld2 => ?_)
    · first | trivial | ((try dsimp only); exact hP)
    clear hK K hHeld
    have hHeld := hHeld2
    clear hHeld2
    try simp only [Act.put, List.setIfInBounds_toArray, List.set_cons_zero, List.set_cons_succ]
    refine wpAnyH_take (i := 3) (v := ?_) (by simp only [List.getElem?_toArray, List.getElem?_cons_zero, List.getElem?_cons_succ]; rfl) (by kernel_rfl) (by kernel_rfl) (by kernel_rfl) (by intro _ _ _ h; exact h) (Or.inl ⟨by rfl, ?_⟩) (by assumption) ?_
    rotate_left
    · (intro w9 hSw; (try dsimp only at hSw); go_simp <;> with_reducible rfl)
    try simp only [Act.put, List.setIfInBounds_toArray, List.set_cons_zero, List.set_cons_succ]
    refine wpAnyH_take (i := 4) (v := ?_) (by simp only [List.getElem?_toArray, List.getElem?_cons_zero, List.getElem?_cons_succ]; rfl) (by kernel_rfl) (by kernel_rfl) (by kernel_rfl) (by intro _ _ _ h; exact h) (Or.inl ⟨by rfl, ?_⟩) (by assumption) ?_
    rotate_left
    · (intro w9 hSw; (try dsimp only at hSw); go_simp <;> with_reducible rfl)
    try simp only [Act.put, List.setIfInBounds_toArray, List.set_cons_zero, List.set_cons_succ]
    refine wpAnyH_ready (rs := [7]) (by kernel_rfl) (by simp) ?_
    refine AllReadyH.cons (by simp only [List.getElem?_toArray, List.getElem?_cons_zero, List.getElem?_cons_succ]; rfl) (fun K hK => ?_) AllReadyH.nil
    go_simp
    (go_at_call 41; refine (digIe (ST := Sk) _ (by omega) (by omega) Hk).mono ?_; rintro e9 v2 ⟨rfl, hbv2⟩)
    (try go_wp2_with fail)
    have zv2 := hbv2.size
    (try simp at zv2)
    have hP := (hbv2.block (w.heap.size) (by first | omega | (simp; done) | (simp; omega))).trans hP
    refine hK.out _ _ ?_ (fun hHeld2 => ?_)
    · first | trivial | ((try dsimp only); exact hP)
    clear hK K hHeld
    have hHeld := hHeld2
    clear hHeld2
    try simp only [Act.put, List.setIfInBounds_toArray, List.set_cons_zero, List.set_cons_succ]
    refine wpAnyH_take (i := 8) (v := ?_) (by simp only [List.getElem?_toArray, List.getElem?_cons_zero, List.getElem?_cons_succ]; rfl) (by kernel_rfl) (by kernel_rfl) (by kernel_rfl) (by intro _ _ _ h; exact h) (Or.inl ⟨by rfl, ?_⟩) (by assumption) ?_
    rotate_left
    · (intro w9 hSw; (try dsimp only at hSw); go_simp <;> with_reducible rfl)
    try simp only [Act.put, List.setIfInBounds_toArray, List.set_cons_zero, List.set_cons_succ]
    refine wpAnyH_take (i := 9) (v := ?_) (by simp only [List.getElem?_toArray, List.getElem?_cons_zero, List.getElem?_cons_succ]; rfl) (by kernel_rfl) (by kernel_rfl) (by kernel_rfl) (by intro _ _ _ h; exact h) (Or.inl ⟨by rfl, ?_⟩) (by assumption) ?_
    rotate_left
    · (intro w9 hSw; (try dsimp only at hSw); go_simp <;> with_reducible rfl)
    try simp only [Act.put, List.setIfInBounds_toArray, List.set_cons_zero, List.set_cons_succ]
    refine wpAnyH_ready (rs := [12]) (by kernel_rfl) (by simp) ?_
    refine AllReadyH.cons (by simp only [List.getElem?_toArray, List.getElem?_cons_zero, List.getElem?_cons_succ]; rfl) (fun K hK => ?_) AllReadyH.nil
    go_simp
    (go_at_call 41; refine (digIe (ST := Sv) _ (by omega) (by omega) Hv).mono ?_; rintro e9 v3 ⟨rfl, hbv3⟩)
    (try go_wp2_with fail)
    have zv3 := hbv3.size
    (try simp at zv3)
    have hP := (hbv3.block (w.heap.size) (by first | omega | (simp; done) | (simp; omega))).trans hP
    refine hK.out _ _ ?_ (fun hHeld2 => ?_)
    · first | trivial | ((try dsimp only); exact hP)
    clear hK K hHeld
    have hHeld := hHeld2
    clear hHeld2
    try simp only [Act.put, List.setIfInBounds_toArray, List.set_cons_zero, List.set_cons_succ]
    refine wpAnyH_take (i := 13) (v := ?_) (by simp only [List.getElem?_toArray, List.getElem?_cons_zero, List.getElem?_cons_succ]; rfl) (by kernel_rfl) (by kernel_rfl) (by kernel_rfl) (by intro _ _ _ h; exact h) (Or.inl ⟨by rfl, ?_⟩) (by assumption) ?_
    rotate_left
    · (intro w9 hSw; (try dsimp only at hSw); go_simp <;> with_reducible rfl)
    try simp only [Act.put, List.setIfInBounds_toArray, List.set_cons_zero, List.set_cons_succ]
    refine wpAnyH_take (i := 14) (v := ?_) (by simp only [List.getElem?_toArray, List.getElem?_cons_zero, List.getElem?_cons_succ]; rfl) (by kernel_rfl) (by kernel_rfl) (by kernel_rfl) (by intro _ _ _ h; exact h) (Or.inl ⟨by rfl, ?_⟩) (by assumption) ?_
    rotate_left
    · (intro w9 hSw; (try dsimp only at hSw); go_simp <;> with_reducible rfl)
    try simp only [Act.put, List.setIfInBounds_toArray, List.set_cons_zero, List.set_cons_succ]
    refine wpAnyH_done (by kernel_rfl) ?_ _
    have hbB : Below w.heap.size w v3 := bel_trans (bel_trans (bel_trans (bel_drew hbA) hbv1) hbv2) hbv3
    go_wp2
    go_ret
    exact ⟨ret_tx (unhide HT).symm, hbB⟩
  · obtain ⟨St, hSt⟩ : ∃ S, decI t = S := ⟨_, rfl⟩
    have zt : St.size ≤ 22 := by rw [← hSt]; exact decI_size t (by omega) (by omega)
    have Ht := hide hSt
    have hT : itmText 2 t k v n = ⟨#[109, 97, 114, 107, 32]⟩ ++ St := by rw [itmText_ok ho]; simp only [itmTxt, if_true, if_false, Int.reduceEq]; rw [hSt]
    have HT := hide hT
    clear hT hSt
    have s1 : ¬ 9223372036854775807 < 5 + St.size := by omega
    have HO := hide ho
    clear ho
    go_enter Tryz.func25, Tryz.ntmps25
    go_wp2_with fail
    refine (specitme _ HO).mono ?_
    rintro e w1 ⟨rfl, hb1⟩
    have z1 : w.heap.size < w1.heap.size := by have h9 := hb1.size; simp at h9; omega
    have hP : w1.heap[w.heap.size]? = some (.cells #[.int .i64 2, .int .i64 t, .int .i64 k, .int .i64 v, .int .i64 n] 45 (0, 0)) := (hb1.block _ (by simp)).trans blk_at0
    have c0 : w1.cell? ⟨w.heap.size, 0, none⟩ = some (.int .i64 2) := by simp [World.cell?, hP, go_sem]
    have c1 : w1.cell? ⟨w.heap.size, 1, none⟩ = some (.int .i64 t) := by simp [World.cell?, hP, go_sem]
    have c2 : w1.cell? ⟨w.heap.size, 2, none⟩ = some (.int .i64 k) := by simp [World.cell?, hP, go_sem]
    have c3 : w1.cell? ⟨w.heap.size, 3, none⟩ = some (.int .i64 v) := by simp [World.cell?, hP, go_sem]
    have c4 : w1.cell? ⟨w.heap.size, 4, none⟩ = some (.int .i64 n) := by simp [World.cell?, hP, go_sem]
    have hbA : Below w.heap.size w w1 := bel_trans (bel_one _ _) hb1
    go_wp2_with fail
    refine (digIe (ST := St) _ (by omega) (by omega) Ht).mono ?_
    rintro e w2 ⟨rfl, hb2⟩
    go_wp2
    go_ret
    exact ⟨ret_tx (unhide HT).symm, bel_trans hbA hb2⟩
  · obtain ⟨Sn, hSn⟩ : ∃ S, decI n = S := ⟨_, rfl⟩
    have zn : Sn.size ≤ 22 := by rw [← hSn]; exact decI_size n (by omega) (by omega)
    have Hn := hide hSn
    have hT : itmText 3 t k v n = ⟨#[119, 97, 108, 108, 32]⟩ ++ Sn := by rw [itmText_ok ho]; simp only [itmTxt, if_true, if_false, Int.reduceEq]; rw [hSn]
    have HT := hide hT
    clear hT hSn
    have s1 : ¬ 9223372036854775807 < 5 + Sn.size := by omega
    have HO := hide ho
    clear ho
    go_enter Tryz.func25, Tryz.ntmps25
    go_wp2_with fail
    refine (specitme _ HO).mono ?_
    rintro e w1 ⟨rfl, hb1⟩
    have z1 : w.heap.size < w1.heap.size := by have h9 := hb1.size; simp at h9; omega
    have hP : w1.heap[w.heap.size]? = some (.cells #[.int .i64 3, .int .i64 t, .int .i64 k, .int .i64 v, .int .i64 n] 45 (0, 0)) := (hb1.block _ (by simp)).trans blk_at0
    have c0 : w1.cell? ⟨w.heap.size, 0, none⟩ = some (.int .i64 3) := by simp [World.cell?, hP, go_sem]
    have c1 : w1.cell? ⟨w.heap.size, 1, none⟩ = some (.int .i64 t) := by simp [World.cell?, hP, go_sem]
    have c2 : w1.cell? ⟨w.heap.size, 2, none⟩ = some (.int .i64 k) := by simp [World.cell?, hP, go_sem]
    have c3 : w1.cell? ⟨w.heap.size, 3, none⟩ = some (.int .i64 v) := by simp [World.cell?, hP, go_sem]
    have c4 : w1.cell? ⟨w.heap.size, 4, none⟩ = some (.int .i64 n) := by simp [World.cell?, hP, go_sem]
    have hbA : Below w.heap.size w w1 := bel_trans (bel_one _ _) hb1
    go_wp2_with fail
    refine (digIe (ST := Sn) _ (by omega) (by omega) Hn).mono ?_
    rintro e w2 ⟨rfl, hb2⟩
    go_wp2
    go_ret
    exact ⟨ret_tx (unhide HT).symm, bel_trans hbA hb2⟩

set_option linter.unusedSimpArgs false in
set_option maxRecDepth 20000 in
set_option maxHeartbeats 2000000 in
theorem rectxt {q t k v n : Int} {St Sk Sv : ByteArray} (w : World) (htab : Lib.TabIs Tryz.prog w "internal/strconv.uint64pow10" .u64 Lib.pow10Tab) (bt1 : -99999999 ≤ t) (bt2 : t ≤ 99999999) (bk1 : -99999999 ≤ k) (bk2 : k ≤ 99999999) (bv1 : -99999999 ≤ v) (bv2 : v ≤ 99999999) (Ht : Hid (decI t = St)) (Hk : Hid (decI k = Sk)) (Hv : Hid (decI v = Sv)) : Calls Tryz.prog 110 #[.agg #[.int .i64 q, .int .i64 t, .int .i64 k, .int .i64 v, .int .i64 n]] w fun e w' => e = .returned (.string (⟨#[114, 101, 99, 32]⟩ ++ St ++ ⟨#[32]⟩ ++ Sk ++ ⟨#[32]⟩ ++ Sv)) ∧ Below w.heap.size w w' := by
  have zt : St.size ≤ 22 := by rw [← unhide Ht]; exact decI_size t (by omega) (by omega)
  have zk : Sk.size ≤ 22 := by rw [← unhide Hk]; exact decI_size k (by omega) (by omega)
  have zv : Sv.size ≤ 22 := by rw [← unhide Hv]; exact decI_size v (by omega) (by omega)
  have s1 : ¬ 9223372036854775807 < 4 + St.size := by omega
  have s2 : ¬ 9223372036854775807 < 4 + St.size + 1 := by omega
  have s3 : ¬ 9223372036854775807 < 4 + St.size + 1 + Sk.size := by omega
  have s4 : ¬ 9223372036854775807 < 4 + St.size + 1 + Sk.size + 1 := by omega
  have s5 : ¬ 9223372036854775807 < 4 + St.size + 1 + Sk.size + 1 + Sv.size := by omega
  have hP : (w.alloc (.cells #[.int .i64 q, .int .i64 t, .int .i64 k, .int .i64 v, .int .i64 n] 76)).heap[w.heap.size]? = some (.cells #[.int .i64 q, .int .i64 t, .int .i64 k, .int .i64 v, .int .i64 n] 76 (0, 0)) := blk_at0
  go_enter Tryz.func110, Tryz.ntmps110
  go_wp2_with fail
  have hbA : Below w.heap.size w (w.alloc (.cells #[.int .i64 q, .int .i64 t, .int .i64 k, .int .i64 v, .int .i64 n] 76)) := bel_one _ _
  generalize w.alloc (.cells #[.int .i64 q, .int .i64 t, .int .i64 k, .int .i64 v, .int .i64 n] 76) = w1 at hP hbA ⊢
  have z1 : w.heap.size < w1.heap.size := (Array.getElem?_eq_some_iff.1 hP).1
  refine wp_region_held_drew (S := (fun W => W.heap[w.heap.size]? = some (.cells #[.int .i64 q, .int .i64 t, .int .i64 k, .int .i64 v, .int .i64 n] 76 (0, 0)))) (by kernel_rfl) ?_ (fun hHeld => ?_)
  · first | trivial | ((try dsimp only); exact hP)
  refine wpAnyH_take (i := 0) (v := ?_) (by simp only [List.getElem?_toArray, List.getElem?_cons_zero, List.getElem?_cons_succ]; rfl) (by kernel_rfl) (by kernel_rfl) (by kernel_rfl) (by intro _ _ _ h; exact h) (Or.inl ⟨by rfl, ?_⟩) (by assumption) ?_
  rotate_left
  · (intro w9 hSw; (try dsimp only at hSw); go_simp <;> with_reducible rfl)
  try simp only [Act.put, List.setIfInBounds_toArray, List.set_cons_zero, List.set_cons_succ]
  refine wpAnyH_take (i := 1) (v := ?_) (by simp only [List.getElem?_toArray, List.getElem?_cons_zero, List.getElem?_cons_succ]; rfl) (by kernel_rfl) (by kernel_rfl) (by kernel_rfl) (by intro _ _ _ h; exact h) (Or.inl ⟨by rfl, ?_⟩) (by assumption) ?_
  rotate_left
  · (intro w9 hSw; (try dsimp only at hSw); have q0 := hSw; have g0x0 : w9.cell? ⟨w.heap.size, 0, none⟩ = some (.int .i64 q) := (by simp [World.cell?, q0, go_sem]); have g0x1 : w9.cell? ⟨w.heap.size, 1, none⟩ = some (.int .i64 t) := (by simp [World.cell?, q0, go_sem]); have g0x2 : w9.cell? ⟨w.heap.size, 2, none⟩ = some (.int .i64 k) := (by simp [World.cell?, q0, go_sem]); have g0x3 : w9.cell? ⟨w.heap.size, 3, none⟩ = some (.int .i64 v) := (by simp [World.cell?, q0, go_sem]); have g0x4 : w9.cell? ⟨w.heap.size, 4, none⟩ = some (.int .i64 n) := (by simp [World.cell?, q0, go_sem]); go_simp <;> with_reducible rfl)
  try simp only [Act.put, List.setIfInBounds_toArray, List.set_cons_zero, List.set_cons_succ]
  refine wpAnyH_take (i := 5) (v := ?_) (by simp only [List.getElem?_toArray, List.getElem?_cons_zero, List.getElem?_cons_succ]; rfl) (by kernel_rfl) (by kernel_rfl) (by kernel_rfl) (by intro _ _ _ h; exact h) (Or.inl ⟨by rfl, ?_⟩) (by assumption) ?_
  rotate_left
  · (intro w9 hSw; (try dsimp only at hSw); go_simp <;> with_reducible rfl)
  try simp only [Act.put, List.setIfInBounds_toArray, List.set_cons_zero, List.set_cons_succ]
  refine wpAnyH_take (i := 6) (v := ?_) (by simp only [List.getElem?_toArray, List.getElem?_cons_zero, List.getElem?_cons_succ]; rfl) (by kernel_rfl) (by kernel_rfl) (by kernel_rfl) (by intro _ _ _ h; exact h) (Or.inl ⟨by rfl, ?_⟩) (by assumption) ?_
  rotate_left
  · (intro w9 hSw; (try dsimp only at hSw); have q0 := hSw; have g0x0 : w9.cell? ⟨w.heap.size, 0, none⟩ = some (.int .i64 q) := (by simp [World.cell?, q0, go_sem]); have g0x1 : w9.cell? ⟨w.heap.size, 1, none⟩ = some (.int .i64 t) := (by simp [World.cell?, q0, go_sem]); have g0x2 : w9.cell? ⟨w.heap.size, 2, none⟩ = some (.int .i64 k) := (by simp [World.cell?, q0, go_sem]); have g0x3 : w9.cell? ⟨w.heap.size, 3, none⟩ = some (.int .i64 v) := (by simp [World.cell?, q0, go_sem]); have g0x4 : w9.cell? ⟨w.heap.size, 4, none⟩ = some (.int .i64 n) := (by simp [World.cell?, q0, go_sem]); go_simp <;> with_reducible rfl)
  try simp only [Act.put, List.setIfInBounds_toArray, List.set_cons_zero, List.set_cons_succ]
  refine wpAnyH_take (i := 10) (v := ?_) (by simp only [List.getElem?_toArray, List.getElem?_cons_zero, List.getElem?_cons_succ]; rfl) (by kernel_rfl) (by kernel_rfl) (by kernel_rfl) (by intro _ _ _ h; exact h) (Or.inl ⟨by rfl, ?_⟩) (by assumption) ?_
  rotate_left
  · (intro w9 hSw; (try dsimp only at hSw); go_simp <;> with_reducible rfl)
  try simp only [Act.put, List.setIfInBounds_toArray, List.set_cons_zero, List.set_cons_succ]
  refine wpAnyH_take (i := 11) (v := ?_) (by simp only [List.getElem?_toArray, List.getElem?_cons_zero, List.getElem?_cons_succ]; rfl) (by kernel_rfl) (by kernel_rfl) (by kernel_rfl) (by intro _ _ _ h; exact h) (Or.inl ⟨by rfl, ?_⟩) (by assumption) ?_
  rotate_left
  · (intro w9 hSw; (try dsimp only at hSw); have q0 := hSw; have g0x0 : w9.cell? ⟨w.heap.size, 0, none⟩ = some (.int .i64 q) := (by simp [World.cell?, q0, go_sem]); have g0x1 : w9.cell? ⟨w.heap.size, 1, none⟩ = some (.int .i64 t) := (by simp [World.cell?, q0, go_sem]); have g0x2 : w9.cell? ⟨w.heap.size, 2, none⟩ = some (.int .i64 k) := (by simp [World.cell?, q0, go_sem]); have g0x3 : w9.cell? ⟨w.heap.size, 3, none⟩ = some (.int .i64 v) := (by simp [World.cell?, q0, go_sem]); have g0x4 : w9.cell? ⟨w.heap.size, 4, none⟩ = some (.int .i64 n) := (by simp [World.cell?, q0, go_sem]); go_simp <;> with_reducible rfl)
  try simp only [Act.put, List.setIfInBounds_toArray, List.set_cons_zero, List.set_cons_succ]
  refine wpAnyH_ready (rs := [2]) (by kernel_rfl) (by simp) ?_
  refine AllReadyH.cons (by simp only [List.getElem?_toArray, List.getElem?_cons_zero, List.getElem?_cons_succ]; rfl) (fun K hK => ?_) AllReadyH.nil
  go_simp
  (go_at_call 57; refine (itoaIe (ST := St) _ (by omega) (by omega) (tab_bel htab (by repeat (first | (with_reducible exact Below.refl _ _) | (with_reducible assumption) | (with_reducible refine bel_set ?_ (by first | (simp; done) | (simp; omega)) _) | (with_reducible refine bel_alloc ?_ _) | (with_reducible refine bel_drew ?_) | (with_reducible refine bel_drewN ?_ _) | (with_reducible refine bel_trans ?_ (by with_reducible assumption))))) Ht).mono ?_; rintro e9 v1 ⟨rfl, hbv1⟩)
  (try go_wp2_with fail)
  have zv1 := hbv1.size
  (try simp at zv1)
  have hP := (hbv1.block (w.heap.size) (by first | omega | (simp; done) | (simp; omega))).trans hP
  refine hK.out _ _ ?_ (fun hHeld2 => ?_)
  · first | trivial | ((try dsimp only); exact hP)
  clear hK K hHeld
  have hHeld := hHeld2
  clear hHeld2
  try simp only [Act.put, List.setIfInBounds_toArray, List.set_cons_zero, List.set_cons_succ]
  refine wpAnyH_take (i := 3) (v := ?_) (by simp only [List.getElem?_toArray, List.getElem?_cons_zero, List.getElem?_cons_succ]; rfl) (by kernel_rfl) (by kernel_rfl) (by kernel_rfl) (by intro _ _ _ h; exact h) (Or.inl ⟨by rfl, ?_⟩) (by assumption) ?_
  rotate_left
  · (intro w9 hSw; (try dsimp only at hSw); go_simp <;> with_reducible rfl)
  try simp only [Act.put, List.setIfInBounds_toArray, List.set_cons_zero, List.set_cons_succ]
  refine wpAnyH_take (i := 4) (v := ?_) (by simp only [List.getElem?_toArray, List.getElem?_cons_zero, List.getElem?_cons_succ]; rfl) (by kernel_rfl) (by kernel_rfl) (by kernel_rfl) (by intro _ _ _ h; exact h) (Or.inl ⟨by rfl, ?_⟩) (by assumption) ?_
  rotate_left
  · (intro w9 hSw; (try dsimp only at hSw); go_simp <;> with_reducible rfl)
  try simp only [Act.put, List.setIfInBounds_toArray, List.set_cons_zero, List.set_cons_succ]
  refine wpAnyH_ready (rs := [7]) (by kernel_rfl) (by simp) ?_
  refine AllReadyH.cons (by simp only [List.getElem?_toArray, List.getElem?_cons_zero, List.getElem?_cons_succ]; rfl) (fun K hK => ?_) AllReadyH.nil
  go_simp
  (go_at_call 57; refine (itoaIe (ST := Sk) _ (by omega) (by omega) (tab_bel htab (by repeat (first | (with_reducible exact Below.refl _ _) | (with_reducible assumption) | (with_reducible refine bel_set ?_ (by first | (simp; done) | (simp; omega)) _) | (with_reducible refine bel_alloc ?_ _) | (with_reducible refine bel_drew ?_) | (with_reducible refine bel_drewN ?_ _) | (with_reducible refine bel_trans ?_ (by with_reducible assumption))))) Hk).mono ?_; rintro e9 v2 ⟨rfl, hbv2⟩)
  (try go_wp2_with fail)
  have zv2 := hbv2.size
  (try simp at zv2)
  have hP := (hbv2.block (w.heap.size) (by first | omega | (simp; done) | (simp; omega))).trans hP
  refine hK.out _ _ ?_ (fun hHeld2 => ?_)
  · first | trivial | ((try dsimp only); exact hP)
  clear hK K hHeld
  have hHeld := hHeld2
  clear hHeld2
  try simp only [Act.put, List.setIfInBounds_toArray, List.set_cons_zero, List.set_cons_succ]
  refine wpAnyH_take (i := 8) (v := ?_) (by simp only [List.getElem?_toArray, List.getElem?_cons_zero, List.getElem?_cons_succ]; rfl) (by kernel_rfl) (by kernel_rfl) (by kernel_rfl) (by intro _ _ _ h; exact h) (Or.inl ⟨by rfl, ?_⟩) (by assumption) ?_
  rotate_left
  · (intro w9 hSw; (try dsimp only at hSw); go_simp <;> with_reducible rfl)
  try simp only [Act.put, List.setIfInBounds_toArray, List.set_cons_zero, List.set_cons_succ]
  refine wpAnyH_take (i := 9) (v := ?_) (by simp only [List.getElem?_toArray, List.getElem?_cons_zero, List.getElem?_cons_succ]; rfl) (by kernel_rfl) (by kernel_rfl) (by kernel_rfl) (by intro _ _ _ h; exact h) (Or.inl ⟨by rfl, ?_⟩) (by assumption) ?_
  rotate_left
  · (intro w9 hSw; (try dsimp only at hSw); go_simp <;> with_reducible rfl)
  try simp only [Act.put, List.setIfInBounds_toArray, List.set_cons_zero, List.set_cons_succ]
  refine wpAnyH_ready (rs := [12]) (by kernel_rfl) (by simp) ?_
  refine AllReadyH.cons (by simp only [List.getElem?_toArray, List.getElem?_cons_zero, List.getElem?_cons_succ]; rfl) (fun K hK => ?_) AllReadyH.nil
  go_simp
  (go_at_call 57; refine (itoaIe (ST := Sv) _ (by omega) (by omega) (tab_bel htab (by repeat (first | (with_reducible exact Below.refl _ _) | (with_reducible assumption) | (with_reducible refine bel_set ?_ (by first | (simp; done) | (simp; omega)) _) | (with_reducible refine bel_alloc ?_ _) | (with_reducible refine bel_drew ?_) | (with_reducible refine bel_drewN ?_ _) | (with_reducible refine bel_trans ?_ (by with_reducible assumption))))) Hv).mono ?_; rintro e9 v3 ⟨rfl, hbv3⟩)
  (try go_wp2_with fail)
  have zv3 := hbv3.size
  (try simp at zv3)
  have hP := (hbv3.block (w.heap.size) (by first | omega | (simp; done) | (simp; omega))).trans hP
  refine hK.out _ _ ?_ (fun hHeld2 => ?_)
  · first | trivial | ((try dsimp only); exact hP)
  clear hK K hHeld
  have hHeld := hHeld2
  clear hHeld2
  try simp only [Act.put, List.setIfInBounds_toArray, List.set_cons_zero, List.set_cons_succ]
  refine wpAnyH_take (i := 13) (v := ?_) (by simp only [List.getElem?_toArray, List.getElem?_cons_zero, List.getElem?_cons_succ]; rfl) (by kernel_rfl) (by kernel_rfl) (by kernel_rfl) (by intro _ _ _ h; exact h) (Or.inl ⟨by rfl, ?_⟩) (by assumption) ?_
  rotate_left
  · (intro w9 hSw; (try dsimp only at hSw); go_simp <;> with_reducible rfl)
  try simp only [Act.put, List.setIfInBounds_toArray, List.set_cons_zero, List.set_cons_succ]
  refine wpAnyH_take (i := 14) (v := ?_) (by simp only [List.getElem?_toArray, List.getElem?_cons_zero, List.getElem?_cons_succ]; rfl) (by kernel_rfl) (by kernel_rfl) (by kernel_rfl) (by intro _ _ _ h; exact h) (Or.inl ⟨by rfl, ?_⟩) (by assumption) ?_
  rotate_left
  · (intro w9 hSw; (try dsimp only at hSw); go_simp <;> with_reducible rfl)
  try simp only [Act.put, List.setIfInBounds_toArray, List.set_cons_zero, List.set_cons_succ]
  refine wpAnyH_done (by kernel_rfl) ?_ _
  have hbB : Below w.heap.size w v3 := bel_trans (bel_trans (bel_trans (bel_drew hbA) hbv1) hbv2) hbv3
  go_wp2
  go_ret
  exact ⟨rfl, hbB⟩

set_option linter.unusedSimpArgs false in
set_option maxRecDepth 20000 in
set_option maxHeartbeats 2000000 in
theorem marktxt {q t k v n : Int} {St : ByteArray} (w : World) (htab : Lib.TabIs Tryz.prog w "internal/strconv.uint64pow10" .u64 Lib.pow10Tab) (bt1 : -99999999 ≤ t) (bt2 : t ≤ 99999999) (Ht : Hid (decI t = St)) : Calls Tryz.prog 111 #[.agg #[.int .i64 q, .int .i64 t, .int .i64 k, .int .i64 v, .int .i64 n]] w fun e w' => e = .returned (.string (⟨#[109, 97, 114, 107, 32]⟩ ++ St)) ∧ Below w.heap.size w w' := by
  have zt : St.size ≤ 22 := by rw [← unhide Ht]; exact decI_size t (by omega) (by omega)
  have s1 : ¬ 9223372036854775807 < 5 + St.size := by omega
  have hP : (w.alloc (.cells #[.int .i64 q, .int .i64 t, .int .i64 k, .int .i64 v, .int .i64 n] 77)).heap[w.heap.size]? = some (.cells #[.int .i64 q, .int .i64 t, .int .i64 k, .int .i64 v, .int .i64 n] 77 (0, 0)) := blk_at0
  go_enter Tryz.func111, Tryz.ntmps111
  go_wp2_with fail
  refine (itoaIe (ST := St) _ (by omega) (by omega) (tab_bel htab (bel_one _ _)) Ht).mono ?_
  rintro e w2 ⟨rfl, hb2⟩
  go_wp2
  go_ret
  exact ⟨rfl, bel_trans (bel_one _ _) hb2⟩

set_option linter.unusedSimpArgs false in
set_option maxRecDepth 20000 in
set_option maxHeartbeats 2000000 in
theorem walltxt {q t k v n : Int} {Sn : ByteArray} (w : World) (htab : Lib.TabIs Tryz.prog w "internal/strconv.uint64pow10" .u64 Lib.pow10Tab) (bn1 : -99999999 ≤ n) (bn2 : n ≤ 99999999) (Hn : Hid (decI n = Sn)) : Calls Tryz.prog 113 #[.agg #[.int .i64 q, .int .i64 t, .int .i64 k, .int .i64 v, .int .i64 n]] w fun e w' => e = .returned (.string (⟨#[119, 97, 108, 108, 32]⟩ ++ Sn)) ∧ Below w.heap.size w w' := by
  have zn : Sn.size ≤ 22 := by rw [← unhide Hn]; exact decI_size n (by omega) (by omega)
  have s1 : ¬ 9223372036854775807 < 5 + Sn.size := by omega
  have hP : (w.alloc (.cells #[.int .i64 q, .int .i64 t, .int .i64 k, .int .i64 v, .int .i64 n] 78)).heap[w.heap.size]? = some (.cells #[.int .i64 q, .int .i64 t, .int .i64 k, .int .i64 v, .int .i64 n] 78 (0, 0)) := blk_at0
  go_enter Tryz.func113, Tryz.ntmps113
  go_wp2_with fail
  refine (itoaIe (ST := Sn) _ (by omega) (by omega) (tab_bel htab (bel_one _ _)) Hn).mono ?_
  rintro e w2 ⟨rfl, hb2⟩
  go_wp2
  go_ret
  exact ⟨rfl, bel_trans (bel_one _ _) hb2⟩

set_option linter.unusedSimpArgs false in
set_option maxRecDepth 20000 in
set_option maxHeartbeats 2000000 in
theorem implitmtext_any (q t k v n : Int) (w : World) (htab : Lib.TabIs Tryz.prog w "internal/strconv.uint64pow10" .u64 Lib.pow10Tab) : Calls Tryz.prog 19 #[.agg #[.int .i64 q, .int .i64 t, .int .i64 k, .int .i64 v, .int .i64 n]] w fun e w' => e = .returned (.string (itmText q t k v n)) ∧ Below w.heap.size w w' := by
  cases ho : okItm q t k v n
  · have HT := hide (itmText_no ho)
    by_cases h1 : q = 1
    · subst h1
      have hm : ∀ w : World, (method 253 76 (.agg #[.int .i64 1, .int .i64 t, .int .i64 k, .int .i64 v, .int .i64 n]) "loop.example/freshet/impl.ok").run Tryz.prog w = .ok (43, .agg #[.int .i64 1, .int .i64 t, .int .i64 k, .int .i64 v, .int .i64 n]) w := fun _ => by kernel_rfl
      have hp : partV 1 t k v n = .iface 76 (.agg #[.int .i64 1, .int .i64 t, .int .i64 k, .int .i64 v, .int .i64 n]) := rfl
      have HO : Hid (okRec t k v n = false) := hide (by rw [← okItm_1]; exact ho)
      clear ho
      go_enter Tryz.func19, Tryz.ntmps19
      go_wp2_with fail
      refine (partOf_any _ _ _ _ _ _).mono ?_
      rintro e w1 ⟨rfl, hb1⟩
      rw [hp]
      clear hp
      go_wp2_with fail
      refine (recok_any _ _ _ _ _ _).mono ?_
      rw [unhide HO]
      rintro e w2 ⟨rfl, hb2⟩
      go_wp2
      go_ret
      exact ⟨ret_tx (unhide HT).symm, bel_trans (bel_trans (bel_one _ _) hb1) hb2⟩
    by_cases h2 : q = 2
    · subst h2
      have hm : ∀ w : World, (method 253 77 (.agg #[.int .i64 2, .int .i64 t, .int .i64 k, .int .i64 v, .int .i64 n]) "loop.example/freshet/impl.ok").run Tryz.prog w = .ok (44, .agg #[.int .i64 2, .int .i64 t, .int .i64 k, .int .i64 v, .int .i64 n]) w := fun _ => by kernel_rfl
      have hp : partV 2 t k v n = .iface 77 (.agg #[.int .i64 2, .int .i64 t, .int .i64 k, .int .i64 v, .int .i64 n]) := rfl
      have HO : Hid (okMark t k v n = false) := hide (by rw [← okItm_2]; exact ho)
      clear ho
      go_enter Tryz.func19, Tryz.ntmps19
      go_wp2_with fail
      refine (partOf_any _ _ _ _ _ _).mono ?_
      rintro e w1 ⟨rfl, hb1⟩
      rw [hp]
      clear hp
      go_wp2_with fail
      refine (markok_any _ _ _ _ _ _).mono ?_
      rw [unhide HO]
      rintro e w2 ⟨rfl, hb2⟩
      go_wp2
      go_ret
      exact ⟨ret_tx (unhide HT).symm, bel_trans (bel_trans (bel_one _ _) hb1) hb2⟩
    by_cases h3 : q = 3
    · subst h3
      have hm : ∀ w : World, (method 253 78 (.agg #[.int .i64 3, .int .i64 t, .int .i64 k, .int .i64 v, .int .i64 n]) "loop.example/freshet/impl.ok").run Tryz.prog w = .ok (112, .agg #[.int .i64 3, .int .i64 t, .int .i64 k, .int .i64 v, .int .i64 n]) w := fun _ => by kernel_rfl
      have hp : partV 3 t k v n = .iface 78 (.agg #[.int .i64 3, .int .i64 t, .int .i64 k, .int .i64 v, .int .i64 n]) := rfl
      have HO : Hid (okWall t k v n = false) := hide (by rw [← okItm_3]; exact ho)
      clear ho
      go_enter Tryz.func19, Tryz.ntmps19
      go_wp2_with fail
      refine (partOf_any _ _ _ _ _ _).mono ?_
      rintro e w1 ⟨rfl, hb1⟩
      rw [hp]
      clear hp
      go_wp2_with fail
      refine (wallok_any _ _ _ _ _ _).mono ?_
      rw [unhide HO]
      rintro e w2 ⟨rfl, hb2⟩
      go_wp2
      go_ret
      exact ⟨ret_tx (unhide HT).symm, bel_trans (bel_trans (bel_one _ _) hb1) hb2⟩
    · skip
      have hm : ∀ w : World, (method 253 79 (.agg #[.int .i64 q, .int .i64 t, .int .i64 k, .int .i64 v, .int .i64 n]) "loop.example/freshet/impl.ok").run Tryz.prog w = .ok (114, .agg #[.int .i64 q, .int .i64 t, .int .i64 k, .int .i64 v, .int .i64 n]) w := fun _ => by kernel_rfl
      have hp : partV q t k v n = .iface 79 (.agg #[.int .i64 q, .int .i64 t, .int .i64 k, .int .i64 v, .int .i64 n]) := by unfold partV; rw [if_neg h1, if_neg h2, if_neg h3]
      clear ho h1 h2 h3
      go_enter Tryz.func19, Tryz.ntmps19
      go_wp2_with fail
      refine (partOf_any _ _ _ _ _ _).mono ?_
      rintro e w1 ⟨rfl, hb1⟩
      rw [hp]
      clear hp
      go_wp2_with fail
      refine (noneok_any _ _ _ _ _ _).mono ?_
      rintro e w2 ⟨rfl, hb2⟩
      go_wp2
      go_ret
      exact ⟨ret_tx (unhide HT).symm, bel_trans (bel_trans (bel_one _ _) hb1) hb2⟩
  obtain ⟨hq, bt, bk, bv, bn, -⟩ := okItm_bd ho
  rcases hq with rfl | rfl | rfl
  · obtain ⟨St, hSt⟩ : ∃ S, decI t = S := ⟨_, rfl⟩
    have zt : St.size ≤ 22 := by rw [← hSt]; exact decI_size t (by omega) (by omega)
    have Ht := hide hSt
    obtain ⟨Sk, hSk⟩ : ∃ S, decI k = S := ⟨_, rfl⟩
    have zk : Sk.size ≤ 22 := by rw [← hSk]; exact decI_size k (by omega) (by omega)
    have Hk := hide hSk
    obtain ⟨Sv, hSv⟩ : ∃ S, decI v = S := ⟨_, rfl⟩
    have zv : Sv.size ≤ 22 := by rw [← hSv]; exact decI_size v (by omega) (by omega)
    have Hv := hide hSv
    have hT : itmText 1 t k v n = ⟨#[114, 101, 99, 32]⟩ ++ St ++ ⟨#[32]⟩ ++ Sk ++ ⟨#[32]⟩ ++ Sv := by rw [itmText_ok ho]; simp only [itmTxt, if_true, if_false, Int.reduceEq]; rw [hSt, hSk, hSv]
    have HT := hide hT
    clear hT hSt hSk hSv
    have s1 : ¬ 9223372036854775807 < 4 + St.size := by omega
    have s2 : ¬ 9223372036854775807 < 4 + St.size + 1 := by omega
    have s3 : ¬ 9223372036854775807 < 4 + St.size + 1 + Sk.size := by omega
    have s4 : ¬ 9223372036854775807 < 4 + St.size + 1 + Sk.size + 1 := by omega
    have s5 : ¬ 9223372036854775807 < 4 + St.size + 1 + Sk.size + 1 + Sv.size := by omega
    have hp : partV 1 t k v n = .iface 76 (.agg #[.int .i64 1, .int .i64 t, .int .i64 k, .int .i64 v, .int .i64 n]) := rfl
    have hmok : ∀ w : World, (method 253 76 (.agg #[.int .i64 1, .int .i64 t, .int .i64 k, .int .i64 v, .int .i64 n]) "loop.example/freshet/impl.ok").run Tryz.prog w = .ok (43, .agg #[.int .i64 1, .int .i64 t, .int .i64 k, .int .i64 v, .int .i64 n]) w := fun _ => by kernel_rfl
    have hmtext : ∀ w : World, (method 253 76 (.agg #[.int .i64 1, .int .i64 t, .int .i64 k, .int .i64 v, .int .i64 n]) "loop.example/freshet/impl.text").run Tryz.prog w = .ok (110, .agg #[.int .i64 1, .int .i64 t, .int .i64 k, .int .i64 v, .int .i64 n]) w := fun _ => by kernel_rfl
    have HO : Hid (okRec t k v n = true) := hide (by rw [← okItm_1]; exact ho)
    clear ho
    go_enter Tryz.func19, Tryz.ntmps19
    go_wp2_with fail
    refine (partOf_any _ _ _ _ _ _).mono ?_
    rintro e w1 ⟨rfl, hb1⟩
    rw [hp]
    clear hp
    go_wp2_with fail
    refine (recok_any _ _ _ _ _ _).mono ?_
    rw [unhide HO]
    rintro e w2 ⟨rfl, hb2⟩
    have hbA : Below w.heap.size w w2 := bel_trans (bel_trans (bel_one _ _) hb1) hb2
    go_wp2_with fail
    refine (rectxt _ (tab_bel htab hbA) (by omega) (by omega) (by omega) (by omega) (by omega) (by omega) Ht Hk Hv).mono ?_
    rintro e w3 ⟨rfl, hb3⟩
    go_wp2
    go_ret
    exact ⟨ret_tx (unhide HT).symm, bel_trans hbA hb3⟩
  · obtain ⟨St, hSt⟩ : ∃ S, decI t = S := ⟨_, rfl⟩
    have zt : St.size ≤ 22 := by rw [← hSt]; exact decI_size t (by omega) (by omega)
    have Ht := hide hSt
    have hT : itmText 2 t k v n = ⟨#[109, 97, 114, 107, 32]⟩ ++ St := by rw [itmText_ok ho]; simp only [itmTxt, if_true, if_false, Int.reduceEq]; rw [hSt]
    have HT := hide hT
    clear hT hSt
    have s1 : ¬ 9223372036854775807 < 5 + St.size := by omega
    have hp : partV 2 t k v n = .iface 77 (.agg #[.int .i64 2, .int .i64 t, .int .i64 k, .int .i64 v, .int .i64 n]) := rfl
    have hmok : ∀ w : World, (method 253 77 (.agg #[.int .i64 2, .int .i64 t, .int .i64 k, .int .i64 v, .int .i64 n]) "loop.example/freshet/impl.ok").run Tryz.prog w = .ok (44, .agg #[.int .i64 2, .int .i64 t, .int .i64 k, .int .i64 v, .int .i64 n]) w := fun _ => by kernel_rfl
    have hmtext : ∀ w : World, (method 253 77 (.agg #[.int .i64 2, .int .i64 t, .int .i64 k, .int .i64 v, .int .i64 n]) "loop.example/freshet/impl.text").run Tryz.prog w = .ok (111, .agg #[.int .i64 2, .int .i64 t, .int .i64 k, .int .i64 v, .int .i64 n]) w := fun _ => by kernel_rfl
    have HO : Hid (okMark t k v n = true) := hide (by rw [← okItm_2]; exact ho)
    clear ho
    go_enter Tryz.func19, Tryz.ntmps19
    go_wp2_with fail
    refine (partOf_any _ _ _ _ _ _).mono ?_
    rintro e w1 ⟨rfl, hb1⟩
    rw [hp]
    clear hp
    go_wp2_with fail
    refine (markok_any _ _ _ _ _ _).mono ?_
    rw [unhide HO]
    rintro e w2 ⟨rfl, hb2⟩
    have hbA : Below w.heap.size w w2 := bel_trans (bel_trans (bel_one _ _) hb1) hb2
    go_wp2_with fail
    refine (marktxt _ (tab_bel htab hbA) (by omega) (by omega) Ht).mono ?_
    rintro e w3 ⟨rfl, hb3⟩
    go_wp2
    go_ret
    exact ⟨ret_tx (unhide HT).symm, bel_trans hbA hb3⟩
  · obtain ⟨Sn, hSn⟩ : ∃ S, decI n = S := ⟨_, rfl⟩
    have zn : Sn.size ≤ 22 := by rw [← hSn]; exact decI_size n (by omega) (by omega)
    have Hn := hide hSn
    have hT : itmText 3 t k v n = ⟨#[119, 97, 108, 108, 32]⟩ ++ Sn := by rw [itmText_ok ho]; simp only [itmTxt, if_true, if_false, Int.reduceEq]; rw [hSn]
    have HT := hide hT
    clear hT hSn
    have s1 : ¬ 9223372036854775807 < 5 + Sn.size := by omega
    have hp : partV 3 t k v n = .iface 78 (.agg #[.int .i64 3, .int .i64 t, .int .i64 k, .int .i64 v, .int .i64 n]) := rfl
    have hmok : ∀ w : World, (method 253 78 (.agg #[.int .i64 3, .int .i64 t, .int .i64 k, .int .i64 v, .int .i64 n]) "loop.example/freshet/impl.ok").run Tryz.prog w = .ok (112, .agg #[.int .i64 3, .int .i64 t, .int .i64 k, .int .i64 v, .int .i64 n]) w := fun _ => by kernel_rfl
    have hmtext : ∀ w : World, (method 253 78 (.agg #[.int .i64 3, .int .i64 t, .int .i64 k, .int .i64 v, .int .i64 n]) "loop.example/freshet/impl.text").run Tryz.prog w = .ok (113, .agg #[.int .i64 3, .int .i64 t, .int .i64 k, .int .i64 v, .int .i64 n]) w := fun _ => by kernel_rfl
    have HO : Hid (okWall t k v n = true) := hide (by rw [← okItm_3]; exact ho)
    clear ho
    go_enter Tryz.func19, Tryz.ntmps19
    go_wp2_with fail
    refine (partOf_any _ _ _ _ _ _).mono ?_
    rintro e w1 ⟨rfl, hb1⟩
    rw [hp]
    clear hp
    go_wp2_with fail
    refine (wallok_any _ _ _ _ _ _).mono ?_
    rw [unhide HO]
    rintro e w2 ⟨rfl, hb2⟩
    have hbA : Below w.heap.size w w2 := bel_trans (bel_trans (bel_one _ _) hb1) hb2
    go_wp2_with fail
    refine (walltxt _ (tab_bel htab hbA) (by omega) (by omega) Hn).mono ?_
    rintro e w3 ⟨rfl, hb3⟩
    go_wp2
    go_ret
    exact ⟨ret_tx (unhide HT).symm, bel_trans hbA hb3⟩
end Go.Proofs.YtcokdcehjibanaaGreatDoor
