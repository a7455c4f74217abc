/- Laid together: texts that were built one by one. -/
import Derived.Test.YtbockbdlojkpiaaGreatOrdD
import Derived.Test.YtbockbdlojkpiaaGreatPkA0
import Derived.Test.YtbockbdlojkpiaaGreatPkA6
import Derived.Test.YtbockbdlojkpiaaGreatFrTab
/- Proved here: the law that tables hang on no order returns true at every code. -/
namespace Go.Proofs.YtbockbdlojkpiaaGreat
open Go.ChangeShapes Go.WideShapes Go.ChangeAt Go.RowKit
set_option linter.unusedVariables false

set_option linter.unusedSimpArgs false
theorem recsB_perm {xs ys : List IwR} (p : xs.Perm ys) : recsB xs = recsB ys := by
  unfold recsB
  rw [p.length_eq]
  congr 1
  rw [Bool.eq_iff_iff, List.all_eq_true, List.all_eq_true]
  exact ⟨fun h x hx => h x (p.mem_iff.2 hx), fun h x hx => h x (p.mem_iff.1 hx)⟩
theorem winsOf_lt {k z p t : Int} (hz : 1 ≤ z) (hp : 0 ≤ p) : ∀ x ∈ winsOf k z p t, x.a < x.b := by
  intro x hx
  unfold winsOf at hx
  split at hx
  · simp at hx; subst hx; simp; omega
  · split at hx
    · simp at hx; subst hx; simp; omega
    · have := slideGo_bd z p t hp 61 0 (by omega) x hx
      omega
theorem pairsT_wv (s t k z p l e v r : Int) (xs : List IwR) : ∀ x ∈ pairsT s t k z p l e v r xs, x.st < x.en ∧ -1000000 ≤ x.va ∧ x.va ≤ 1000000 := by
  intro x hx
  unfold pairsT at hx
  split at hx
  · rename_i hc
    simp only [Bool.and_eq_true] at hc
    obtain ⟨hj, hr⟩ := hc
    have ha := (recsB_iff hr).2
    unfold prsT at hx
    obtain ⟨y, hy, hx⟩ := List.mem_flatMap.1 hx
    unfold prsOf at hx
    obtain ⟨q, hq, rfl⟩ := List.mem_map.1 hx
    have hb := List.all_eq_true.1 ha y hy
    have hk : -9 ≤ y.va ∧ y.va ≤ 9 := by
      unfold IwR.isB isRecB okRec at hb
      simp only [Bool.and_eq_true] at hb
      exact inB_iff.1 hb.2.1.2
    unfold okJob at hj
    simp only [Bool.and_eq_true] at hj
    have hz := inB_iff.1 hj.1.1.1.1.1.2
    have hs := hj.1.1.1.1.2
    have hp : 0 ≤ p := by
      unfold stepB at hs
      split at hs
      · simp only [Bool.and_eq_true] at hs
        have := inB_iff.1 hs.1
        omega
      · simp at hs
        omega
    have h4 := winsOf_lt hz.1 hp q hq
    exact ⟨h4, by simp [mkP]; omega, by simp [mkP]; omega⟩
  · cases hx
theorem flat_perm2 {α β : Type} (f : α → List β) {a b : List α} (p : a.Perm b) : (a.flatMap f).Perm (b.flatMap f) := by
  induction p with
  | nil => exact List.Perm.refl _
  | cons x _ ih => simp only [List.flatMap_cons]; exact List.Perm.append_left _ ih
  | swap x y l =>
    simp only [List.flatMap_cons]
    rw [← List.append_assoc, ← List.append_assoc]
    exact List.Perm.append_right _ List.perm_append_comm
  | trans _ _ h1 h2 => exact h1.trans h2
theorem tab_perm (s t k z p l e v r : Int) {xs ys : List IwR} (h : xs.Perm ys) : tabP k (pairsT s t k z p l e v r xs) = tabP k (pairsT s t k z p l e v r ys) := by
  have hp : (pairsT s t k z p l e v r xs).Perm (pairsT s t k z p l e v r ys) := by
    unfold pairsT
    rw [recsB_perm h]
    split
    · exact flat_perm2 _ h
    · exact List.Perm.refl _
  exact tabP_perm k hp (Nat.le_trans (pairsT_le s t k z p l e v r xs) (by omega)) (fun y hy => (pairsT_wv s t k z p l e v r xs y hy).1) (fun y hy => (pairsT_wv s t k z p l e v r xs y hy).2)
theorem sameT_o (xs : List TbR) : sameT xs xs = true := sameT_all rfl (fun k x y h1 h2 => by rw [h1] at h2; cases h2; simp [eqR])
theorem rem_is (a n : Nat) : ∃ m : Nat, m ≤ n ∧ Int.tmod (a : Int) ((n : Int) + 1) = (m : Int) := by
  refine ⟨a % (n + 1), Nat.lt_succ_iff.1 (Nat.mod_lt _ (Nat.succ_pos _)), ?_⟩
  rw [Int.tmod_eq_emod_of_nonneg (Int.natCast_nonneg a)]
  exact (Int.natCast_emod a (n + 1)).symm
theorem frtab_o (a1 a2 : Option Addr) (len cap1 cap2 : Nat) (xs : List TbR) (w : World) (h : TbRs w a1 len xs) (h' : TbRs w a2 len xs) : Calls Tryz.prog 9 #[.slice a1 len cap1, .slice a2 len cap2] w fun e w' => e = .returned (.bool true) ∧ Below w.heap.size w w' := by
  have h9 := frtab_any a1 a2 len cap1 len cap2 xs xs w h h'
  rw [sameT_o] at h9
  exact h9
theorem turn_is (a : Option Addr) (len cap : Nat) (xs : List IwR) (w : World) (h : IwRs w a len xs) (hl : len ≤ 1048576) : Calls Tryz.prog 17 #[.slice a len cap] w fun e w' => ∃ a' cap', e = .returned (.slice a' len cap') ∧ IwRs w' a' len xs.reverse ∧ Below w.heap.size w w' := by
  refine (turned_any a len cap xs w h hl).mono ?_
  rintro e w' ⟨v, rfl, hO, hb⟩
  have hxl := h.1
  obtain ⟨ar, cr, rfl, H, _, _⟩ := holdIw hO (by simp; omega)
  rw [List.length_reverse, hxl] at *
  exact ⟨ar, cr, rfl, H, hb⟩
theorem some_sl {W : World} {B : Nat} {v : Value} {ys : List IwR} (h : OwnIw W B v ys) (hn : v ≠ .slice none 0 0) (hl : ys.length ≤ 1048576) : ∃ g o cap, v = .slice (some ⟨g, o, none⟩) ys.length cap ∧ ys.length ≤ cap ∧ IwRs W (some ⟨g, o, none⟩) ys.length ys := by
  obtain ⟨a, cap, rfl, H, _, _⟩ := holdIw h hl
  obtain ⟨hlen, h | ⟨g, cap, cur, e, hB, hblk, hnc, hcm, hsz, htk⟩⟩ := h
  · exact absurd h.1 hn
  · simp at e
    obtain ⟨rfl, rfl⟩ := e
    exact ⟨_, _, _, rfl, hnc, H⟩
theorem tabS_is (s t k z q l e : Int) (b : Bool) (v r : Int) (a : Option Addr) (len cap : Nat) (xs : List IwR) (w : World) (RR : List TbR) (h : IwRs w a len xs) (hR : Hid (tabP k (pairsT s t k z q l e v r xs) = RR)) : Calls Tryz.prog 10 #[.agg #[.int .i64 s, .int .i64 t, .int .i64 k, .int .i64 z, .int .i64 q, .int .i64 l, .int .i64 e, .bool b, .int .i64 v, .int .i64 r], .slice a len cap] w fun e' w' => ∃ ar cr, e' = .returned (.slice ar RR.length cr) ∧ TbRs w' ar RR.length RR ∧ Below w.heap.size w w' := by
  refine (spectable_any s t k z q l e b v r a len cap xs w h).mono ?_
  rw [unhide hR]
  rintro e' w' ⟨v', rfl, hO, hb⟩
  have hl : RR.length ≤ 1048576 := by rw [← unhide hR]; exact Nat.le_trans (tabP_len _ _) (Nat.le_trans (pairsT_le _ _ _ _ _ _ _ _ _ _) (by omega))
  obtain ⟨ar, cr, rfl, H, _, _⟩ := holdTb hO hl
  exact ⟨ar, cr, rfl, H, hb⟩
theorem tabI_is (s t k z q l e : Int) (b : Bool) (v r : Int) (a : Option Addr) (len cap : Nat) (xs : List IwR) (w : World) (RR : List TbR) (h : IwRs w a len xs) (hR : Hid (tabP k (pairsT s t k z q l e v r xs) = RR)) : Calls Tryz.prog 8 #[.agg #[.int .i64 s, .int .i64 t, .int .i64 k, .int .i64 z, .int .i64 q, .int .i64 l, .int .i64 e, .bool b, .int .i64 v, .int .i64 r], .slice a len cap] w fun e' w' => ∃ ar cr, e' = .returned (.slice ar RR.length cr) ∧ TbRs w' ar RR.length RR ∧ Below w.heap.size w w' := by
  refine (impltable_any s t k z q l e b v r a len cap xs w h).mono ?_
  rw [unhide hR]
  rintro e' w' ⟨v', rfl, hO, hb⟩
  have hl : RR.length ≤ 1048576 := by rw [← unhide hR]; exact Nat.le_trans (tabP_len _ _) (Nat.le_trans (pairsT_le _ _ _ _ _ _ _ _ _ _) (by omega))
  obtain ⟨ar, cr, rfl, H, _, _⟩ := holdTb hO hl
  exact ⟨ar, cr, rfl, H, hb⟩

set_option maxRecDepth 40000 in
set_option maxHeartbeats 8000000 in
theorem lawSpcOrderP (a : Option Addr) (len cap : Nat) (w : World) (hlc : len ≤ cap) (hm : len ≤ maxLen) (hb : BytesAt w a len) (hl : ∀ g o, a = some ⟨g, o, none⟩ → 0 < len → g < w.heap.size) (hn : a = none → cap = 0) : Calls Tryz.prog 4 #[.slice a len cap] w fun e w' => e = .returned (.bool true) ∧ Below w.heap.size w w' := by
  unfold maxLen at hm
  by_cases hlen : (len : Int) ≤ 1048576
  · obtain ⟨i0, hi, hz0, hz1, hz2⟩ := info_parts Tryz.infoIw
    have hd := hide (drawtab_any a len cap w hlc (by omega) hb hl hn)
    clear hb hl hn
    go_enter Tryz.func4, Tryz.ntmps4
    go_wp2_with fail
    refine (unhide hd).mono ?_
    rintro e' w1 ⟨s, t, k, z, q, l, e, b, v, r, u, xs, rfl, hO, hnn, hxl, hb1⟩
    obtain ⟨g0, o0, cr, rfl, hcr, HX0⟩ := some_sl hO hnn (by omega)
    clear hd hO hnn
    obtain ⟨RR, hRR⟩ : ∃ RR, tabP k (pairsT s t k z q l e v r xs) = RR := ⟨_, rfl⟩
    have HR := hide hRR
    have HRt : Hid (tabP k (pairsT s t k z q l e v r xs.reverse) = RR) := hide (by rw [← hRR]; exact tab_perm s t k z q l e v r (List.reverse_perm xs))
    have hbJ : Below w1.heap.size w1 (w1.alloc (.cells #[.int .i64 s, .int .i64 t, .int .i64 k, .int .i64 z, .int .i64 q, .int .i64 l, .int .i64 e, .bool b, .int .i64 v, .int .i64 r] 24)) := bel_one _ _
    have hg0 : xs.length = 0 ∨ g0 < w1.heap.size := by
      rcases Nat.eq_zero_or_pos xs.length with h9 | h9
      · exact .inl h9
      · exact .inr (HX0.lt h9)
    have HXj := hide (HX0.below hbJ)
    clear hRR HX0
    go_wp2_with fail
    refine (tabI_is s t k z q l e b v r _ _ _ xs _ RR (unhide HXj) HR).mono ?_
    rintro e' w2 ⟨ar, car, rfl, hT2, hb2⟩
    have HA := hide hT2
    have HX := hide ((unhide HXj).below hb2)
    have zJ : w1.heap.size < w2.heap.size := by have := hb2.size; simp at this; omega
    have bJ : w2.drew.heap[w1.heap.size]? = some (.cells #[.int .i64 s, .int .i64 t, .int .i64 k, .int .i64 z, .int .i64 q, .int .i64 l, .int .i64 e, .bool b, .int .i64 v, .int .i64 r] 24 (0, 0)) := (hb2.block w1.heap.size (by simp)).trans (World.alloc_heap_new w1 _)
    have hbA2 : Below w.heap.size w w2 := bel_trans (bel_alloc hb1 _) hb2
    clear hT2 HXj hbJ hb1 hb2
    go_wp2_with fail
    refine wp_region_held_drew (S := (fun W => W.heap[w1.heap.size]? = some (.cells #[.int .i64 s, .int .i64 t, .int .i64 k, .int .i64 z, .int .i64 q, .int .i64 l, .int .i64 e, .bool b, .int .i64 v, .int .i64 r] 24 (0, 0)))) (by kernel_rfl) ?_ (fun hHeld => ?_)
    · first | trivial | ((try dsimp only); exact bJ)
    refine wpAnyH_take (i := 0) (v := ?_) (by simp only [List.getElem?_toArray, List.getElem?_cons_zero, List.getElem?_cons_succ]; rfl) (by kernel_rfl) (by kernel_rfl) (by kernel_rfl) (by intro _ _ _ h; exact h) (Or.inl ⟨by rfl, ?_⟩) (by assumption) ?_
    rotate_left
    · (intro w9 hSw; (try dsimp only at hSw); go_simp <;> with_reducible rfl)
    try simp only [Act.put, List.setIfInBounds_toArray, List.set_cons_zero, List.set_cons_succ]
    refine wpAnyH_take (i := 1) (v := ?_) (by simp only [List.getElem?_toArray, List.getElem?_cons_zero, List.getElem?_cons_succ]; rfl) (by kernel_rfl) (by kernel_rfl) (by kernel_rfl) (by intro _ _ _ h; exact h) (Or.inl ⟨by rfl, ?_⟩) (by assumption) ?_
    rotate_left
    · (intro w9 hSw; (try dsimp only at hSw); have q0 := hSw; have g0x0 : w9.cell? ⟨w1.heap.size, 0, none⟩ = some (.int .i64 s) := (by simp [World.cell?, q0, go_sem]); have g0x1 : w9.cell? ⟨w1.heap.size, 1, none⟩ = some (.int .i64 t) := (by simp [World.cell?, q0, go_sem]); have g0x2 : w9.cell? ⟨w1.heap.size, 2, none⟩ = some (.int .i64 k) := (by simp [World.cell?, q0, go_sem]); have g0x3 : w9.cell? ⟨w1.heap.size, 3, none⟩ = some (.int .i64 z) := (by simp [World.cell?, q0, go_sem]); have g0x4 : w9.cell? ⟨w1.heap.size, 4, none⟩ = some (.int .i64 q) := (by simp [World.cell?, q0, go_sem]); have g0x5 : w9.cell? ⟨w1.heap.size, 5, none⟩ = some (.int .i64 l) := (by simp [World.cell?, q0, go_sem]); have g0x6 : w9.cell? ⟨w1.heap.size, 6, none⟩ = some (.int .i64 e) := (by simp [World.cell?, q0, go_sem]); have g0x7 : w9.cell? ⟨w1.heap.size, 7, none⟩ = some (.bool b) := (by simp [World.cell?, q0, go_sem]); have g0x8 : w9.cell? ⟨w1.heap.size, 8, none⟩ = some (.int .i64 v) := (by simp [World.cell?, q0, go_sem]); have g0x9 : w9.cell? ⟨w1.heap.size, 9, none⟩ = some (.int .i64 r) := (by simp [World.cell?, q0, go_sem]); go_simp <;> with_reducible rfl)
    try simp only [Act.put, List.setIfInBounds_toArray, List.set_cons_zero, List.set_cons_succ]
    refine wpAnyH_take (i := 2) (v := ?_) (by simp only [List.getElem?_toArray, List.getElem?_cons_zero, List.getElem?_cons_succ]; rfl) (by kernel_rfl) (by kernel_rfl) (by kernel_rfl) (by intro _ _ _ h; exact h) (Or.inl ⟨by rfl, ?_⟩) (by assumption) ?_
    rotate_left
    · (intro w9 hSw; (try dsimp only at hSw); go_simp <;> with_reducible rfl)
    try simp only [Act.put, List.setIfInBounds_toArray, List.set_cons_zero, List.set_cons_succ]
    refine wpAnyH_ready (rs := [3]) (by kernel_rfl) (by simp) ?_
    refine AllReadyH.cons (by simp only [List.getElem?_toArray, List.getElem?_cons_zero, List.getElem?_cons_succ]; rfl) (fun K hK => ?_) AllReadyH.nil
    go_simp
    (go_at_call 10; refine (tabS_is s t k z q l e b v r _ _ _ xs _ RR ((unhide HX).below (bel_drew (Below.refl _ _))) HR).mono ?_; rintro e9 w3 ⟨d3, cd3, rfl, hT9, hbw3⟩; have HT3 := hide hT9; have HX3 := hide (((unhide HX).below (bel_drew (Below.refl _ _))).below hbw3); have HA3 := hide (((unhide HA).below (bel_drew (Below.refl _ _))).below hbw3); clear hT9)
    (try go_wp2_with fail)
    have zw3 := hbw3.size
    (try simp at zw3)
    have bJ := (hbw3.block (w1.heap.size) (by first | omega | (simp; done) | (simp; omega))).trans bJ
    refine hK.out _ _ ?_ (fun hHeld2 => ?_)
    · first | trivial | ((try dsimp only); exact bJ)
    clear hK K hHeld
    have hHeld := hHeld2
    clear hHeld2
    try simp only [Act.put, List.setIfInBounds_toArray, List.set_cons_zero, List.set_cons_succ]
    refine wpAnyH_ready (rs := [4]) (by kernel_rfl) (by simp) ?_
    refine AllReadyH.cons (by simp only [List.getElem?_toArray, List.getElem?_cons_zero, List.getElem?_cons_succ]; rfl) (fun K hK => ?_) AllReadyH.nil
    go_simp
    (go_at_call 9; refine (frtab_o _ _ _ _ _ RR _ (unhide HA3) (unhide HT3)).mono ?_; rintro e9 w4 ⟨rfl, hbw4⟩; have HX4 := hide ((unhide HX3).below hbw4); have HA4 := hide ((unhide HA3).below hbw4))
    (try go_wp2_with fail)
    have zw4 := hbw4.size
    (try simp at zw4)
    have bJ := (hbw4.block (w1.heap.size) (by first | omega | (simp; done) | (simp; omega))).trans bJ
    refine hK.out _ _ ?_ (fun hHeld2 => ?_)
    · first | trivial | ((try dsimp only); exact bJ)
    clear hK K hHeld
    have hHeld := hHeld2
    clear hHeld2
    try simp only [Act.put, List.setIfInBounds_toArray, List.set_cons_zero, List.set_cons_succ]
    refine wpAnyH_take (i := 5) (v := ?_) (by simp only [List.getElem?_toArray, List.getElem?_cons_zero, List.getElem?_cons_succ]; rfl) (by kernel_rfl) (by kernel_rfl) (by kernel_rfl) (by intro _ _ _ h; exact h) (Or.inl ⟨by rfl, ?_⟩) (by assumption) ?_
    rotate_left
    · (intro w9 hSw; (try dsimp only at hSw); go_simp <;> with_reducible rfl)
    try simp only [Act.put, List.setIfInBounds_toArray, List.set_cons_zero, List.set_cons_succ]
    refine wpAnyH_take (i := 6) (v := ?_) (by simp only [List.getElem?_toArray, List.getElem?_cons_zero, List.getElem?_cons_succ]; rfl) (by kernel_rfl) (by kernel_rfl) (by kernel_rfl) (by intro _ _ _ h; exact h) (Or.inl ⟨by rfl, ?_⟩) (by assumption) ?_
    rotate_left
    · (intro w9 hSw; (try dsimp only at hSw); go_simp <;> with_reducible rfl)
    try simp only [Act.put, List.setIfInBounds_toArray, List.set_cons_zero, List.set_cons_succ]
    refine wpAnyH_take (i := 7) (v := ?_) (by simp only [List.getElem?_toArray, List.getElem?_cons_zero, List.getElem?_cons_succ]; rfl) (by kernel_rfl) (by kernel_rfl) (by kernel_rfl) (by intro _ _ _ h; exact h) (Or.inl ⟨by rfl, ?_⟩) (by assumption) ?_
    rotate_left
    · (intro w9 hSw; (try dsimp only at hSw); go_simp <;> with_reducible rfl)
    try simp only [Act.put, List.setIfInBounds_toArray, List.set_cons_zero, List.set_cons_succ]
    refine wpAnyH_take (i := 8) (v := ?_) (by simp only [List.getElem?_toArray, List.getElem?_cons_zero, List.getElem?_cons_succ]; rfl) (by kernel_rfl) (by kernel_rfl) (by kernel_rfl) (by intro _ _ _ h; exact h) (Or.inl ⟨by rfl, ?_⟩) (by assumption) ?_
    rotate_left
    · (intro w9 hSw; (try dsimp only at hSw); have q0 := hSw; have g0x0 : w9.cell? ⟨w1.heap.size, 0, none⟩ = some (.int .i64 s) := (by simp [World.cell?, q0, go_sem]); have g0x1 : w9.cell? ⟨w1.heap.size, 1, none⟩ = some (.int .i64 t) := (by simp [World.cell?, q0, go_sem]); have g0x2 : w9.cell? ⟨w1.heap.size, 2, none⟩ = some (.int .i64 k) := (by simp [World.cell?, q0, go_sem]); have g0x3 : w9.cell? ⟨w1.heap.size, 3, none⟩ = some (.int .i64 z) := (by simp [World.cell?, q0, go_sem]); have g0x4 : w9.cell? ⟨w1.heap.size, 4, none⟩ = some (.int .i64 q) := (by simp [World.cell?, q0, go_sem]); have g0x5 : w9.cell? ⟨w1.heap.size, 5, none⟩ = some (.int .i64 l) := (by simp [World.cell?, q0, go_sem]); have g0x6 : w9.cell? ⟨w1.heap.size, 6, none⟩ = some (.int .i64 e) := (by simp [World.cell?, q0, go_sem]); have g0x7 : w9.cell? ⟨w1.heap.size, 7, none⟩ = some (.bool b) := (by simp [World.cell?, q0, go_sem]); have g0x8 : w9.cell? ⟨w1.heap.size, 8, none⟩ = some (.int .i64 v) := (by simp [World.cell?, q0, go_sem]); have g0x9 : w9.cell? ⟨w1.heap.size, 9, none⟩ = some (.int .i64 r) := (by simp [World.cell?, q0, go_sem]); go_simp <;> with_reducible rfl)
    try simp only [Act.put, List.setIfInBounds_toArray, List.set_cons_zero, List.set_cons_succ]
    refine wpAnyH_take (i := 9) (v := ?_) (by simp only [List.getElem?_toArray, List.getElem?_cons_zero, List.getElem?_cons_succ]; rfl) (by kernel_rfl) (by kernel_rfl) (by kernel_rfl) (by intro _ _ _ h; exact h) (Or.inl ⟨by rfl, ?_⟩) (by assumption) ?_
    rotate_left
    · (intro w9 hSw; (try dsimp only at hSw); go_simp <;> with_reducible rfl)
    try simp only [Act.put, List.setIfInBounds_toArray, List.set_cons_zero, List.set_cons_succ]
    refine wpAnyH_ready (rs := [10]) (by kernel_rfl) (by simp) ?_
    refine AllReadyH.cons (by simp only [List.getElem?_toArray, List.getElem?_cons_zero, List.getElem?_cons_succ]; rfl) (fun K hK => ?_) AllReadyH.nil
    go_simp
    (go_at_call 17; refine (turn_is _ _ _ xs _ (unhide HX4) (by omega)).mono ?_; rintro e9 w5 ⟨tr, ct, rfl, hV9, hbw5⟩; have HV5 := hide hV9; have HX5 := hide ((unhide HX4).below hbw5); have HA5 := hide ((unhide HA4).below hbw5); clear hV9)
    (try go_wp2_with fail)
    have zw5 := hbw5.size
    (try simp at zw5)
    have bJ := (hbw5.block (w1.heap.size) (by first | omega | (simp; done) | (simp; omega))).trans bJ
    refine hK.out _ _ ?_ (fun hHeld2 => ?_)
    · first | trivial | ((try dsimp only); exact bJ)
    clear hK K hHeld
    have hHeld := hHeld2
    clear hHeld2
    try simp only [Act.put, List.setIfInBounds_toArray, List.set_cons_zero, List.set_cons_succ]
    refine wpAnyH_ready (rs := [11]) (by kernel_rfl) (by simp) ?_
    refine AllReadyH.cons (by simp only [List.getElem?_toArray, List.getElem?_cons_zero, List.getElem?_cons_succ]; rfl) (fun K hK => ?_) AllReadyH.nil
    go_simp
    (go_at_call 8; refine (tabI_is s t k z q l e b v r _ _ _ xs.reverse _ RR (unhide HV5) HRt).mono ?_; rintro e9 w6 ⟨d6, cd6, rfl, hT9, hbw6⟩; have HT6 := hide hT9; have HX6 := hide ((unhide HX5).below hbw6); have HA6 := hide ((unhide HA5).below hbw6); clear hT9)
    (try go_wp2_with fail)
    have zw6 := hbw6.size
    (try simp at zw6)
    have bJ := (hbw6.block (w1.heap.size) (by first | omega | (simp; done) | (simp; omega))).trans bJ
    refine hK.out _ _ ?_ (fun hHeld2 => ?_)
    · first | trivial | ((try dsimp only); exact bJ)
    clear hK K hHeld
    have hHeld := hHeld2
    clear hHeld2
    try simp only [Act.put, List.setIfInBounds_toArray, List.set_cons_zero, List.set_cons_succ]
    refine wpAnyH_ready (rs := [12]) (by kernel_rfl) (by simp) ?_
    refine AllReadyH.cons (by simp only [List.getElem?_toArray, List.getElem?_cons_zero, List.getElem?_cons_succ]; rfl) (fun K hK => ?_) AllReadyH.nil
    go_simp
    (go_at_call 9; refine (frtab_o _ _ _ _ _ RR _ (unhide HA6) (unhide HT6)).mono ?_; rintro e9 w7 ⟨rfl, hbw7⟩; have HX7 := hide ((unhide HX6).below hbw7); have HA7 := hide ((unhide HA6).below hbw7))
    (try go_wp2_with fail)
    have zw7 := hbw7.size
    (try simp at zw7)
    have bJ := (hbw7.block (w1.heap.size) (by first | omega | (simp; done) | (simp; omega))).trans bJ
    refine hK.out _ _ ?_ (fun hHeld2 => ?_)
    · first | trivial | ((try dsimp only); exact bJ)
    clear hK K hHeld
    have hHeld := hHeld2
    clear hHeld2
    try simp only [Act.put, List.setIfInBounds_toArray, List.set_cons_zero, List.set_cons_succ]
    refine wpAnyH_take (i := 13) (v := ?_) (by simp only [List.getElem?_toArray, List.getElem?_cons_zero, List.getElem?_cons_succ]; rfl) (by kernel_rfl) (by kernel_rfl) (by kernel_rfl) (by intro _ _ _ h; exact h) (Or.inl ⟨by rfl, ?_⟩) (by assumption) ?_
    rotate_left
    · (intro w9 hSw; (try dsimp only at hSw); go_simp <;> with_reducible rfl)
    try simp only [Act.put, List.setIfInBounds_toArray, List.set_cons_zero, List.set_cons_succ]
    refine wpAnyH_take (i := 14) (v := ?_) (by simp only [List.getElem?_toArray, List.getElem?_cons_zero, List.getElem?_cons_succ]; rfl) (by kernel_rfl) (by kernel_rfl) (by kernel_rfl) (by intro _ _ _ h; exact h) (Or.inl ⟨by rfl, ?_⟩) (by assumption) ?_
    rotate_left
    · (intro w9 hSw; (try dsimp only at hSw); go_simp <;> with_reducible rfl)
    try simp only [Act.put, List.setIfInBounds_toArray, List.set_cons_zero, List.set_cons_succ]
    refine wpAnyH_done (by kernel_rfl) ?_ _
    have hbA7 : Below w.heap.size w w7 := bel_trans (bel_trans (bel_trans (bel_trans (bel_trans (bel_drew hbA2) hbw3) hbw4) hbw5) hbw6) hbw7
    clear HA HX HT3 HX3 HA3 HX4 HA4 HV5 HX5 HA5 HT6 HX6 HA6 hbA2 hbw3 hbw4 hbw5 hbw6 hbw7 hHeld
    obtain ⟨m, hmn, hrem⟩ := rem_is len xs.length
    have hw1 : IntKind.i64.wrap ((xs.length : Int) + 1) = (xs.length : Int) + 1 := IntWalk.i64_in _ ⟨by omega, by omega⟩
    have hwm : IntKind.i64.wrap (m : Int) = (m : Int) := IntWalk.i64_in _ ⟨by omega, by omega⟩
    have hnz : ((xs.length : Int) + 1 == 0) = false := by simp; omega
    have hnz2 : ¬ ((xs.length : Int) + 1 = 0) := by omega
    go_wp2_with fail
    clear hrem hw1 hwm hnz hnz2
    have hmc : m ≤ cr := by omega
    have hm0 : (0 : Int) ≤ (m : Int) := by omega
    have hm1 : (m : Int) ≤ (xs.length : Int) := by omega
    have hm2 : (m : Int) ≤ (cr : Int) := by omega
    obtain ⟨oA, hA, hoA⟩ : ∃ oA, (if cr = m then some (⟨g0, o0, none⟩ : Addr) else some ⟨g0, o0 + m * 5, none⟩) = some ⟨g0, oA, none⟩ ∧ (xs.length - m = 0 ∨ oA = o0 + m * 5) := by
      by_cases hcv : cr = m
      · exact ⟨o0, if_pos hcv, Or.inl (by omega)⟩
      · exact ⟨_, if_neg hcv, Or.inr rfl⟩
    have hTk := (unhide HX7).upto m hmn
    have hDr : IwRs w7 (some ⟨g0, oA, none⟩) (xs.length - m) (xs.drop m) := by
      rcases hoA with h9 | h9
      · exact ⟨by rw [List.length_drop], by unfold maxLen; omega, Or.inl h9⟩
      · rw [h9]; exact (unhide HX7).from m hmn
    have HTk := hide (hTk.below (bel_alloc (bel_drew (Below.refl _ _)) (.cells #[] 41)))
    have HDr := hide (hDr.below (bel_alloc (bel_drew (Below.refl _ _)) (.cells #[] 41)))
    have HL1 : Hid ((xs.take m).length = m) := hide (by rw [List.length_take]; omega)
    have HL2 : Hid ((xs.drop m).length = xs.length - m) := hide (by rw [List.length_drop])
    have zw : w.heap.size ≤ w7.heap.size := hbA7.size
    have hg7 : xs.length = 0 ∨ g0 < w7.heap.size := hg0.imp id (fun h9 => by omega)
    clear hTk hDr hoA HX7
    refine wp_region_held_drew (S := (fun _ => True)) (by kernel_rfl) ?_ (fun hHeld => ?_)
    · (try dsimp only); (try trivial)
    refine wpAnyH_take (i := 1) (v := ?_) (by simp only [List.getElem?_toArray, List.getElem?_cons_zero, List.getElem?_cons_succ]; rfl) (by kernel_rfl) (by kernel_rfl) (by kernel_rfl) (by intro _ _ _ h; exact h) (Or.inl ⟨by rfl, ?_⟩) (by assumption) ?_
    rotate_left
    · (intro w9 hSw; (try dsimp only at hSw); go_simp <;> with_reducible rfl)
    try simp only [Act.put, List.setIfInBounds_toArray, List.set_cons_zero, List.set_cons_succ]
    refine wpAnyH_take (i := 2) (v := ?_) (by simp only [List.getElem?_toArray, List.getElem?_cons_zero, List.getElem?_cons_succ]; rfl) (by kernel_rfl) (by kernel_rfl) (by kernel_rfl) (by intro _ _ _ h; exact h) (Or.inl ⟨by rfl, ?_⟩) (by assumption) ?_
    rotate_left
    · (intro w9 hSw; (try dsimp only at hSw); go_simp <;> with_reducible rfl)
    try simp only [Act.put, List.setIfInBounds_toArray, List.set_cons_zero, List.set_cons_succ]
    refine wpAnyH_take (i := 3) (v := ?_) (by simp only [List.getElem?_toArray, List.getElem?_cons_zero, List.getElem?_cons_succ]; rfl) (by kernel_rfl) (by kernel_rfl) (by kernel_rfl) (by intro _ _ _ h; exact h) (Or.inl ⟨by rfl, ?_⟩) (by assumption) ?_
    rotate_left
    · (intro w9 hSw; (try dsimp only at hSw); go_simp <;> with_reducible rfl)
    try simp only [Act.put, List.setIfInBounds_toArray, List.set_cons_zero, List.set_cons_succ]
    refine wpAnyH_take (i := 5) (v := ?_) (by simp only [List.getElem?_toArray, List.getElem?_cons_zero, List.getElem?_cons_succ]; rfl) (by kernel_rfl) (by kernel_rfl) (by kernel_rfl) (by intro _ _ _ h; exact h) (Or.inl ⟨by rfl, ?_⟩) (by assumption) ?_
    rotate_left
    · (intro w9 hSw; (try dsimp only at hSw); go_simp <;> with_reducible rfl)
    try simp only [Act.put, List.setIfInBounds_toArray, List.set_cons_zero, List.set_cons_succ]
    refine wpAnyH_take (i := 6) (v := ?_) (by simp only [List.getElem?_toArray, List.getElem?_cons_zero, List.getElem?_cons_succ]; rfl) (by kernel_rfl) (by kernel_rfl) (by kernel_rfl) (by intro _ _ _ h; exact h) (Or.inl ⟨by rfl, ?_⟩) (by assumption) ?_
    rotate_left
    · (intro w9 hSw; (try dsimp only at hSw); go_simp <;> with_reducible rfl)
    try simp only [Act.put, List.setIfInBounds_toArray, List.set_cons_zero, List.set_cons_succ]
    refine wpAnyH_take (i := 7) (v := ?_) (by simp only [List.getElem?_toArray, List.getElem?_cons_zero, List.getElem?_cons_succ]; rfl) (by kernel_rfl) (by kernel_rfl) (by kernel_rfl) (by intro _ _ _ h; exact h) (Or.inl ⟨by rfl, ?_⟩) (by assumption) ?_
    rotate_left
    · (intro w9 hSw; (try dsimp only at hSw); go_simp <;> with_reducible rfl)
    try simp only [Act.put, List.setIfInBounds_toArray, List.set_cons_zero, List.set_cons_succ]
    refine wpAnyH_ready (rs := [0]) (by kernel_rfl) (by simp) ?_
    refine AllReadyH.cons (by simp only [List.getElem?_toArray, List.getElem?_cons_zero, List.getElem?_cons_succ]; rfl) (fun K hK => ?_) AllReadyH.nil
    go_simp
    refine hK.out _ _ ?_ (fun hHeld2 => ?_)
    · (try dsimp only); (try trivial)
    clear hK K hHeld
    have hHeld := hHeld2
    clear hHeld2
    try simp only [Act.put, List.setIfInBounds_toArray, List.set_cons_zero, List.set_cons_succ]
    refine wpAnyH_ready (rs := [4]) (by kernel_rfl) (by simp) ?_
    refine AllReadyH.cons (by simp only [List.getElem?_toArray, List.getElem?_cons_zero, List.getElem?_cons_succ]; rfl) (fun K hK => ?_) AllReadyH.nil
    refine step_append_at rfl _ _ 25 rfl w7.heap.size 41 i0 _ 5 40 Tryz.underlying25 hi hz0 hz1 hz2 rfl (by decide) (.slice (some ⟨w7.heap.size, 0, none⟩) 0 0) 0 [] rfl (litT (W := w7.drew) (by first | (simp; done) | (simp; omega)) (by simp)) ⟨g0, oA, none⟩ (xs.length - m) (cr - m) (flatIw (xs.drop m)) rfl (by rw [flatIw_len, unhide HL2]) (newsIw (unhide HDr)) (flatIw_one _) (by unfold maxLen; omega) (by omega) (by first | (simp; done) | (simp; omega)) ?_
    intro v8 w8 hown8 hgrow8 _
    refine hK.out _ _ ?_ (fun hHeld2 => ?_)
    · (try dsimp only); (try trivial)
    clear hK K hHeld
    have hHeld := hHeld2
    clear hHeld2
    try simp only [Act.put, List.setIfInBounds_toArray, List.set_cons_zero, List.set_cons_succ]
    have hTk8 : IwRs w8 (some ⟨g0, o0, none⟩) m (xs.take m) := (unhide HTk).grown hgrow8 (fun g9 o9 hp9 e9 e8 => by cases e9; simp [Value.ownBlock] at e8; omega)
    refine wpAnyH_ready (rs := [8]) (by kernel_rfl) (by simp) ?_
    refine AllReadyH.cons (by simp only [List.getElem?_toArray, List.getElem?_cons_zero, List.getElem?_cons_succ]; rfl) (fun K hK => ?_) AllReadyH.nil
    refine step_append_at rfl _ _ 25 rfl w7.heap.size 41 i0 _ 5 40 Tryz.underlying25 hi hz0 hz1 hz2 rfl (by decide) v8 (0 + (xs.length - m)) ([] ++ flatIw (xs.drop m)) rfl hown8 ⟨g0, o0, none⟩ m cr (flatIw (xs.take m)) rfl (by rw [flatIw_len, unhide HL1]) (newsIw hTk8) (flatIw_one _) (by unfold maxLen; omega) (by omega) (by have h9 := hgrow8.size; simp at h9; omega) ?_
    intro v9 w9 hown9 hgrow9 _
    refine hK.out _ _ ?_ (fun hHeld2 => ?_)
    · (try dsimp only); (try trivial)
    clear hK K hHeld
    have hHeld := hHeld2
    clear hHeld2
    try simp only [Act.put, List.setIfInBounds_toArray, List.set_cons_zero, List.set_cons_succ]
    refine wpAnyH_take (i := 9) (v := ?_) (by simp only [List.getElem?_toArray, List.getElem?_cons_zero, List.getElem?_cons_succ]; rfl) (by kernel_rfl) (by kernel_rfl) (by kernel_rfl) (by intro _ _ _ h; exact h) (Or.inl ⟨by rfl, ?_⟩) (by assumption) ?_
    rotate_left
    · (intro w9 hSw; (try dsimp only at hSw); go_simp <;> with_reducible rfl)
    try simp only [Act.put, List.setIfInBounds_toArray, List.set_cons_zero, List.set_cons_succ]
    refine wpAnyH_done (by kernel_rfl) ?_ _
    have hb8 : Below w7.heap.size w7 w8 := (bel_alloc (bel_drew (Below.refl _ _)) _).grown hgrow8 (by simp) (fun k9 hk => by simp [Value.ownBlock] at hk; omega)
    have hb9 : Below w7.heap.size w7 w9 := hb8.grown hgrow9 hb8.size (own_geW hown8)
    have hO9 : OwnIw w9 w7.heap.size v9 (xs.drop m ++ xs.take m) := by
      have h9 := hown9
      rw [List.nil_append, ← flatIw_app] at h9
      have e9 : (xs.drop m ++ xs.take m).length = 0 + (xs.length - m) + m := by rw [List.length_append, unhide HL1, unhide HL2]; omega
      unfold OwnIw
      rw [e9]
      exact h9
    have hlA : (xs.drop m ++ xs.take m).length = xs.length := by rw [List.length_append, unhide HL1, unhide HL2]; omega
    obtain ⟨av, cv, rfl, HV0, _, _⟩ := holdIw hO9 (by omega)
    have HRr : Hid (tabP k (pairsT s t k z q l e v r (xs.drop m ++ xs.take m)) = RR) := hide (by
      rw [← unhide HR]
      refine tab_perm s t k z q l e v r ?_
      refine List.perm_append_comm.trans ?_
      rw [List.take_append_drop])
    have HV := hide HV0
    have HA9 := hide ((unhide HA7).below hb9)
    have bJ9 := (hb9.block w1.heap.size (by omega)).trans bJ
    have hbA9 : Below w.heap.size w w9 := bel_trans hbA7 hb9
    clear hown8 hown9 hgrow8 hgrow9 hTk8 HTk HDr hO9 HV0 HA7 bJ hb8 hb9 hHeld HL1 HL2 hA hm0 hm1 hm2 hmc hg7 hg0 HRt hlA hi hz0 hz1 hz2
    have c0 : w9.cell? ⟨w1.heap.size, 0, none⟩ = some (.int .i64 s) := Joins.cell_of_block bJ9 0
    have c1 : w9.cell? ⟨w1.heap.size, 1, none⟩ = some (.int .i64 t) := Joins.cell_of_block bJ9 1
    have c2 : w9.cell? ⟨w1.heap.size, 2, none⟩ = some (.int .i64 k) := Joins.cell_of_block bJ9 2
    have c3 : w9.cell? ⟨w1.heap.size, 3, none⟩ = some (.int .i64 z) := Joins.cell_of_block bJ9 3
    have c4 : w9.cell? ⟨w1.heap.size, 4, none⟩ = some (.int .i64 q) := Joins.cell_of_block bJ9 4
    have c5 : w9.cell? ⟨w1.heap.size, 5, none⟩ = some (.int .i64 l) := Joins.cell_of_block bJ9 5
    have c6 : w9.cell? ⟨w1.heap.size, 6, none⟩ = some (.int .i64 e) := Joins.cell_of_block bJ9 6
    have c7 : w9.cell? ⟨w1.heap.size, 7, none⟩ = some (.bool b) := Joins.cell_of_block bJ9 7
    have c8 : w9.cell? ⟨w1.heap.size, 8, none⟩ = some (.int .i64 v) := Joins.cell_of_block bJ9 8
    have c9 : w9.cell? ⟨w1.heap.size, 9, none⟩ = some (.int .i64 r) := Joins.cell_of_block bJ9 9
    clear bJ9
    generalize hAr : xs.drop m ++ xs.take m = ys at HV HRr ⊢
    clear hAr
    go_wp2_with fail
    refine (tabI_is s t k z q l e b v r _ _ _ _ _ RR (unhide HV) HRr).mono ?_
    rintro e9 wa ⟨d9, cd9, rfl, hT9, hba⟩
    have HT9 := hide hT9
    have HAa := hide ((unhide HA9).below hba)
    clear hT9
    go_wp2_with fail
    refine (frtab_o _ _ _ _ _ RR _ (unhide HAa) (unhide HT9)).mono ?_
    rintro e9 wb ⟨rfl, hbb⟩
    go_wp2_with fail
    refine (frok_any _).mono ?_
    rintro e9 wc ⟨rfl, hbc⟩
    go_wp2
    go_ret
    exact ⟨rfl, bel_trans (bel_trans (bel_trans hbA9 hba) hbb) hbc⟩
  · go_enter Tryz.func4, Tryz.ntmps4
    go_wp2
    go_ret
    exact ⟨rfl, Below.refl _ _⟩
end Go.Proofs.YtbockbdlojkpiaaGreat
