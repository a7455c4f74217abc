/- Laid together: what the claim needs of the texts that were built one by one. -/
import Derived.Test.YtikidpcgnmffcaaGreatPkSesS
import Derived.Test.YtikidpcgnmffcaaGreatPkPairS3
import Derived.Test.YtikidpcgnmffcaaGreatPkBase
import Derived.Test.YtikidpcgnmffcaaGreatPkTabOfS
import Derived.BigQuiet
import Derived.Deep.DeepCutAuto
import Derived.Deep.RegionHeld3
namespace Go.Proofs.YtikidpcgnmffcaaGreat
open Go.ChangeShapes Go.WideShapes Go.ChangeAt Go.RowKit
set_option linter.unusedVariables false
set_option linter.unusedSimpArgs false

theorem pairsT_le (s t k z p l e v r : Int) (xs : List IwR) : (pairsT s t k z p l e v r xs).length ≤ 7320 := by
  unfold pairsT
  split
  · rename_i hc
    have h1 := (recsB_iff (by simp only [Bool.and_eq_true] at hc; exact hc.2)).1
    have h2 := prsT_len k z p xs
    omega
  · simp

theorem spc3 {W W' : World} {B g p1 p2 : Nat} {v0 v1 v2 : Value} (h : (W.cell? ⟨B, 2, none⟩ = some v0 ∧ W.cell? ⟨g, p1, none⟩ = some v1 ∧ W.cell? ⟨g, p2, none⟩ = some v2) ∧ B < W.heap.size ∧ g < W.heap.size) (hb : Below W.heap.size W W') : (W'.cell? ⟨B, 2, none⟩ = some v0 ∧ W'.cell? ⟨g, p1, none⟩ = some v1 ∧ W'.cell? ⟨g, p2, none⟩ = some v2) ∧ B < W'.heap.size ∧ g < W'.heap.size := by
  obtain ⟨⟨h0, h1, h2⟩, z1, z2⟩ := h
  exact ⟨⟨(hb.cell (p := ⟨B, 2, none⟩) z1).trans h0, (hb.cell (p := ⟨g, p1, none⟩) z2).trans h1, (hb.cell (p := ⟨g, p2, none⟩) z2).trans h2⟩, Nat.lt_of_lt_of_le z1 hb.size, Nat.lt_of_lt_of_le z2 hb.size⟩

theorem spc8 {W W' : World} {R g B p1 p2 : Nat} {v0 v1 v2 v3 v4 v5 v6 v7 : Value} (h : ((W.cell? ⟨R, 2, none⟩ = some v0 ∧ W.cell? ⟨R, 3, none⟩ = some v1) ∧ (W.cell? ⟨g, p1, none⟩ = some v2 ∧ W.cell? ⟨g, p2, none⟩ = some v3) ∧ W.cell? ⟨B, 0, none⟩ = some v4 ∧ W.cell? ⟨B, 1, none⟩ = some v5 ∧ W.cell? ⟨B, 2, none⟩ = some v6 ∧ W.cell? ⟨B, 3, none⟩ = some v7) ∧ R < W.heap.size ∧ g < W.heap.size ∧ B < W.heap.size) (hb : Below W.heap.size W W') : ((W'.cell? ⟨R, 2, none⟩ = some v0 ∧ W'.cell? ⟨R, 3, none⟩ = some v1) ∧ (W'.cell? ⟨g, p1, none⟩ = some v2 ∧ W'.cell? ⟨g, p2, none⟩ = some v3) ∧ W'.cell? ⟨B, 0, none⟩ = some v4 ∧ W'.cell? ⟨B, 1, none⟩ = some v5 ∧ W'.cell? ⟨B, 2, none⟩ = some v6 ∧ W'.cell? ⟨B, 3, none⟩ = some v7) ∧ R < W'.heap.size ∧ g < W'.heap.size ∧ B < W'.heap.size := by
  obtain ⟨⟨⟨h0, h1⟩, ⟨h2, h3⟩, h4, h5, h6, h7⟩, z1, z2, z3⟩ := h
  exact ⟨⟨⟨(hb.cell (p := ⟨R, 2, none⟩) z1).trans h0, (hb.cell (p := ⟨R, 3, none⟩) z1).trans h1⟩, ⟨(hb.cell (p := ⟨g, p1, none⟩) z2).trans h2, (hb.cell (p := ⟨g, p2, none⟩) z2).trans h3⟩, (hb.cell (p := ⟨B, 0, none⟩) z3).trans h4, (hb.cell (p := ⟨B, 1, none⟩) z3).trans h5, (hb.cell (p := ⟨B, 2, none⟩) z3).trans h6, (hb.cell (p := ⟨B, 3, none⟩) z3).trans h7⟩, Nat.lt_of_lt_of_le z1 hb.size, Nat.lt_of_lt_of_le z2 hb.size, Nat.lt_of_lt_of_le z3 hb.size⟩

theorem specfind_r (a : Option Addr) (len cap : Nat) (xs : List TbR) (ky st en : Int) (w : World) {n s l m : Int} (h : TbRs w a len xs) (hV : Hid (aggF (findT ky st en xs) = (n, s, l, m))) : Calls Tryz.prog 16 #[.slice a len cap, .int .i64 ky, .agg #[.int .i64 st, .int .i64 en]] w fun e w' => ∃ b, e = .returned (.tuple #[.agg #[.int .i64 n, .int .i64 s, .int .i64 l, .int .i64 m], .bool b]) ∧ Below w.heap.size w w' := by
  obtain ⟨b, hb⟩ := foundV_is _ (unhide hV)
  have h9 := specfind_any a len cap xs ky st en w h
  rw [hb] at h9
  refine h9.mono ?_
  rintro e w' ⟨rfl, h8⟩
  exact ⟨b, rfl, h8⟩

set_option maxRecDepth 20000 in
set_option maxHeartbeats 8000000 in
theorem spectable_any (s t k z p l e : Int) (b : Bool) (v r : Int) (a : Option Addr) (len cap : Nat) (xs : List IwR) (w : World) (h : IwRs w a len xs) : Calls Tryz.prog 5 #[.agg #[.int .i64 s, .int .i64 t, .int .i64 k, .int .i64 z, .int .i64 p, .int .i64 l, .int .i64 e, .bool b, .int .i64 v, .int .i64 r], .slice a len cap] w fun e' w' => ∃ v', e' = .returned v' ∧ OwnTb w' w.heap.size v' (tabP k (pairsT s t k z p l e v r xs)) ∧ Below w.heap.size w w' := by
  have hbJ : Below w.heap.size w ((w.alloc (.cells #[.int .i64 s, .int .i64 t, .int .i64 k, .int .i64 z, .int .i64 p, .int .i64 l, .int .i64 e, .bool b, .int .i64 v, .int .i64 r] 28)).alloc (.cells #[] 53)) := bel_alloc (bel_one _ _) _
  have hPl := pairsT_le s t k z p l e v r xs
  obtain ⟨PR, hPR⟩ : ∃ PR, pairsT s t k z p l e v r xs = PR := ⟨_, rfl⟩
  rw [hPR] at hPl
  have HPR := hide hPR
  rw [hPR]
  clear hPR
  go_enter Tryz.func5, Tryz.ntmps5
  go_wp2_with fail
  refine (specpairs_any s t k z p l e b v r a len cap xs _ (h.below hbJ)).mono ?_
  rw [unhide HPR]
  rintro e' w1 ⟨vp, rfl, hOp, hb1⟩
  obtain ⟨ap, cp, rfl, HP0, _, _⟩ := holdLp hOp (by omega)
  have z1 : w.heap.size + 1 < w1.heap.size := by have := hb1.size; simp at this; omega
  have bJ : w1.heap[w.heap.size]? = some (.cells #[.int .i64 s, .int .i64 t, .int .i64 k, .int .i64 z, .int .i64 p, .int .i64 l, .int .i64 e, .bool b, .int .i64 v, .int .i64 r] 28 (0, 0)) := (hb1.block w.heap.size (by simp; omega)).trans ((Below.heap_alloc _ _ _ (by simp)).trans (World.alloc_heap_new w _))
  have O1 : OwnTb w1 (w.heap.size + 1) (.slice (some ⟨w.heap.size + 1, 0, none⟩) 0 0) [] := by
    refine ownTb_bel ?_ hb1
    have h9 := World.ownsRow_lit (base := w.heap.size + 1) (size := 7) (e := 53) (w.alloc (.cells #[.int .i64 s, .int .i64 t, .int .i64 k, .int .i64 z, .int .i64 p, .int .i64 l, .int .i64 e, .bool b, .int .i64 v, .int .i64 r] 28)) #[] 0 (by simp) (by decide) (by simp)
    rw [World.size_alloc] at h9
    exact h9
  have hbw1 : Below w.heap.size w w1 := bel_trans hbJ hb1
  have HP := hide HP0
  clear hOp HP0 hb1 hbJ
  go_wp2
  go_loopw [5, 7] (fun lv iv wr => ∃ i : Nat, i ≤ PR.length ∧ iv = .int .i64 i ∧ Hid (OwnTb wr (w.heap.size + 1) lv (tabP k (PR.take i))) ∧ Hid (PR.length = 0 ∨ LpRs wr ap PR.length PR) ∧ Hid (wr.heap[w.heap.size]? = some (.cells #[.int .i64 s, .int .i64 t, .int .i64 k, .int .i64 z, .int .i64 p, .int .i64 l, .int .i64 e, .bool b, .int .i64 v, .int .i64 r] 28 (0, 0))) ∧ Below w.heap.size w wr) (fun _ iv _ => PR.length - (intOf iv).toNat)
  case atStart => exact ⟨0, Nat.zero_le _, rfl, hide O1, hide (Or.inr (unhide HP)), hide bJ, hbw1⟩
  case round =>
    clear O1 HP bJ hbw1
    obtain ⟨i, hil, rfl, HO, HL, HJ, hbw⟩ := hrel
    have hTl : (tabP k (PR.take i)).length ≤ i := by refine Nat.le_trans (tabP_len _ _) ?_; rw [List.length_take]; omega
    by_cases hlt : i < PR.length
    · obtain ⟨RS, hRS⟩ : ∃ RS, tabP k (PR.take i) = RS := ⟨_, rfl⟩
      rw [hRS] at HO hTl
      obtain ⟨x, hxk⟩ : ∃ x, PR[i]? = some x := ⟨_, List.getElem?_eq_getElem hlt⟩
      have HS : Hid (tabP k (PR.take (i + 1)) = stepP k RS x) := hide (by rw [tabP_snoc hxk, hRS])
      obtain ⟨_, _, hy⟩ := (unhide HL).resolve_left (by omega)
      obtain ⟨gp, op, rfl, hr⟩ := hy.resolve_left (by omega)
      have hgp : gp < wr.heap.size := hr.lt (by omega)
      obtain ⟨c0, c1, c2, c3, c4, c5, c6⟩ := hr i _ hxk
      obtain ⟨ar, cr, rfl, HT0, _, _⟩ := holdTb (unhide HO) (by omega)
      clear hr hy hxk hRS
      obtain ⟨kd, tm, ke, va, nn, st, en⟩ := x
      dsimp only at c0 c1 c2 c3 c4 c5 c6
      have zw : w.heap.size < wr.heap.size := (Array.getElem?_eq_some_iff.1 (unhide HJ)).1
      have j2 := Joins.cell_of_block (unhide HJ) 2
      simp only [gA, gZ, gS] at j2
      have hbQ : Below wr.heap.size wr (wr.alloc (.cells #[.int .i64 kd, .int .i64 tm, .int .i64 ke, .int .i64 va, .int .i64 nn] 40)) := bel_one _ _
      have HT := hide (HT0.below hbQ)
      have hS0 : ((wr.alloc (.cells #[.int .i64 kd, .int .i64 tm, .int .i64 ke, .int .i64 va, .int .i64 nn] 40)).drew.cell? ⟨wr.heap.size, 2, none⟩ = some (.int .i64 ke) ∧ (wr.alloc (.cells #[.int .i64 kd, .int .i64 tm, .int .i64 ke, .int .i64 va, .int .i64 nn] 40)).drew.cell? ⟨gp, op + i * 7 + 5, none⟩ = some (.int .i64 st) ∧ (wr.alloc (.cells #[.int .i64 kd, .int .i64 tm, .int .i64 ke, .int .i64 va, .int .i64 nn] 40)).drew.cell? ⟨gp, op + i * 7 + 5 + 1, none⟩ = some (.int .i64 en)) ∧ wr.heap.size < (wr.alloc (.cells #[.int .i64 kd, .int .i64 tm, .int .i64 ke, .int .i64 va, .int .i64 nn] 40)).drew.heap.size ∧ gp < (wr.alloc (.cells #[.int .i64 kd, .int .i64 tm, .int .i64 ke, .int .i64 va, .int .i64 nn] 40)).drew.heap.size := ⟨⟨by simp [go_sem], by simpa [go_sem, hgp] using c5, by simpa [go_sem, hgp] using c6⟩, by simp, by simp; omega⟩
      clear HT0
      by_cases hk : k = 3
      · have hk1 : (k == 3) = true := by simp [hk]
        have HS2 : Hid (stepP k RS ⟨kd, tm, ke, va, nn, st, en⟩ = sesPut ke st en (addF ag0 va) RS) := hide (by unfold stepP; rw [if_pos hk])
        clear hk
        go_wp2_with fail
        go_region_with (go_at_call 15; refine (specses_any kd tm ke va nn st en _ _ _ RS _ ((unhide HT).below (bel_drew (Below.refl _ _))) (by omega)).mono ?_; rintro e9 wf ⟨vf, rfl, hOf, hbf⟩)
        all_goals
          go_wp2
          refine ⟨⟨i + 1, by omega, by go_num, hide ?_, hide ?_, hide ?_, bel_trans (bel_drew (bel_alloc hbw _)) hbf⟩, by simp [intOf]; omega⟩
          · rw [unhide HS, unhide HS2]; exact World.ownsRow.mono hOf (by simp; omega)
          · exact Or.inr (((((unhide HL).resolve_left (by omega)).below hbQ).below (bel_drew (Below.refl _ _))).below hbf)
          · exact (hbf.block w.heap.size (by simp; omega)).trans ((Below.heap_alloc _ _ _ zw).trans (unhide HJ))
      · have hk1 : (k == 3) = false := by simp [hk]
        obtain ⟨xa, xb, xc, xd, hx⟩ : ∃ xa xb xc xd, aggF (findT ke st en RS) = (xa, xb, xc, xd) := ⟨_, _, _, _, rfl⟩
        have HX := hide hx
        clear hx
        go_wp2_with fail
        go_cut [9] (fun pv W => ∃ B : Nat, pv = .pointer (some ⟨B, 0, none⟩) ∧ (wr.alloc (.cells #[.int .i64 kd, .int .i64 tm, .int .i64 ke, .int .i64 va, .int .i64 nn] 40)).heap.size ≤ B ∧ W.heap[B]? = some (.cells #[.int .i64 xa, .int .i64 xb, .int .i64 xc, .int .i64 xd] 47 (0, 0)) ∧ Below (wr.alloc (.cells #[.int .i64 kd, .int .i64 tm, .int .i64 ke, .int .i64 va, .int .i64 nn] 40)).heap.size (wr.alloc (.cells #[.int .i64 kd, .int .i64 tm, .int .i64 ke, .int .i64 va, .int .i64 nn] 40)) W)
        case first =>
          refine wp_region_held_drew (S := (fun W => (W.cell? ⟨wr.heap.size, 2, none⟩ = some (.int .i64 ke) ∧ W.cell? ⟨gp, op + i * 7 + 5, none⟩ = some (.int .i64 st) ∧ W.cell? ⟨gp, op + i * 7 + 5 + 1, none⟩ = some (.int .i64 en)) ∧ wr.heap.size < W.heap.size ∧ gp < W.heap.size)) (by kernel_rfl) ?_ (fun hHeld => ?_)
          · (try dsimp only); exact hS0
          refine kT 0 ?_ ?_ ?_
          rotate_left
          · (intro w9 hSw; (try dsimp only at hSw); go_simp <;> with_reducible rfl)
          try simp only [Act.put, tA, tZ, tS]
          refine kT 1 ?_ ?_ ?_
          rotate_left
          · (intro w9 hSw; (try dsimp only at hSw); go_simp <;> with_reducible rfl)
          try simp only [Act.put, tA, tZ, tS]
          refine kT 2 ?_ ?_ ?_
          rotate_left
          · (intro w9 hSw; (try dsimp only at hSw); go_simp <;> with_reducible rfl)
          try simp only [Act.put, tA, tZ, tS]
          refine kT 3 ?_ ?_ ?_
          rotate_left
          · (intro w9 hSw; (try dsimp only at hSw); go_simp <;> with_reducible rfl)
          try simp only [Act.put, tA, tZ, tS]
          refine kT 4 ?_ ?_ ?_
          rotate_left
          · (intro w9 hSw; (try dsimp only at hSw); go_simp <;> with_reducible rfl)
          try simp only [Act.put, tA, tZ, tS]
          refine kT 5 ?_ ?_ ?_
          rotate_left
          · (intro w9 hSw; (try dsimp only at hSw); go_simp <;> with_reducible rfl)
          try simp only [Act.put, tA, tZ, tS]
          refine kT 6 ?_ ?_ ?_
          rotate_left
          · (intro w9 hSw; (try dsimp only at hSw); go_simp <;> with_reducible rfl)
          try simp only [Act.put, tA, tZ, tS]
          refine kT 7 ?_ ?_ ?_
          rotate_left
          · (intro w9 hSw; (try dsimp only at hSw); go_simp <;> with_reducible rfl)
          try simp only [Act.put, tA, tZ, tS]
          refine wpAnyH_ready (rs := [8, 12]) (by kernel_rfl) (by simp) ?_
          refine AllReadyH.cons (by simp only [gA, gZ, gS]; rfl) (fun K hK => ?_) ?_
          · go_simp
            (go_at_call 16; refine (specfind_r _ _ _ RS ke st en _ ((unhide HT).below (bel_drew (Below.refl _ _))) HX).mono ?_; rintro e9 wf ⟨fb, rfl, hbf⟩)
            (try go_wp2_with fail)
            refine hK.out _ _ ?_ (fun hHeld2 => ?_)
            · (try dsimp only); first | (with_reducible assumption) | exact spc3 hS0 (by repeat (first | (with_reducible exact Below.refl _ _) | (with_reducible assumption) | (with_reducible refine bel_set ?_ (sC) _) | (with_reducible refine bel_alloc ?_ _) | (with_reducible refine bel_drew ?_) | (with_reducible refine bel_drewN ?_ _) | (with_reducible refine bel_trans ?_ (by with_reducible assumption))))
            clear hK K hHeld
            have hHeld := hHeld2
            clear hHeld2
            try simp only [Act.put, tA, tZ, tS]
            refine kT 9 ?_ ?_ ?_
            rotate_left
            · (intro w9 hSw; (try dsimp only at hSw); go_simp <;> with_reducible rfl)
            try simp only [Act.put, tA, tZ, tS]
            refine kT 10 ?_ ?_ ?_
            rotate_left
            · (intro w9 hSw; (try dsimp only at hSw); go_simp <;> with_reducible rfl)
            try simp only [Act.put, tA, tZ, tS]
            refine kT 11 ?_ ?_ ?_
            rotate_left
            · (intro w9 hSw; (try dsimp only at hSw); go_simp <;> with_reducible rfl)
            try simp only [Act.put, tA, tZ, tS]
            refine wpAnyH_ready (rs := [12]) (by kernel_rfl) (by simp) ?_
            refine AllReadyH.cons (by simp only [gA, gZ, gS]; rfl) (fun K hK => ?_) AllReadyH.nil
            go_simp
            refine hK.out _ _ ?_ (fun hHeld2 => ?_)
            · (try dsimp only); first | (with_reducible assumption) | exact spc3 hS0 (by repeat (first | (with_reducible exact Below.refl _ _) | (with_reducible assumption) | (with_reducible refine bel_set ?_ (sC) _) | (with_reducible refine bel_alloc ?_ _) | (with_reducible refine bel_drew ?_) | (with_reducible refine bel_drewN ?_ _) | (with_reducible refine bel_trans ?_ (by with_reducible assumption))))
            clear hK K hHeld
            have hHeld := hHeld2
            clear hHeld2
            try simp only [Act.put, tA, tZ, tS]
            refine wpAnyH_ready (rs := [13]) (by kernel_rfl) (by simp) ?_
            refine AllReadyH.cons (by simp only [gA, gZ, gS]; rfl) (fun K hK => ?_) AllReadyH.nil
            go_simp
            refine hK.out _ _ ?_ (fun hHeld2 => ?_)
            · (try dsimp only); first | (with_reducible assumption) | exact spc3 hS0 (by repeat (first | (with_reducible exact Below.refl _ _) | (with_reducible assumption) | (with_reducible refine bel_set ?_ (sC) _) | (with_reducible refine bel_alloc ?_ _) | (with_reducible refine bel_drew ?_) | (with_reducible refine bel_drewN ?_ _) | (with_reducible refine bel_trans ?_ (by with_reducible assumption))))
            clear hK K hHeld
            have hHeld := hHeld2
            clear hHeld2
            try simp only [Act.put, tA, tZ, tS]
            refine kT 14 ?_ ?_ ?_
            rotate_left
            · (intro w9 hSw; (try dsimp only at hSw); go_simp <;> with_reducible rfl)
            try simp only [Act.put, tA, tZ, tS]
            refine wpAnyH_done (by kernel_rfl) ?_ _
            go_wp2
            go_meet
            exact ⟨_, rfl, by have := hbf.size; simp at this; (try simp); omega, by first | exact World.alloc_heap_new _ _ | (simp; done), (by repeat (first | (with_reducible exact Below.refl _ _) | (with_reducible assumption) | (with_reducible refine bel_set ?_ (sC) _) | (with_reducible refine bel_alloc ?_ _) | (with_reducible refine bel_drew ?_) | (with_reducible refine bel_drewN ?_ _) | (with_reducible refine bel_trans ?_ (by with_reducible assumption))))⟩
          refine AllReadyH.cons (by simp only [gA, gZ, gS]; rfl) (fun K hK => ?_) AllReadyH.nil
          go_simp
          refine hK.out _ _ ?_ (fun hHeld2 => ?_)
          · (try dsimp only); exact spc3 hS0 (bel_one _ _)
          clear hK K hHeld
          have hHeld := hHeld2
          clear hHeld2
          try simp only [Act.put, tA, tZ, tS]
          refine wpAnyH_ready (rs := [8]) (by kernel_rfl) (by simp) ?_
          refine AllReadyH.cons (by simp only [gA, gZ, gS]; rfl) (fun K hK => ?_) AllReadyH.nil
          go_simp
          (go_at_call 16; refine (specfind_r _ _ _ RS ke st en _ ((unhide HT).below (bel_trans (bel_drew (Below.refl _ _)) (bel_one _ _))) HX).mono ?_; rintro e9 wf ⟨fb, rfl, hbf⟩)
          (try go_wp2_with fail)
          have zf := hbf.size
          (try simp at zf)
          have bZ : wf.heap[wr.heap.size + 1]? = some (.cells #[.int .i64 0, .int .i64 0, .int .i64 0, .int .i64 0] 47 (0, 0)) := (hbf.block (wr.heap.size + 1) (by simp)).trans (by have h9 := World.alloc_heap_new (wr.alloc (.cells #[.int .i64 kd, .int .i64 tm, .int .i64 ke, .int .i64 va, .int .i64 nn] 40)).drew (.cells #[.int .i64 0, .int .i64 0, .int .i64 0, .int .i64 0] 47); simpa using h9)
          have y0 : wf.cell? ⟨wr.heap.size + 1, 0, none⟩ = some (.int .i64 0) := Joins.cell_of_block bZ 0
          have x0 : wf.frozen? ⟨wr.heap.size + 1, 0, none⟩ = false := by simp [World.frozen?, bZ]
          have y1 : wf.cell? ⟨wr.heap.size + 1, 1, none⟩ = some (.int .i64 0) := Joins.cell_of_block bZ 1
          have x1 : wf.frozen? ⟨wr.heap.size + 1, 1, none⟩ = false := by simp [World.frozen?, bZ]
          have y2 : wf.cell? ⟨wr.heap.size + 1, 2, none⟩ = some (.int .i64 0) := Joins.cell_of_block bZ 2
          have x2 : wf.frozen? ⟨wr.heap.size + 1, 2, none⟩ = false := by simp [World.frozen?, bZ]
          have y3 : wf.cell? ⟨wr.heap.size + 1, 3, none⟩ = some (.int .i64 0) := Joins.cell_of_block bZ 3
          have x3 : wf.frozen? ⟨wr.heap.size + 1, 3, none⟩ = false := by simp [World.frozen?, bZ]
          refine hK.out _ _ ?_ (fun hHeld2 => ?_)
          · (try dsimp only); exact spc3 (spc3 hS0 (bel_one _ _)) hbf
          clear hK K hHeld
          have hHeld := hHeld2
          clear hHeld2
          try simp only [Act.put, tA, tZ, tS]
          refine kT 9 ?_ ?_ ?_
          rotate_left
          · (intro w9 hSw; (try dsimp only at hSw); go_simp <;> with_reducible rfl)
          try simp only [Act.put, tA, tZ, tS]
          refine kT 10 ?_ ?_ ?_
          rotate_left
          · (intro w9 hSw; (try dsimp only at hSw); go_simp <;> with_reducible rfl)
          try simp only [Act.put, tA, tZ, tS]
          refine kT 11 ?_ ?_ ?_
          rotate_left
          · (intro w9 hSw; (try dsimp only at hSw); go_simp <;> with_reducible rfl)
          try simp only [Act.put, tA, tZ, tS]
          refine wpAnyH_ready (rs := [13]) (by kernel_rfl) (by simp) ?_
          refine AllReadyH.cons (by simp only [gA, gZ, gS]; rfl) (fun K hK => ?_) AllReadyH.nil
          go_simp
          refine hK.out _ _ ?_ (fun hHeld2 => ?_)
          · (try dsimp only); exact spc3 hS0 (bel_set (bel_set (bel_set (bel_set (bel_trans (bel_one _ _) hbf) (by simp) _) (by simp) _) (by simp) _) (by simp) _)
          clear hK K hHeld
          have hHeld := hHeld2
          clear hHeld2
          try simp only [Act.put, tA, tZ, tS]
          refine kT 14 ?_ ?_ ?_
          rotate_left
          · (intro w9 hSw; (try dsimp only at hSw); go_simp <;> with_reducible rfl)
          try simp only [Act.put, tA, tZ, tS]
          refine wpAnyH_done (by kernel_rfl) ?_ _
          go_wp2
          go_meet
          exact ⟨_, rfl, by simp, Joins.block_setCell (Joins.block_setCell (Joins.block_setCell (Joins.block_setCell bZ _) _) _) _, bel_set (bel_set (bel_set (bel_set (bel_trans (bel_trans (bel_drew (Below.refl _ _)) (bel_one _ _)) hbf) (by simp) _) (by simp) _) (by simp) _) (by simp) _⟩
        case rest =>
          rename World => wx
          obtain ⟨B, rfl, hBq, bB, hbX⟩ := hcut
          have zx : wr.heap.size < wx.heap.size := by have := hbX.size; simp at this; omega
          have zB : B < wx.heap.size := (Array.getElem?_eq_some_iff.1 bB).1
          obtain ⟨ya, yb, yc, yd, hy9⟩ : ∃ ya yb yc yd, addF (xa, xb, xc, xd) va = (ya, yb, yc, yd) := ⟨_, _, _, _, rfl⟩
          have HS3 : Hid (stepP k RS ⟨kd, tm, ke, va, nn, st, en⟩ = insR (⟨ke, st, en, ya, yb, yc, yd⟩ : TbR) (kpTb ke st en RS)) := hide (by rw [stepP_row hk]; dsimp only; rw [unhide HX, hy9])
          have HY := hide hy9
          have hS8 : ((wx.drew.cell? ⟨wr.heap.size, 2, none⟩ = some (.int .i64 ke) ∧ wx.drew.cell? ⟨wr.heap.size, 3, none⟩ = some (.int .i64 va)) ∧ (wx.drew.cell? ⟨gp, op + i * 7 + 5, none⟩ = some (.int .i64 st) ∧ wx.drew.cell? ⟨gp, op + i * 7 + 5 + 1, none⟩ = some (.int .i64 en)) ∧ wx.drew.cell? ⟨B, 0, none⟩ = some (.int .i64 xa) ∧ wx.drew.cell? ⟨B, 1, none⟩ = some (.int .i64 xb) ∧ wx.drew.cell? ⟨B, 2, none⟩ = some (.int .i64 xc) ∧ wx.drew.cell? ⟨B, 3, none⟩ = some (.int .i64 xd)) ∧ wr.heap.size < wx.drew.heap.size ∧ gp < wx.drew.heap.size ∧ B < wx.drew.heap.size := ⟨⟨⟨(hbX.cell (p := ⟨wr.heap.size, 2, none⟩) (by simp)).trans (by simp [go_sem]), (hbX.cell (p := ⟨wr.heap.size, 3, none⟩) (by simp)).trans (by simp [go_sem])⟩, ⟨(hbX.cell (p := ⟨gp, op + i * 7 + 5, none⟩) (by simp; omega)).trans hS0.1.2.1, (hbX.cell (p := ⟨gp, op + i * 7 + 5 + 1, none⟩) (by simp; omega)).trans hS0.1.2.2⟩, Joins.cell_of_block bB 0, Joins.cell_of_block bB 1, Joins.cell_of_block bB 2, Joins.cell_of_block bB 3⟩, zx, (by show gp < wx.heap.size; omega), zB⟩
          have HTX := hide ((unhide HT).below hbX)
          have HLX := hide ((((unhide HL).resolve_left (by omega)).below hbQ).below hbX)
          have hbWX : Below w.heap.size w wx := bel_trans (bel_alloc hbw _) hbX
          have bJX : wx.heap[w.heap.size]? = some (.cells #[.int .i64 s, .int .i64 t, .int .i64 k, .int .i64 z, .int .i64 p, .int .i64 l, .int .i64 e, .bool b, .int .i64 v, .int .i64 r] 28 (0, 0)) := (hbX.block w.heap.size (by simp; omega)).trans ((Below.heap_alloc _ _ _ zw).trans (unhide HJ))
          clear hy9 hk HX HT hS0 hbX c0 c1 c2 c3 c4 c5 c6 j2 HO HL HJ hbQ
          go_wp2_with fail
          refine wp_region_held_drew (S := (fun W => ((W.cell? ⟨wr.heap.size, 2, none⟩ = some (.int .i64 ke) ∧ W.cell? ⟨wr.heap.size, 3, none⟩ = some (.int .i64 va)) ∧ (W.cell? ⟨gp, op + i * 7 + 5, none⟩ = some (.int .i64 st) ∧ W.cell? ⟨gp, op + i * 7 + 5 + 1, none⟩ = some (.int .i64 en)) ∧ W.cell? ⟨B, 0, none⟩ = some (.int .i64 xa) ∧ W.cell? ⟨B, 1, none⟩ = some (.int .i64 xb) ∧ W.cell? ⟨B, 2, none⟩ = some (.int .i64 xc) ∧ W.cell? ⟨B, 3, none⟩ = some (.int .i64 xd)) ∧ wr.heap.size < W.heap.size ∧ gp < W.heap.size ∧ B < W.heap.size)) (by kernel_rfl) ?_ (fun hHeld => ?_)
          · (try dsimp only); first | (with_reducible assumption) | (exact spc8 (by with_reducible assumption) (by with_reducible assumption))
          refine kT 0 ?_ ?_ ?_
          rotate_left
          · (intro w9 hSw; (try dsimp only at hSw); go_simp <;> with_reducible rfl)
          try simp only [Act.put, tA, tZ, tS]
          refine kT 1 ?_ ?_ ?_
          rotate_left
          · (intro w9 hSw; (try dsimp only at hSw); go_simp <;> with_reducible rfl)
          try simp only [Act.put, tA, tZ, tS]
          refine kT 2 ?_ ?_ ?_
          rotate_left
          · (intro w9 hSw; (try dsimp only at hSw); go_simp <;> with_reducible rfl)
          try simp only [Act.put, tA, tZ, tS]
          refine kT 3 ?_ ?_ ?_
          rotate_left
          · (intro w9 hSw; (try dsimp only at hSw); go_simp <;> with_reducible rfl)
          try simp only [Act.put, tA, tZ, tS]
          refine kT 4 ?_ ?_ ?_
          rotate_left
          · (intro w9 hSw; (try dsimp only at hSw); go_simp <;> with_reducible rfl)
          try simp only [Act.put, tA, tZ, tS]
          refine kT 5 ?_ ?_ ?_
          rotate_left
          · (intro w9 hSw; (try dsimp only at hSw); go_simp <;> with_reducible rfl)
          try simp only [Act.put, tA, tZ, tS]
          refine kT 6 ?_ ?_ ?_
          rotate_left
          · (intro w9 hSw; (try dsimp only at hSw); go_simp <;> with_reducible rfl)
          try simp only [Act.put, tA, tZ, tS]
          refine kT 7 ?_ ?_ ?_
          rotate_left
          · (intro w9 hSw; (try dsimp only at hSw); go_simp <;> with_reducible rfl)
          try simp only [Act.put, tA, tZ, tS]
          refine kT 8 ?_ ?_ ?_
          rotate_left
          · (intro w9 hSw; (try dsimp only at hSw); go_simp <;> with_reducible rfl)
          try simp only [Act.put, tA, tZ, tS]
          refine kT 9 ?_ ?_ ?_
          rotate_left
          · (intro w9 hSw; (try dsimp only at hSw); go_simp <;> with_reducible rfl)
          try simp only [Act.put, tA, tZ, tS]
          refine kT 10 ?_ ?_ ?_
          rotate_left
          · (intro w9 hSw; (try dsimp only at hSw); go_simp <;> with_reducible rfl)
          try simp only [Act.put, tA, tZ, tS]
          refine wpAnyH_ready (rs := [11]) (by kernel_rfl) (by simp) ?_
          refine AllReadyH.cons (by simp only [gA, gZ, gS]; rfl) (fun K hK => ?_) AllReadyH.nil
          go_simp
          (go_at_call 18; refine (specadd_is _ HY).mono ?_; rintro e9 wf ⟨rfl, hbf⟩; have hS9 := spc8 hS8 hbf)
          (try go_wp2_with fail)
          refine hK.out _ _ ?_ (fun hHeld2 => ?_)
          · (try dsimp only); first | (with_reducible assumption) | (exact spc8 (by with_reducible assumption) (by with_reducible assumption))
          clear hK K hHeld
          have hHeld := hHeld2
          clear hHeld2
          try simp only [Act.put, tA, tZ, tS]
          refine kT 12 ?_ ?_ ?_
          rotate_left
          · (intro w9 hSw; (try dsimp only at hSw); go_simp <;> with_reducible rfl)
          try simp only [Act.put, tA, tZ, tS]
          refine wpAnyH_ready (rs := [13]) (by kernel_rfl) (by simp) ?_
          refine AllReadyH.cons (by simp only [gA, gZ, gS]; rfl) (fun K hK => ?_) AllReadyH.nil
          go_simp
          (go_at_call 17; refine (specput_any ⟨ke, st, en, ya, yb, yc, yd⟩ _ _ _ RS _ (((unhide HTX).below (bel_drew (Below.refl _ _))).below hbf) (by omega)).mono ?_; rintro e9 wh ⟨vh, rfl, hOh, hbh⟩; have hSa := spc8 hS9 hbh)
          (try go_wp2_with fail)
          refine hK.out _ _ ?_ (fun hHeld2 => ?_)
          · (try dsimp only); first | (with_reducible assumption) | (exact spc8 (by with_reducible assumption) (by with_reducible assumption))
          clear hK K hHeld
          have hHeld := hHeld2
          clear hHeld2
          try simp only [Act.put, tA, tZ, tS]
          refine kT 14 ?_ ?_ ?_
          rotate_left
          · (intro w9 hSw; (try dsimp only at hSw); go_simp <;> with_reducible rfl)
          try simp only [Act.put, tA, tZ, tS]
          refine wpAnyH_done (by kernel_rfl) ?_ _
          go_wp2
          refine ⟨⟨i + 1, by omega, by go_num, hide ?_, hide ?_, hide ?_, bel_trans (bel_trans (bel_drew hbWX) hbf) hbh⟩, by simp [intOf]; omega⟩
          · rw [unhide HS, unhide HS3]; exact World.ownsRow.mono hOh (by have := hbf.size; have h9 : wx.heap.size ≤ wf.heap.size := this; omega)
          · exact Or.inr ((((unhide HLX).below (bel_drew (Below.refl _ _))).below hbf).below hbh)
          · have z9 : wx.heap.size ≤ wf.heap.size := hbf.size
            exact (hbh.block w.heap.size (by omega)).trans ((hbf.block w.heap.size (by show _ < wx.heap.size; omega)).trans bJX)
    · obtain rfl : i = PR.length := by omega
      have HOf : Hid (OwnTb wr (w.heap.size + 1) u5 (tabP k PR)) := hide (by have h9 := unhide HO; rw [List.take_of_length_le (by omega)] at h9; exact h9)
      clear HO
      go_wp2
      go_ret
      exact ⟨_, rfl, World.ownsRow.mono (unhide HOf) (by omega), hbw⟩
end Go.Proofs.YtikidpcgnmffcaaGreat
