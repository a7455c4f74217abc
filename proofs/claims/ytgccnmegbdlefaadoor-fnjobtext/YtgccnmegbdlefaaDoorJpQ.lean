/- Proved here: the lines of a job are read, in the specification. -/
import Derived.Test.YtgccnmegbdlefaaDoorJpR
namespace Go.Proofs.YtgccnmegbdlefaaDoor
open Go.ChangeShapes Go.WideShapes Go.ChangeAt Go.RowKit
set_option linter.unusedVariables false
set_option linter.unusedSimpArgs false

set_option maxRecDepth 20000 in
set_option maxHeartbeats 8000000 in
theorem specjobparse_any (a : Option Addr) (len cap : Nat) (L : List ByteArray) (w : World) (h : StRs w a len (stL L)) (hs : ∀ x ∈ L, x.size ≤ 1048576) (hl : len ≤ 1048576) : Calls Tryd.prog 10 #[.slice a len cap] w fun e w' => JpP L w e w' := by
  obtain ⟨i0, hi, hz0, hz1, hz2⟩ := info_parts Tryd.infoIntJ
  have hLl : L.length = len := by have := h.1; rw [stL_len] at this; exact this
  have HS := hide hs
  clear hs
  go_enter Tryd.func10, Tryd.ntmps10
  go_wp2
  go_loopw [4, 5] (fun nv i wr => ∃ (ix : Nat) (ns : List Int), ix ≤ len ∧ i = .int .i64 ix ∧ Hid (OwnJ wr (w.heap.size + 1) nv ns) ∧ ns.length = ix ∧ ix ≤ 10 ∧ Hid (GoodJ (L.take ix) ns) ∧ Below (w.alloc (.cells #[.int .i64 0, .int .i64 0, .int .i64 0, .int .i64 0, .int .i64 0, .int .i64 0, .int .i64 0, .bool false, .int .i64 0, .int .i64 0] 24)).heap.size (w.alloc (.cells #[.int .i64 0, .int .i64 0, .int .i64 0, .int .i64 0, .int .i64 0, .int .i64 0, .int .i64 0, .bool false, .int .i64 0, .int .i64 0] 24)) wr) (fun _ i _ => len - (intOf i).toNat)
  case atStart => exact ⟨0, [], Nat.zero_le _, rfl, hide (ownLit (W := (w.alloc (.cells #[.int .i64 0, .int .i64 0, .int .i64 0, .int .i64 0, .int .i64 0, .int .i64 0, .int .i64 0, .bool false, .int .i64 0, .int .i64 0] 24))) (B := w.heap.size + 1) _ _ (by simp) (by simp)), rfl, by omega, hide goodJ_nil, bel_one _ _⟩
  case round =>
    obtain ⟨ix, ns, hk, rfl, HO, hnl, hix, HG, hbw⟩ := hrel
    have hws := hbw.size
    simp at hws
    by_cases hlt : ix < len
    · obtain ⟨x0, hx0⟩ : ∃ x0, L[ix]? = some x0 := ⟨_, List.getElem?_eq_getElem (by omega)⟩
      obtain ⟨g, o, rfl⟩ : ∃ g o, a = some ⟨g, o, none⟩ := by
        obtain ⟨g, o, ha, _⟩ := h.2.2.resolve_left (by omega)
        exact ⟨g, o, ha⟩
      obtain ⟨d0, hg⟩ := st_at (h.below (bel_trans (bel_one w _) hbw)) hx0
      have hsz := unhide HS x0 (List.mem_of_getElem? hx0)
      have HL := hide hx0
      have HH := hide h
      clear hx0 h
      go_wp2_with fail
      refine (words_any x0 _ hsz).mono ?_
      rintro e wq ⟨vw, M, rfl, hOw, hw1, hw2, hMl, hMs, hbq⟩
      have HW1 := hide hw1
      have HW2 := hide hw2
      obtain ⟨aw, cw, rfl, HW, _, _⟩ := holdSt hOw (by rw [stL_len]; omega)
      have HWw := hide HW
      have hbX : Below (w.alloc (.cells #[.int .i64 0, .int .i64 0, .int .i64 0, .int .i64 0, .int .i64 0, .int .i64 0, .int .i64 0, .bool false, .int .i64 0, .int .i64 0] 24)).heap.size (w.alloc (.cells #[.int .i64 0, .int .i64 0, .int .i64 0, .int .i64 0, .int .i64 0, .int .i64 0, .int .i64 0, .bool false, .int .i64 0, .int .i64 0] 24)) wq := bel_trans hbw hbq
      have hzq := hbq.size
      have HO1 : Hid (OwnJ wq (w.heap.size + 1) u4 ns) := hide ((unhide HO).bel hbq)
      rw [stL_len] at HW ⊢
      clear hOw hw1 hw2 HW d0 hg
      by_cases h10 : ix < 10
      · obtain ⟨x, hx, hxs⟩ := jNames_at h10
        have HX := hide hx
        clear hx
        have hm1 : decide ((ix : Int) < 10) = true := by simp; omega
        have hltI : (ix : Int) < 10 := by omega
        by_cases hM2 : M.length = 2
        · obtain ⟨y0, y1, hM⟩ := two hM2
          subst hM
          obtain ⟨gw, ow, rfl⟩ : ∃ g o, aw = some ⟨g, o, none⟩ := by
            obtain ⟨g, o, ha, _⟩ := (unhide HWw).2.2.resolve_left (by simp [stL])
            exact ⟨g, o, ha⟩
          obtain ⟨cw0, hgw⟩ := st_at (unhide HWw) (show [y0, y1][0]? = some y0 from rfl)
          obtain ⟨cw1, _⟩ := st_at (unhide HWw) (show [y0, y1][1]? = some y1 from rfl)
          rw [Nat.add_zero] at cw0
          by_cases hy : y0 = x
          · have ty := toL_y hy
            subst hy
            go_wp2_with fail
            refine wp_region_held_drew (S := (fun W => (W.cell? ⟨gw, ow, none⟩ = some (.string y0) ∧ gw < W.heap.size))) (by kernel_rfl) ?_ (fun hHeld => ?_)
            · (try dsimp only); exact ⟨cw0, hgw⟩
            refine wpAnyH_take (i := 0) (v := ?_) (by simp only [List.getElem?_toArray, List.getElem?_cons_zero, List.getElem?_cons_succ]; rfl) (by kernel_rfl) (by kernel_rfl) (by kernel_rfl) (by intro _ _ _ h; exact h) (Or.inl ⟨by rfl, ?_⟩) (by assumption) ?_
            rotate_left
            · (intro w9 hSw; (try dsimp only at hSw); go_simp <;> with_reducible rfl)
            try simp only [Act.put, List.setIfInBounds_toArray, List.set_cons_zero, List.set_cons_succ]
            refine wpAnyH_ready (rs := [1]) (by kernel_rfl) (by simp) ?_
            refine AllReadyH.cons (by simp only [List.getElem?_toArray, List.getElem?_cons_zero, List.getElem?_cons_succ]; rfl) (fun K hK => ?_) AllReadyH.nil
            go_simp
            (go_at_call 30; refine (names_any (show jNames[0]? = some _ from rfl) _).mono ?_; rintro e9 wn ⟨gn, rfl, hnwn, hzwn, hbwn⟩; obtain ⟨hcwn, hfwn, hswn⟩ := bcell hbwn)
            (try go_wp2_with fail)
            refine hK.out _ _ ?_ (fun hHeld2 => ?_)
            · (try dsimp only); exact hd1 ⟨cw0, hgw⟩ (by repeat (first | (with_reducible exact Below.refl _ _) | (with_reducible assumption) | (with_reducible refine bel_set ?_ (by first | (simp; done) | (simp; omega)) _) | (with_reducible refine bel_alloc ?_ _) | (with_reducible refine bel_drew ?_) | (with_reducible refine bel_drewN ?_ _) | (with_reducible refine bel_trans ?_ (by with_reducible assumption))))
            clear hK K hHeld
            have hHeld := hHeld2
            clear hHeld2
            try simp only [Act.put, List.setIfInBounds_toArray, List.set_cons_zero, List.set_cons_succ]
            refine wpAnyH_take (i := 2) (v := ?_) (by simp only [List.getElem?_toArray, List.getElem?_cons_zero, List.getElem?_cons_succ]; rfl) (by kernel_rfl) (by kernel_rfl) (by kernel_rfl) (by intro _ _ _ h; exact h) (Or.inl ⟨by rfl, ?_⟩) (by assumption) ?_
            rotate_left
            · (intro w9 hSw; (try dsimp only at hSw); go_simp <;> with_reducible rfl)
            try simp only [Act.put, List.setIfInBounds_toArray, List.set_cons_zero, List.set_cons_succ]
            refine wpAnyH_take (i := 3) (v := ?_) (by simp only [List.getElem?_toArray, List.getElem?_cons_zero, List.getElem?_cons_succ]; rfl) (by kernel_rfl) (by kernel_rfl) (by kernel_rfl) (by intro _ _ _ h; exact h) (Or.inl ⟨by rfl, ?_⟩) (by assumption) ?_
            rotate_left
            · (intro w9 hSw; (try dsimp only at hSw); go_simp <;> with_reducible rfl)
            try simp only [Act.put, List.setIfInBounds_toArray, List.set_cons_zero, List.set_cons_succ]
            refine wpAnyH_take (i := 4) (v := ?_) (by simp only [List.getElem?_toArray, List.getElem?_cons_zero, List.getElem?_cons_succ]; rfl) (by kernel_rfl) (by kernel_rfl) (by kernel_rfl) (by intro _ _ _ h; exact h) (Or.inl ⟨by rfl, ?_⟩) (by assumption) ?_
            rotate_left
            · (intro w9 hSw; (try dsimp only at hSw); go_simp <;> with_reducible rfl)
            try simp only [Act.put, List.setIfInBounds_toArray, List.set_cons_zero, List.set_cons_succ]
            refine wpAnyH_take (i := 5) (v := ?_) (by simp only [List.getElem?_toArray, List.getElem?_cons_zero, List.getElem?_cons_succ]; rfl) (by kernel_rfl) (by kernel_rfl) (by kernel_rfl) (by intro _ _ _ h; exact h) (Or.inl ⟨by rfl, ?_⟩) (by assumption) ?_
            rotate_left
            · (intro w9 hSw; (try dsimp only at hSw); go_simp <;> with_reducible rfl)
            try simp only [Act.put, List.setIfInBounds_toArray, List.set_cons_zero, List.set_cons_succ]
            refine wpAnyH_take (i := 6) (v := ?_) (by simp only [List.getElem?_toArray, List.getElem?_cons_zero, List.getElem?_cons_succ]; rfl) (by kernel_rfl) (by kernel_rfl) (by kernel_rfl) (by intro _ _ _ h; exact h) (Or.inl ⟨by rfl, ?_⟩) (by assumption) ?_
            rotate_left
            · (intro w9 hSw; (try dsimp only at hSw); go_simp <;> with_reducible rfl)
            try simp only [Act.put, List.setIfInBounds_toArray, List.set_cons_zero, List.set_cons_succ]
            refine wpAnyH_take (i := 7) (v := ?_) (by simp only [List.getElem?_toArray, List.getElem?_cons_zero, List.getElem?_cons_succ]; rfl) (by kernel_rfl) (by kernel_rfl) (by kernel_rfl) (by intro _ _ _ h; exact h) (Or.inl ⟨by rfl, ?_⟩) (by assumption) ?_
            rotate_left
            · (intro w9 hSw; (try dsimp only at hSw); go_simp <;> with_reducible rfl)
            try simp only [Act.put, List.setIfInBounds_toArray, List.set_cons_zero, List.set_cons_succ]
            refine wpAnyH_take (i := 8) (v := ?_) (by simp only [List.getElem?_toArray, List.getElem?_cons_zero, List.getElem?_cons_succ]; rfl) (by kernel_rfl) (by kernel_rfl) (by kernel_rfl) (by intro _ _ _ h; exact h) (Or.inl ⟨by rfl, ?_⟩) (by assumption) ?_
            rotate_left
            · (intro w9 hSw; (try dsimp only at hSw); go_simp <;> with_reducible rfl)
            try simp only [Act.put, List.setIfInBounds_toArray, List.set_cons_zero, List.set_cons_succ]
            refine wpAnyH_take (i := 9) (v := ?_) (by simp only [List.getElem?_toArray, List.getElem?_cons_zero, List.getElem?_cons_succ]; rfl) (by kernel_rfl) (by kernel_rfl) (by kernel_rfl) (by intro _ _ _ h; exact h) (Or.inl ⟨by rfl, ?_⟩) (by assumption) ?_
            rotate_left
            · (intro w9 hSw; (try dsimp only at hSw); go_simp <;> with_reducible rfl)
            try simp only [Act.put, List.setIfInBounds_toArray, List.set_cons_zero, List.set_cons_succ]
            refine wpAnyH_take (i := 10) (v := ?_) (by simp only [List.getElem?_toArray, List.getElem?_cons_zero, List.getElem?_cons_succ]; rfl) (by kernel_rfl) (by kernel_rfl) (by kernel_rfl) (by intro _ _ _ h; exact h) (Or.inl ⟨by rfl, ?_⟩) (by assumption) ?_
            rotate_left
            · (intro w9 hSw; (try dsimp only at hSw); go_simp <;> with_reducible rfl)
            try simp only [Act.put, List.setIfInBounds_toArray, List.set_cons_zero, List.set_cons_succ]
            refine wpAnyH_take (i := 11) (v := ?_) (by simp only [List.getElem?_toArray, List.getElem?_cons_zero, List.getElem?_cons_succ]; rfl) (by kernel_rfl) (by kernel_rfl) (by kernel_rfl) (by intro _ _ _ h; exact h) (Or.inl ⟨by rfl, ?_⟩) (by assumption) ?_
            rotate_left
            · (intro w9 hSw; (try dsimp only at hSw); go_simp <;> with_reducible rfl)
            try simp only [Act.put, List.setIfInBounds_toArray, List.set_cons_zero, List.set_cons_succ]
            refine wpAnyH_take (i := 12) (v := ?_) (by simp only [List.getElem?_toArray, List.getElem?_cons_zero, List.getElem?_cons_succ]; rfl) (by kernel_rfl) (by kernel_rfl) (by kernel_rfl) (by intro _ _ _ h; exact h) (Or.inl ⟨by rfl, ?_⟩) (by assumption) ?_
            rotate_left
            · (intro w9 hSw; (try dsimp only at hSw); go_simp <;> with_reducible rfl)
            try simp only [Act.put, List.setIfInBounds_toArray, List.set_cons_zero, List.set_cons_succ]
            refine wpAnyH_take (i := 14) (v := ?_) (by simp only [List.getElem?_toArray, List.getElem?_cons_zero, List.getElem?_cons_succ]; rfl) (by kernel_rfl) (by kernel_rfl) (by kernel_rfl) (by intro _ _ _ h; exact h) (Or.inl ⟨by rfl, ?_⟩) (by assumption) ?_
            rotate_left
            · (intro w9 hSw; (try dsimp only at hSw); go_simp <;> with_reducible rfl)
            try simp only [Act.put, List.setIfInBounds_toArray, List.set_cons_zero, List.set_cons_succ]
            refine wpAnyH_ready (rs := [13]) (by kernel_rfl) (by simp) ?_
            refine AllReadyH.cons (by simp only [List.getElem?_toArray, List.getElem?_cons_zero, List.getElem?_cons_succ]; rfl) (fun K hK => ?_) AllReadyH.nil
            go_simp
            (go_at_call 30; refine (names_any (unhide HX) _).mono ?_; rintro e9 wm ⟨gm, rfl, hnwm, hzwm, hbwm⟩; obtain ⟨hcwm, hfwm, hswm⟩ := bcell hbwm)
            (try go_wp2_with fail)
            refine hK.out _ _ ?_ (fun hHeld2 => ?_)
            · (try dsimp only); exact hd1 ⟨cw0, hgw⟩ (by repeat (first | (with_reducible exact Below.refl _ _) | (with_reducible assumption) | (with_reducible refine bel_set ?_ (by first | (simp; done) | (simp; omega)) _) | (with_reducible refine bel_alloc ?_ _) | (with_reducible refine bel_drew ?_) | (with_reducible refine bel_drewN ?_ _) | (with_reducible refine bel_trans ?_ (by with_reducible assumption))))
            clear hK K hHeld
            have hHeld := hHeld2
            clear hHeld2
            try simp only [Act.put, List.setIfInBounds_toArray, List.set_cons_zero, List.set_cons_succ]
            refine wpAnyH_take (i := 15) (v := ?_) (by simp only [List.getElem?_toArray, List.getElem?_cons_zero, List.getElem?_cons_succ]; rfl) (by kernel_rfl) (by kernel_rfl) (by kernel_rfl) (by intro _ _ _ h; exact h) (Or.inl ⟨by rfl, ?_⟩) (by assumption) ?_
            rotate_left
            · (intro w9 hSw; (try dsimp only at hSw); go_simp <;> with_reducible rfl)
            try simp only [Act.put, List.setIfInBounds_toArray, List.set_cons_zero, List.set_cons_succ]
            refine wpAnyH_ready (rs := [16]) (by kernel_rfl) (by simp) ?_
            refine AllReadyH.cons (by simp only [List.getElem?_toArray, List.getElem?_cons_zero, List.getElem?_cons_succ]; rfl) (fun K hK => ?_) AllReadyH.nil
            go_simp
            refine hK.out _ _ ?_ (fun hHeld2 => ?_)
            · (try dsimp only); exact hd1 ⟨cw0, hgw⟩ (by repeat (first | (with_reducible exact Below.refl _ _) | (with_reducible assumption) | (with_reducible refine bel_set ?_ (by first | (simp; done) | (simp; omega)) _) | (with_reducible refine bel_alloc ?_ _) | (with_reducible refine bel_drew ?_) | (with_reducible refine bel_drewN ?_ _) | (with_reducible refine bel_trans ?_ (by with_reducible assumption))))
            clear hK K hHeld
            have hHeld := hHeld2
            clear hHeld2
            try simp only [Act.put, List.setIfInBounds_toArray, List.set_cons_zero, List.set_cons_succ]
            refine wpAnyH_take (i := 17) (v := ?_) (by simp only [List.getElem?_toArray, List.getElem?_cons_zero, List.getElem?_cons_succ]; rfl) (by kernel_rfl) (by kernel_rfl) (by kernel_rfl) (by intro _ _ _ h; exact h) (Or.inl ⟨by rfl, ?_⟩) (by assumption) ?_
            rotate_left
            · (intro w9 hSw; (try dsimp only at hSw); go_simp <;> with_reducible rfl)
            try simp only [Act.put, List.setIfInBounds_toArray, List.set_cons_zero, List.set_cons_succ]
            refine wpAnyH_take (i := 18) (v := ?_) (by simp only [List.getElem?_toArray, List.getElem?_cons_zero, List.getElem?_cons_succ]; rfl) (by kernel_rfl) (by kernel_rfl) (by kernel_rfl) (by intro _ _ _ h; exact h) (Or.inl ⟨by rfl, ?_⟩) (by assumption) ?_
            rotate_left
            · (intro w9 hSw; (try dsimp only at hSw); go_simp <;> with_reducible rfl)
            try simp only [Act.put, List.setIfInBounds_toArray, List.set_cons_zero, List.set_cons_succ]
            refine wpAnyH_take (i := 19) (v := ?_) (by simp only [List.getElem?_toArray, List.getElem?_cons_zero, List.getElem?_cons_succ]; rfl) (by kernel_rfl) (by kernel_rfl) (by kernel_rfl) (by intro _ _ _ h; exact h) (Or.inl ⟨by rfl, ?_⟩) (by assumption) ?_
            rotate_left
            · (intro w9 hSw; (try dsimp only at hSw); go_simp <;> with_reducible rfl)
            try simp only [Act.put, List.setIfInBounds_toArray, List.set_cons_zero, List.set_cons_succ]
            refine wpAnyH_done (by kernel_rfl) ?_ _
            have hbqm : Below wq.heap.size wq wm := (by repeat (first | (with_reducible exact Below.refl _ _) | (with_reducible assumption) | (with_reducible refine bel_set ?_ (by first | (simp; done) | (simp; omega)) _) | (with_reducible refine bel_alloc ?_ _) | (with_reducible refine bel_drew ?_) | (with_reducible refine bel_drewN ?_ _) | (with_reducible refine bel_trans ?_ (by with_reducible assumption))))
            have hbm : Below (w.alloc (.cells #[.int .i64 0, .int .i64 0, .int .i64 0, .int .i64 0, .int .i64 0, .int .i64 0, .int .i64 0, .bool false, .int .i64 0, .int .i64 0] 24)).heap.size (w.alloc (.cells #[.int .i64 0, .int .i64 0, .int .i64 0, .int .i64 0, .int .i64 0, .int .i64 0, .int .i64 0, .bool false, .int .i64 0, .int .i64 0] 24)) wm := bel_trans hbX hbqm
            have cw1m := (hd1 ⟨cw1, hgw⟩ hbqm).1
            have hszy := hMs y1 (by simp)
            have hzm := hbm.size
            simp at hzm
            have HO2 : Hid (OwnJ wm (w.heap.size + 1) u4 ns) := hide ((unhide HO1).bel hbqm)
            have hge := hide ((unhide HO2).ge)
            clear hbwn hcwn hfwn hswn hbwm hcwm hfwm hswm hnwn hnwm hzwn hzwm cw0 ty
            obtain ⟨n, bf, hN⟩ : ∃ n bf, num1 y1.data.toList = (n, bf) := ⟨_, _, rfl⟩
            have HN := hide hN
            go_wp2_with fail
            refine (number_at hN _ (by omega)).mono ?_
            rintro e7 w7 ⟨rfl, hw7⟩
            obtain rfl := hw7.symm
            clear hw7 hN
            go_upto_region 10 with (at_builtin; go_loud (refine wpList_append_own _ rfl _ _ 58 rfl (w.heap.size + 1) 3 i0 _ 1 8 Tryd.underlying58 hi hz0 hz1 hz2 rfl (by decide) u4 _ _ rfl (World.ownsRow.alloc (unhide HO2) _) ⟨wm.heap.size, 0, none⟩ 1 1 [.int .i64 n] rfl rfl (cell_1J wm _ _) (by simp [Value.oneCell']) (by unfold maxLen; omega) (by omega) (by simp; omega) ?_); intro v' w3 hown' hgrow _)
            have hb3 : Below (w.alloc (.cells #[.int .i64 0, .int .i64 0, .int .i64 0, .int .i64 0, .int .i64 0, .int .i64 0, .int .i64 0, .bool false, .int .i64 0, .int .i64 0] 24)).heap.size (w.alloc (.cells #[.int .i64 0, .int .i64 0, .int .i64 0, .int .i64 0, .int .i64 0, .int .i64 0, .int .i64 0, .bool false, .int .i64 0, .int .i64 0] 24)) w3 := (hbm.alloc (by simp; omega) _).grown hgrow (by simp; omega) (fun k9 h9 => by have := unhide hge _ h9; simp; omega)
            have HO3 : Hid (OwnJ w3 (w.heap.size + 1) v' (ns ++ [n])) := hide (by unfold OwnJ; simpa using hown')
            clear hown' hgrow
            cases bf with
            | false =>
              have hbZ : Below (w.alloc (.cells #[.int .i64 0, .int .i64 0, .int .i64 0, .int .i64 0, .int .i64 0, .int .i64 0, .int .i64 0, .bool false, .int .i64 0, .int .i64 0] 24)).heap.size (w.alloc (.cells #[.int .i64 0, .int .i64 0, .int .i64 0, .int .i64 0, .int .i64 0, .int .i64 0, .int .i64 0, .bool false, .int .i64 0, .int .i64 0] 24)) w3 := (by repeat (first | (with_reducible exact Below.refl _ _) | (with_reducible assumption) | (with_reducible refine bel_set ?_ (by first | (simp; done) | (simp; omega)) _) | (with_reducible refine bel_alloc ?_ _) | (with_reducible refine bel_drew ?_) | (with_reducible refine bel_drewN ?_ _) | (with_reducible refine bel_trans ?_ (by with_reducible assumption))))
              have c0 : w3.cell? ⟨w.heap.size, 0, none⟩ = some (.int .i64 0) := (hbZ.cell (p := ⟨w.heap.size, 0, none⟩) (by simp)).trans (by simp [go_sem])
              have f0 : w3.frozen? ⟨w.heap.size, 0, none⟩ = false := (hbZ.frozen (p := ⟨w.heap.size, 0, none⟩) (by simp)).trans (by simp [go_sem])
              have c1 : w3.cell? ⟨w.heap.size, 1, none⟩ = some (.int .i64 0) := (hbZ.cell (p := ⟨w.heap.size, 1, none⟩) (by simp)).trans (by simp [go_sem])
              have f1 : w3.frozen? ⟨w.heap.size, 1, none⟩ = false := (hbZ.frozen (p := ⟨w.heap.size, 1, none⟩) (by simp)).trans (by simp [go_sem])
              have c2 : w3.cell? ⟨w.heap.size, 2, none⟩ = some (.int .i64 0) := (hbZ.cell (p := ⟨w.heap.size, 2, none⟩) (by simp)).trans (by simp [go_sem])
              have f2 : w3.frozen? ⟨w.heap.size, 2, none⟩ = false := (hbZ.frozen (p := ⟨w.heap.size, 2, none⟩) (by simp)).trans (by simp [go_sem])
              have c3 : w3.cell? ⟨w.heap.size, 3, none⟩ = some (.int .i64 0) := (hbZ.cell (p := ⟨w.heap.size, 3, none⟩) (by simp)).trans (by simp [go_sem])
              have f3 : w3.frozen? ⟨w.heap.size, 3, none⟩ = false := (hbZ.frozen (p := ⟨w.heap.size, 3, none⟩) (by simp)).trans (by simp [go_sem])
              have c4 : w3.cell? ⟨w.heap.size, 4, none⟩ = some (.int .i64 0) := (hbZ.cell (p := ⟨w.heap.size, 4, none⟩) (by simp)).trans (by simp [go_sem])
              have f4 : w3.frozen? ⟨w.heap.size, 4, none⟩ = false := (hbZ.frozen (p := ⟨w.heap.size, 4, none⟩) (by simp)).trans (by simp [go_sem])
              have c5 : w3.cell? ⟨w.heap.size, 5, none⟩ = some (.int .i64 0) := (hbZ.cell (p := ⟨w.heap.size, 5, none⟩) (by simp)).trans (by simp [go_sem])
              have f5 : w3.frozen? ⟨w.heap.size, 5, none⟩ = false := (hbZ.frozen (p := ⟨w.heap.size, 5, none⟩) (by simp)).trans (by simp [go_sem])
              have c6 : w3.cell? ⟨w.heap.size, 6, none⟩ = some (.int .i64 0) := (hbZ.cell (p := ⟨w.heap.size, 6, none⟩) (by simp)).trans (by simp [go_sem])
              have f6 : w3.frozen? ⟨w.heap.size, 6, none⟩ = false := (hbZ.frozen (p := ⟨w.heap.size, 6, none⟩) (by simp)).trans (by simp [go_sem])
              have c7 : w3.cell? ⟨w.heap.size, 7, none⟩ = some (.bool false) := (hbZ.cell (p := ⟨w.heap.size, 7, none⟩) (by simp)).trans (by simp [go_sem])
              have f7 : w3.frozen? ⟨w.heap.size, 7, none⟩ = false := (hbZ.frozen (p := ⟨w.heap.size, 7, none⟩) (by simp)).trans (by simp [go_sem])
              have c8 : w3.cell? ⟨w.heap.size, 8, none⟩ = some (.int .i64 0) := (hbZ.cell (p := ⟨w.heap.size, 8, none⟩) (by simp)).trans (by simp [go_sem])
              have f8 : w3.frozen? ⟨w.heap.size, 8, none⟩ = false := (hbZ.frozen (p := ⟨w.heap.size, 8, none⟩) (by simp)).trans (by simp [go_sem])
              have c9 : w3.cell? ⟨w.heap.size, 9, none⟩ = some (.int .i64 0) := (hbZ.cell (p := ⟨w.heap.size, 9, none⟩) (by simp)).trans (by simp [go_sem])
              have f9 : w3.frozen? ⟨w.heap.size, 9, none⟩ = false := (hbZ.frozen (p := ⟨w.heap.size, 9, none⟩) (by simp)).trans (by simp [go_sem])
              go_wp2
              refine bodyPost_ret (v := .tuple #[.agg #[.int .i64 0, .int .i64 0, .int .i64 0, .int .i64 0, .int .i64 0, .int .i64 0, .int .i64 0, .bool false, .int .i64 0, .int .i64 0], .int .i64 ((ix : Int) + 1)]) (by simp (maxDischargeDepth := 9) [results, Tryd.results10, go_sem, *]) rfl ?_
              exact jp_bad (by omega) (unhide HL) (unhide HG) (fun n' hn => by obtain ⟨y, e, hy1⟩ := hn.words (unhide HX) (unhide HW1); obtain rfl : y1 = y := (List.cons.inj (List.cons.inj e).2).1; obtain ⟨_, _, _, hbd, h7'⟩ := hn; have h9 := num_itoa hbd.1 hbd.2; have h8 := unhide HN; rw [hy1, h9] at h8; cases h8) (by repeat (first | (with_reducible refine bel_set ?_ (by first | (simp; done) | (simp; omega)) _) | (with_reducible exact bel_trans (bel_one _ _) hbZ)))
            | true =>
              by_cases h7 : ix = 7
              · subst h7
                cases hB : inB n 0 1
                · have hbZ : Below (w.alloc (.cells #[.int .i64 0, .int .i64 0, .int .i64 0, .int .i64 0, .int .i64 0, .int .i64 0, .int .i64 0, .bool false, .int .i64 0, .int .i64 0] 24)).heap.size (w.alloc (.cells #[.int .i64 0, .int .i64 0, .int .i64 0, .int .i64 0, .int .i64 0, .int .i64 0, .int .i64 0, .bool false, .int .i64 0, .int .i64 0] 24)) w3 := hb3
                  have c0 : w3.cell? ⟨w.heap.size, 0, none⟩ = some (.int .i64 0) := (hbZ.cell (p := ⟨w.heap.size, 0, none⟩) (by simp)).trans (by simp [go_sem])
                  have f0 : w3.frozen? ⟨w.heap.size, 0, none⟩ = false := (hbZ.frozen (p := ⟨w.heap.size, 0, none⟩) (by simp)).trans (by simp [go_sem])
                  have c1 : w3.cell? ⟨w.heap.size, 1, none⟩ = some (.int .i64 0) := (hbZ.cell (p := ⟨w.heap.size, 1, none⟩) (by simp)).trans (by simp [go_sem])
                  have f1 : w3.frozen? ⟨w.heap.size, 1, none⟩ = false := (hbZ.frozen (p := ⟨w.heap.size, 1, none⟩) (by simp)).trans (by simp [go_sem])
                  have c2 : w3.cell? ⟨w.heap.size, 2, none⟩ = some (.int .i64 0) := (hbZ.cell (p := ⟨w.heap.size, 2, none⟩) (by simp)).trans (by simp [go_sem])
                  have f2 : w3.frozen? ⟨w.heap.size, 2, none⟩ = false := (hbZ.frozen (p := ⟨w.heap.size, 2, none⟩) (by simp)).trans (by simp [go_sem])
                  have c3 : w3.cell? ⟨w.heap.size, 3, none⟩ = some (.int .i64 0) := (hbZ.cell (p := ⟨w.heap.size, 3, none⟩) (by simp)).trans (by simp [go_sem])
                  have f3 : w3.frozen? ⟨w.heap.size, 3, none⟩ = false := (hbZ.frozen (p := ⟨w.heap.size, 3, none⟩) (by simp)).trans (by simp [go_sem])
                  have c4 : w3.cell? ⟨w.heap.size, 4, none⟩ = some (.int .i64 0) := (hbZ.cell (p := ⟨w.heap.size, 4, none⟩) (by simp)).trans (by simp [go_sem])
                  have f4 : w3.frozen? ⟨w.heap.size, 4, none⟩ = false := (hbZ.frozen (p := ⟨w.heap.size, 4, none⟩) (by simp)).trans (by simp [go_sem])
                  have c5 : w3.cell? ⟨w.heap.size, 5, none⟩ = some (.int .i64 0) := (hbZ.cell (p := ⟨w.heap.size, 5, none⟩) (by simp)).trans (by simp [go_sem])
                  have f5 : w3.frozen? ⟨w.heap.size, 5, none⟩ = false := (hbZ.frozen (p := ⟨w.heap.size, 5, none⟩) (by simp)).trans (by simp [go_sem])
                  have c6 : w3.cell? ⟨w.heap.size, 6, none⟩ = some (.int .i64 0) := (hbZ.cell (p := ⟨w.heap.size, 6, none⟩) (by simp)).trans (by simp [go_sem])
                  have f6 : w3.frozen? ⟨w.heap.size, 6, none⟩ = false := (hbZ.frozen (p := ⟨w.heap.size, 6, none⟩) (by simp)).trans (by simp [go_sem])
                  have c7 : w3.cell? ⟨w.heap.size, 7, none⟩ = some (.bool false) := (hbZ.cell (p := ⟨w.heap.size, 7, none⟩) (by simp)).trans (by simp [go_sem])
                  have f7 : w3.frozen? ⟨w.heap.size, 7, none⟩ = false := (hbZ.frozen (p := ⟨w.heap.size, 7, none⟩) (by simp)).trans (by simp [go_sem])
                  have c8 : w3.cell? ⟨w.heap.size, 8, none⟩ = some (.int .i64 0) := (hbZ.cell (p := ⟨w.heap.size, 8, none⟩) (by simp)).trans (by simp [go_sem])
                  have f8 : w3.frozen? ⟨w.heap.size, 8, none⟩ = false := (hbZ.frozen (p := ⟨w.heap.size, 8, none⟩) (by simp)).trans (by simp [go_sem])
                  have c9 : w3.cell? ⟨w.heap.size, 9, none⟩ = some (.int .i64 0) := (hbZ.cell (p := ⟨w.heap.size, 9, none⟩) (by simp)).trans (by simp [go_sem])
                  have f9 : w3.frozen? ⟨w.heap.size, 9, none⟩ = false := (hbZ.frozen (p := ⟨w.heap.size, 9, none⟩) (by simp)).trans (by simp [go_sem])
                  go_wp2_with (first | (go_at_call 32; refine (l1In_any _ _ _ _).mono ?_; rintro e8 w8 ⟨rfl, hw8⟩; obtain rfl := hw8.symm; clear hw8))
                  refine bodyPost_ret (v := .tuple #[.agg #[.int .i64 0, .int .i64 0, .int .i64 0, .int .i64 0, .int .i64 0, .int .i64 0, .int .i64 0, .bool false, .int .i64 0, .int .i64 0], .int .i64 8]) (by simp (maxDischargeDepth := 9) [results, Tryd.results10, go_sem, *]) rfl ?_
                  exact jp_bad (i := 7) rfl (unhide HL) (unhide HG) (fun n' hn => by obtain ⟨y, e, hy1⟩ := hn.words (unhide HX) (unhide HW1); obtain rfl : y1 = y := (List.cons.inj (List.cons.inj e).2).1; obtain ⟨_, _, _, hbd, h7'⟩ := hn; have h9 := num_itoa hbd.1 hbd.2; have h8 := unhide HN; rw [hy1, h9] at h8; have h6 := congrArg Prod.fst h8; have h5 := h7' rfl; have h4 : inB n 0 1 = true := inB_iff.2 (by have : n = n' := h6.symm; omega); rw [hB] at h4; cases h4) (by repeat (first | (with_reducible refine bel_set ?_ (by first | (simp; done) | (simp; omega)) _) | (with_reducible exact bel_trans (bel_one _ _) hbZ)))
                · go_wp2_with (first | (go_at_call 32; refine (l1In_any _ _ _ _).mono ?_; rintro e8 w8 ⟨rfl, hw8⟩; obtain rfl := hw8.symm; clear hw8))
                  go_roundw
                  case rel => exact ⟨7 + 1, ns ++ [n], by omega, by go_num, HO3, by simp; omega, by omega, hide ((unhide HG).snoc (unhide HL) (LnR.mk (unhide HX) rfl (unhide HW1) (unhide HW2) (unhide HN) (fun _ => inB_iff.1 hB))), hb3⟩
                  case measure => simp [intOf]; omega
              · have hq7 : ((ix : Int) == 7) = false := by simp; omega
                have hp7 : ((ix : Int) != 7) = true := by simp; omega
                go_wp2
                go_roundw
                case rel => exact ⟨ix + 1, ns ++ [n], by omega, by go_num, HO3, by simp; omega, by omega, hide ((unhide HG).snoc (unhide HL) (LnR.mk (unhide HX) rfl (unhide HW1) (unhide HW2) (unhide HN) (fun h9 => absurd h9 h7))), hb3⟩
                case measure => simp [intOf]; omega
          · have ty := toL_n hy
            go_wp2_with fail
            refine wp_region_held_drew (S := (fun W => (W.cell? ⟨gw, ow, none⟩ = some (.string y0) ∧ gw < W.heap.size))) (by kernel_rfl) ?_ (fun hHeld => ?_)
            · (try dsimp only); exact ⟨cw0, hgw⟩
            refine wpAnyH_take (i := 0) (v := ?_) (by simp only [List.getElem?_toArray, List.getElem?_cons_zero, List.getElem?_cons_succ]; rfl) (by kernel_rfl) (by kernel_rfl) (by kernel_rfl) (by intro _ _ _ h; exact h) (Or.inl ⟨by rfl, ?_⟩) (by assumption) ?_
            rotate_left
            · (intro w9 hSw; (try dsimp only at hSw); go_simp <;> with_reducible rfl)
            try simp only [Act.put, List.setIfInBounds_toArray, List.set_cons_zero, List.set_cons_succ]
            refine wpAnyH_ready (rs := [1]) (by kernel_rfl) (by simp) ?_
            refine AllReadyH.cons (by simp only [List.getElem?_toArray, List.getElem?_cons_zero, List.getElem?_cons_succ]; rfl) (fun K hK => ?_) AllReadyH.nil
            go_simp
            (go_at_call 30; refine (names_any (show jNames[0]? = some _ from rfl) _).mono ?_; rintro e9 wn ⟨gn, rfl, hnwn, hzwn, hbwn⟩; obtain ⟨hcwn, hfwn, hswn⟩ := bcell hbwn)
            (try go_wp2_with fail)
            refine hK.out _ _ ?_ (fun hHeld2 => ?_)
            · (try dsimp only); exact hd1 ⟨cw0, hgw⟩ (by repeat (first | (with_reducible exact Below.refl _ _) | (with_reducible assumption) | (with_reducible refine bel_set ?_ (by first | (simp; done) | (simp; omega)) _) | (with_reducible refine bel_alloc ?_ _) | (with_reducible refine bel_drew ?_) | (with_reducible refine bel_drewN ?_ _) | (with_reducible refine bel_trans ?_ (by with_reducible assumption))))
            clear hK K hHeld
            have hHeld := hHeld2
            clear hHeld2
            try simp only [Act.put, List.setIfInBounds_toArray, List.set_cons_zero, List.set_cons_succ]
            refine wpAnyH_take (i := 2) (v := ?_) (by simp only [List.getElem?_toArray, List.getElem?_cons_zero, List.getElem?_cons_succ]; rfl) (by kernel_rfl) (by kernel_rfl) (by kernel_rfl) (by intro _ _ _ h; exact h) (Or.inl ⟨by rfl, ?_⟩) (by assumption) ?_
            rotate_left
            · (intro w9 hSw; (try dsimp only at hSw); go_simp <;> with_reducible rfl)
            try simp only [Act.put, List.setIfInBounds_toArray, List.set_cons_zero, List.set_cons_succ]
            refine wpAnyH_take (i := 3) (v := ?_) (by simp only [List.getElem?_toArray, List.getElem?_cons_zero, List.getElem?_cons_succ]; rfl) (by kernel_rfl) (by kernel_rfl) (by kernel_rfl) (by intro _ _ _ h; exact h) (Or.inl ⟨by rfl, ?_⟩) (by assumption) ?_
            rotate_left
            · (intro w9 hSw; (try dsimp only at hSw); go_simp <;> with_reducible rfl)
            try simp only [Act.put, List.setIfInBounds_toArray, List.set_cons_zero, List.set_cons_succ]
            refine wpAnyH_take (i := 4) (v := ?_) (by simp only [List.getElem?_toArray, List.getElem?_cons_zero, List.getElem?_cons_succ]; rfl) (by kernel_rfl) (by kernel_rfl) (by kernel_rfl) (by intro _ _ _ h; exact h) (Or.inl ⟨by rfl, ?_⟩) (by assumption) ?_
            rotate_left
            · (intro w9 hSw; (try dsimp only at hSw); go_simp <;> with_reducible rfl)
            try simp only [Act.put, List.setIfInBounds_toArray, List.set_cons_zero, List.set_cons_succ]
            refine wpAnyH_take (i := 5) (v := ?_) (by simp only [List.getElem?_toArray, List.getElem?_cons_zero, List.getElem?_cons_succ]; rfl) (by kernel_rfl) (by kernel_rfl) (by kernel_rfl) (by intro _ _ _ h; exact h) (Or.inl ⟨by rfl, ?_⟩) (by assumption) ?_
            rotate_left
            · (intro w9 hSw; (try dsimp only at hSw); go_simp <;> with_reducible rfl)
            try simp only [Act.put, List.setIfInBounds_toArray, List.set_cons_zero, List.set_cons_succ]
            refine wpAnyH_take (i := 6) (v := ?_) (by simp only [List.getElem?_toArray, List.getElem?_cons_zero, List.getElem?_cons_succ]; rfl) (by kernel_rfl) (by kernel_rfl) (by kernel_rfl) (by intro _ _ _ h; exact h) (Or.inl ⟨by rfl, ?_⟩) (by assumption) ?_
            rotate_left
            · (intro w9 hSw; (try dsimp only at hSw); go_simp <;> with_reducible rfl)
            try simp only [Act.put, List.setIfInBounds_toArray, List.set_cons_zero, List.set_cons_succ]
            refine wpAnyH_take (i := 7) (v := ?_) (by simp only [List.getElem?_toArray, List.getElem?_cons_zero, List.getElem?_cons_succ]; rfl) (by kernel_rfl) (by kernel_rfl) (by kernel_rfl) (by intro _ _ _ h; exact h) (Or.inl ⟨by rfl, ?_⟩) (by assumption) ?_
            rotate_left
            · (intro w9 hSw; (try dsimp only at hSw); go_simp <;> with_reducible rfl)
            try simp only [Act.put, List.setIfInBounds_toArray, List.set_cons_zero, List.set_cons_succ]
            refine wpAnyH_take (i := 8) (v := ?_) (by simp only [List.getElem?_toArray, List.getElem?_cons_zero, List.getElem?_cons_succ]; rfl) (by kernel_rfl) (by kernel_rfl) (by kernel_rfl) (by intro _ _ _ h; exact h) (Or.inl ⟨by rfl, ?_⟩) (by assumption) ?_
            rotate_left
            · (intro w9 hSw; (try dsimp only at hSw); go_simp <;> with_reducible rfl)
            try simp only [Act.put, List.setIfInBounds_toArray, List.set_cons_zero, List.set_cons_succ]
            refine wpAnyH_take (i := 9) (v := ?_) (by simp only [List.getElem?_toArray, List.getElem?_cons_zero, List.getElem?_cons_succ]; rfl) (by kernel_rfl) (by kernel_rfl) (by kernel_rfl) (by intro _ _ _ h; exact h) (Or.inl ⟨by rfl, ?_⟩) (by assumption) ?_
            rotate_left
            · (intro w9 hSw; (try dsimp only at hSw); go_simp <;> with_reducible rfl)
            try simp only [Act.put, List.setIfInBounds_toArray, List.set_cons_zero, List.set_cons_succ]
            refine wpAnyH_take (i := 10) (v := ?_) (by simp only [List.getElem?_toArray, List.getElem?_cons_zero, List.getElem?_cons_succ]; rfl) (by kernel_rfl) (by kernel_rfl) (by kernel_rfl) (by intro _ _ _ h; exact h) (Or.inl ⟨by rfl, ?_⟩) (by assumption) ?_
            rotate_left
            · (intro w9 hSw; (try dsimp only at hSw); go_simp <;> with_reducible rfl)
            try simp only [Act.put, List.setIfInBounds_toArray, List.set_cons_zero, List.set_cons_succ]
            refine wpAnyH_take (i := 11) (v := ?_) (by simp only [List.getElem?_toArray, List.getElem?_cons_zero, List.getElem?_cons_succ]; rfl) (by kernel_rfl) (by kernel_rfl) (by kernel_rfl) (by intro _ _ _ h; exact h) (Or.inl ⟨by rfl, ?_⟩) (by assumption) ?_
            rotate_left
            · (intro w9 hSw; (try dsimp only at hSw); go_simp <;> with_reducible rfl)
            try simp only [Act.put, List.setIfInBounds_toArray, List.set_cons_zero, List.set_cons_succ]
            refine wpAnyH_take (i := 12) (v := ?_) (by simp only [List.getElem?_toArray, List.getElem?_cons_zero, List.getElem?_cons_succ]; rfl) (by kernel_rfl) (by kernel_rfl) (by kernel_rfl) (by intro _ _ _ h; exact h) (Or.inl ⟨by rfl, ?_⟩) (by assumption) ?_
            rotate_left
            · (intro w9 hSw; (try dsimp only at hSw); go_simp <;> with_reducible rfl)
            try simp only [Act.put, List.setIfInBounds_toArray, List.set_cons_zero, List.set_cons_succ]
            refine wpAnyH_take (i := 14) (v := ?_) (by simp only [List.getElem?_toArray, List.getElem?_cons_zero, List.getElem?_cons_succ]; rfl) (by kernel_rfl) (by kernel_rfl) (by kernel_rfl) (by intro _ _ _ h; exact h) (Or.inl ⟨by rfl, ?_⟩) (by assumption) ?_
            rotate_left
            · (intro w9 hSw; (try dsimp only at hSw); go_simp <;> with_reducible rfl)
            try simp only [Act.put, List.setIfInBounds_toArray, List.set_cons_zero, List.set_cons_succ]
            refine wpAnyH_ready (rs := [13]) (by kernel_rfl) (by simp) ?_
            refine AllReadyH.cons (by simp only [List.getElem?_toArray, List.getElem?_cons_zero, List.getElem?_cons_succ]; rfl) (fun K hK => ?_) AllReadyH.nil
            go_simp
            (go_at_call 30; refine (names_any (unhide HX) _).mono ?_; rintro e9 wm ⟨gm, rfl, hnwm, hzwm, hbwm⟩; obtain ⟨hcwm, hfwm, hswm⟩ := bcell hbwm)
            (try go_wp2_with fail)
            refine hK.out _ _ ?_ (fun hHeld2 => ?_)
            · (try dsimp only); exact hd1 ⟨cw0, hgw⟩ (by repeat (first | (with_reducible exact Below.refl _ _) | (with_reducible assumption) | (with_reducible refine bel_set ?_ (by first | (simp; done) | (simp; omega)) _) | (with_reducible refine bel_alloc ?_ _) | (with_reducible refine bel_drew ?_) | (with_reducible refine bel_drewN ?_ _) | (with_reducible refine bel_trans ?_ (by with_reducible assumption))))
            clear hK K hHeld
            have hHeld := hHeld2
            clear hHeld2
            try simp only [Act.put, List.setIfInBounds_toArray, List.set_cons_zero, List.set_cons_succ]
            refine wpAnyH_take (i := 15) (v := ?_) (by simp only [List.getElem?_toArray, List.getElem?_cons_zero, List.getElem?_cons_succ]; rfl) (by kernel_rfl) (by kernel_rfl) (by kernel_rfl) (by intro _ _ _ h; exact h) (Or.inl ⟨by rfl, ?_⟩) (by assumption) ?_
            rotate_left
            · (intro w9 hSw; (try dsimp only at hSw); go_simp <;> with_reducible rfl)
            try simp only [Act.put, List.setIfInBounds_toArray, List.set_cons_zero, List.set_cons_succ]
            refine wpAnyH_ready (rs := [16]) (by kernel_rfl) (by simp) ?_
            refine AllReadyH.cons (by simp only [List.getElem?_toArray, List.getElem?_cons_zero, List.getElem?_cons_succ]; rfl) (fun K hK => ?_) AllReadyH.nil
            go_simp
            refine hK.out _ _ ?_ (fun hHeld2 => ?_)
            · (try dsimp only); exact hd1 ⟨cw0, hgw⟩ (by repeat (first | (with_reducible exact Below.refl _ _) | (with_reducible assumption) | (with_reducible refine bel_set ?_ (by first | (simp; done) | (simp; omega)) _) | (with_reducible refine bel_alloc ?_ _) | (with_reducible refine bel_drew ?_) | (with_reducible refine bel_drewN ?_ _) | (with_reducible refine bel_trans ?_ (by with_reducible assumption))))
            clear hK K hHeld
            have hHeld := hHeld2
            clear hHeld2
            try simp only [Act.put, List.setIfInBounds_toArray, List.set_cons_zero, List.set_cons_succ]
            refine wpAnyH_take (i := 17) (v := ?_) (by simp only [List.getElem?_toArray, List.getElem?_cons_zero, List.getElem?_cons_succ]; rfl) (by kernel_rfl) (by kernel_rfl) (by kernel_rfl) (by intro _ _ _ h; exact h) (Or.inl ⟨by rfl, ?_⟩) (by assumption) ?_
            rotate_left
            · (intro w9 hSw; (try dsimp only at hSw); go_simp <;> with_reducible rfl)
            try simp only [Act.put, List.setIfInBounds_toArray, List.set_cons_zero, List.set_cons_succ]
            refine wpAnyH_take (i := 18) (v := ?_) (by simp only [List.getElem?_toArray, List.getElem?_cons_zero, List.getElem?_cons_succ]; rfl) (by kernel_rfl) (by kernel_rfl) (by kernel_rfl) (by intro _ _ _ h; exact h) (Or.inl ⟨by rfl, ?_⟩) (by assumption) ?_
            rotate_left
            · (intro w9 hSw; (try dsimp only at hSw); go_simp <;> with_reducible rfl)
            try simp only [Act.put, List.setIfInBounds_toArray, List.set_cons_zero, List.set_cons_succ]
            refine wpAnyH_take (i := 19) (v := ?_) (by simp only [List.getElem?_toArray, List.getElem?_cons_zero, List.getElem?_cons_succ]; rfl) (by kernel_rfl) (by kernel_rfl) (by kernel_rfl) (by intro _ _ _ h; exact h) (Or.inl ⟨by rfl, ?_⟩) (by assumption) ?_
            rotate_left
            · (intro w9 hSw; (try dsimp only at hSw); go_simp <;> with_reducible rfl)
            try simp only [Act.put, List.setIfInBounds_toArray, List.set_cons_zero, List.set_cons_succ]
            refine wpAnyH_done (by kernel_rfl) ?_ _
            have hbZ : Below (w.alloc (.cells #[.int .i64 0, .int .i64 0, .int .i64 0, .int .i64 0, .int .i64 0, .int .i64 0, .int .i64 0, .bool false, .int .i64 0, .int .i64 0] 24)).heap.size (w.alloc (.cells #[.int .i64 0, .int .i64 0, .int .i64 0, .int .i64 0, .int .i64 0, .int .i64 0, .int .i64 0, .bool false, .int .i64 0, .int .i64 0] 24)) wm := (by repeat (first | (with_reducible exact Below.refl _ _) | (with_reducible assumption) | (with_reducible refine bel_set ?_ (by first | (simp; done) | (simp; omega)) _) | (with_reducible refine bel_alloc ?_ _) | (with_reducible refine bel_drew ?_) | (with_reducible refine bel_drewN ?_ _) | (with_reducible refine bel_trans ?_ (by with_reducible assumption))))
            have c0 : wm.cell? ⟨w.heap.size, 0, none⟩ = some (.int .i64 0) := (hbZ.cell (p := ⟨w.heap.size, 0, none⟩) (by simp)).trans (by simp [go_sem])
            have f0 : wm.frozen? ⟨w.heap.size, 0, none⟩ = false := (hbZ.frozen (p := ⟨w.heap.size, 0, none⟩) (by simp)).trans (by simp [go_sem])
            have c1 : wm.cell? ⟨w.heap.size, 1, none⟩ = some (.int .i64 0) := (hbZ.cell (p := ⟨w.heap.size, 1, none⟩) (by simp)).trans (by simp [go_sem])
            have f1 : wm.frozen? ⟨w.heap.size, 1, none⟩ = false := (hbZ.frozen (p := ⟨w.heap.size, 1, none⟩) (by simp)).trans (by simp [go_sem])
            have c2 : wm.cell? ⟨w.heap.size, 2, none⟩ = some (.int .i64 0) := (hbZ.cell (p := ⟨w.heap.size, 2, none⟩) (by simp)).trans (by simp [go_sem])
            have f2 : wm.frozen? ⟨w.heap.size, 2, none⟩ = false := (hbZ.frozen (p := ⟨w.heap.size, 2, none⟩) (by simp)).trans (by simp [go_sem])
            have c3 : wm.cell? ⟨w.heap.size, 3, none⟩ = some (.int .i64 0) := (hbZ.cell (p := ⟨w.heap.size, 3, none⟩) (by simp)).trans (by simp [go_sem])
            have f3 : wm.frozen? ⟨w.heap.size, 3, none⟩ = false := (hbZ.frozen (p := ⟨w.heap.size, 3, none⟩) (by simp)).trans (by simp [go_sem])
            have c4 : wm.cell? ⟨w.heap.size, 4, none⟩ = some (.int .i64 0) := (hbZ.cell (p := ⟨w.heap.size, 4, none⟩) (by simp)).trans (by simp [go_sem])
            have f4 : wm.frozen? ⟨w.heap.size, 4, none⟩ = false := (hbZ.frozen (p := ⟨w.heap.size, 4, none⟩) (by simp)).trans (by simp [go_sem])
            have c5 : wm.cell? ⟨w.heap.size, 5, none⟩ = some (.int .i64 0) := (hbZ.cell (p := ⟨w.heap.size, 5, none⟩) (by simp)).trans (by simp [go_sem])
            have f5 : wm.frozen? ⟨w.heap.size, 5, none⟩ = false := (hbZ.frozen (p := ⟨w.heap.size, 5, none⟩) (by simp)).trans (by simp [go_sem])
            have c6 : wm.cell? ⟨w.heap.size, 6, none⟩ = some (.int .i64 0) := (hbZ.cell (p := ⟨w.heap.size, 6, none⟩) (by simp)).trans (by simp [go_sem])
            have f6 : wm.frozen? ⟨w.heap.size, 6, none⟩ = false := (hbZ.frozen (p := ⟨w.heap.size, 6, none⟩) (by simp)).trans (by simp [go_sem])
            have c7 : wm.cell? ⟨w.heap.size, 7, none⟩ = some (.bool false) := (hbZ.cell (p := ⟨w.heap.size, 7, none⟩) (by simp)).trans (by simp [go_sem])
            have f7 : wm.frozen? ⟨w.heap.size, 7, none⟩ = false := (hbZ.frozen (p := ⟨w.heap.size, 7, none⟩) (by simp)).trans (by simp [go_sem])
            have c8 : wm.cell? ⟨w.heap.size, 8, none⟩ = some (.int .i64 0) := (hbZ.cell (p := ⟨w.heap.size, 8, none⟩) (by simp)).trans (by simp [go_sem])
            have f8 : wm.frozen? ⟨w.heap.size, 8, none⟩ = false := (hbZ.frozen (p := ⟨w.heap.size, 8, none⟩) (by simp)).trans (by simp [go_sem])
            have c9 : wm.cell? ⟨w.heap.size, 9, none⟩ = some (.int .i64 0) := (hbZ.cell (p := ⟨w.heap.size, 9, none⟩) (by simp)).trans (by simp [go_sem])
            have f9 : wm.frozen? ⟨w.heap.size, 9, none⟩ = false := (hbZ.frozen (p := ⟨w.heap.size, 9, none⟩) (by simp)).trans (by simp [go_sem])
            go_wp2
            refine bodyPost_ret (v := .tuple #[.agg #[.int .i64 0, .int .i64 0, .int .i64 0, .int .i64 0, .int .i64 0, .int .i64 0, .int .i64 0, .bool false, .int .i64 0, .int .i64 0], .int .i64 ((ix : Int) + 1)]) (by simp (maxDischargeDepth := 9) [results, Tryd.results10, go_sem, *]) rfl ?_
            exact jp_bad (by omega) (unhide HL) (unhide HG) (fun n hn => by obtain ⟨y, e, _⟩ := hn.words (unhide HX) (unhide HW1); exact hy (List.cons.inj e).1) (by repeat (first | (with_reducible refine bel_set ?_ (by first | (simp; done) | (simp; omega)) _) | (with_reducible exact bel_trans (bel_one _ _) hbZ)))
        · have hm0 : ((M.length : Int) == 2) = false := by simp; omega
          go_wp2_with fail
          refine wp_region_held_drew (S := (fun _ => True)) (by kernel_rfl) ?_ (fun hHeld => ?_)
          · (try dsimp only); (try trivial)
          refine wpAnyH_take (i := 0) (v := ?_) (by simp only [List.getElem?_toArray, List.getElem?_cons_zero, List.getElem?_cons_succ]; rfl) (by kernel_rfl) (by kernel_rfl) (by kernel_rfl) (by intro _ _ _ h; exact h) (Or.inl ⟨by rfl, ?_⟩) (by assumption) ?_
          rotate_left
          · (intro w9 hSw; (try dsimp only at hSw); go_simp <;> with_reducible rfl)
          try simp only [Act.put, List.setIfInBounds_toArray, List.set_cons_zero, List.set_cons_succ]
          refine wpAnyH_ready (rs := [1]) (by kernel_rfl) (by simp) ?_
          refine AllReadyH.cons (by simp only [List.getElem?_toArray, List.getElem?_cons_zero, List.getElem?_cons_succ]; rfl) (fun K hK => ?_) AllReadyH.nil
          go_simp
          (go_at_call 30; refine (names_any (show jNames[0]? = some _ from rfl) _).mono ?_; rintro e9 wn ⟨gn, rfl, hnwn, hzwn, hbwn⟩; obtain ⟨hcwn, hfwn, hswn⟩ := bcell hbwn)
          (try go_wp2_with fail)
          refine hK.out _ _ ?_ (fun hHeld2 => ?_)
          · (try dsimp only); (try trivial)
          clear hK K hHeld
          have hHeld := hHeld2
          clear hHeld2
          try simp only [Act.put, List.setIfInBounds_toArray, List.set_cons_zero, List.set_cons_succ]
          refine wpAnyH_take (i := 2) (v := ?_) (by simp only [List.getElem?_toArray, List.getElem?_cons_zero, List.getElem?_cons_succ]; rfl) (by kernel_rfl) (by kernel_rfl) (by kernel_rfl) (by intro _ _ _ h; exact h) (Or.inl ⟨by rfl, ?_⟩) (by assumption) ?_
          rotate_left
          · (intro w9 hSw; (try dsimp only at hSw); go_simp <;> with_reducible rfl)
          try simp only [Act.put, List.setIfInBounds_toArray, List.set_cons_zero, List.set_cons_succ]
          refine wpAnyH_take (i := 3) (v := ?_) (by simp only [List.getElem?_toArray, List.getElem?_cons_zero, List.getElem?_cons_succ]; rfl) (by kernel_rfl) (by kernel_rfl) (by kernel_rfl) (by intro _ _ _ h; exact h) (Or.inl ⟨by rfl, ?_⟩) (by assumption) ?_
          rotate_left
          · (intro w9 hSw; (try dsimp only at hSw); go_simp <;> with_reducible rfl)
          try simp only [Act.put, List.setIfInBounds_toArray, List.set_cons_zero, List.set_cons_succ]
          refine wpAnyH_take (i := 4) (v := ?_) (by simp only [List.getElem?_toArray, List.getElem?_cons_zero, List.getElem?_cons_succ]; rfl) (by kernel_rfl) (by kernel_rfl) (by kernel_rfl) (by intro _ _ _ h; exact h) (Or.inl ⟨by rfl, ?_⟩) (by assumption) ?_
          rotate_left
          · (intro w9 hSw; (try dsimp only at hSw); go_simp <;> with_reducible rfl)
          try simp only [Act.put, List.setIfInBounds_toArray, List.set_cons_zero, List.set_cons_succ]
          refine wpAnyH_take (i := 5) (v := ?_) (by simp only [List.getElem?_toArray, List.getElem?_cons_zero, List.getElem?_cons_succ]; rfl) (by kernel_rfl) (by kernel_rfl) (by kernel_rfl) (by intro _ _ _ h; exact h) (Or.inl ⟨by rfl, ?_⟩) (by assumption) ?_
          rotate_left
          · (intro w9 hSw; (try dsimp only at hSw); go_simp <;> with_reducible rfl)
          try simp only [Act.put, List.setIfInBounds_toArray, List.set_cons_zero, List.set_cons_succ]
          refine wpAnyH_take (i := 6) (v := ?_) (by simp only [List.getElem?_toArray, List.getElem?_cons_zero, List.getElem?_cons_succ]; rfl) (by kernel_rfl) (by kernel_rfl) (by kernel_rfl) (by intro _ _ _ h; exact h) (Or.inl ⟨by rfl, ?_⟩) (by assumption) ?_
          rotate_left
          · (intro w9 hSw; (try dsimp only at hSw); go_simp <;> with_reducible rfl)
          try simp only [Act.put, List.setIfInBounds_toArray, List.set_cons_zero, List.set_cons_succ]
          refine wpAnyH_take (i := 7) (v := ?_) (by simp only [List.getElem?_toArray, List.getElem?_cons_zero, List.getElem?_cons_succ]; rfl) (by kernel_rfl) (by kernel_rfl) (by kernel_rfl) (by intro _ _ _ h; exact h) (Or.inl ⟨by rfl, ?_⟩) (by assumption) ?_
          rotate_left
          · (intro w9 hSw; (try dsimp only at hSw); go_simp <;> with_reducible rfl)
          try simp only [Act.put, List.setIfInBounds_toArray, List.set_cons_zero, List.set_cons_succ]
          refine wpAnyH_take (i := 8) (v := ?_) (by simp only [List.getElem?_toArray, List.getElem?_cons_zero, List.getElem?_cons_succ]; rfl) (by kernel_rfl) (by kernel_rfl) (by kernel_rfl) (by intro _ _ _ h; exact h) (Or.inl ⟨by rfl, ?_⟩) (by assumption) ?_
          rotate_left
          · (intro w9 hSw; (try dsimp only at hSw); go_simp <;> with_reducible rfl)
          try simp only [Act.put, List.setIfInBounds_toArray, List.set_cons_zero, List.set_cons_succ]
          refine wpAnyH_take (i := 9) (v := ?_) (by simp only [List.getElem?_toArray, List.getElem?_cons_zero, List.getElem?_cons_succ]; rfl) (by kernel_rfl) (by kernel_rfl) (by kernel_rfl) (by intro _ _ _ h; exact h) (Or.inl ⟨by rfl, ?_⟩) (by assumption) ?_
          rotate_left
          · (intro w9 hSw; (try dsimp only at hSw); go_simp <;> with_reducible rfl)
          try simp only [Act.put, List.setIfInBounds_toArray, List.set_cons_zero, List.set_cons_succ]
          refine wpAnyH_take (i := 10) (v := undef) (by simp only [List.getElem?_toArray, List.getElem?_cons_zero, List.getElem?_cons_succ]; rfl) (by kernel_rfl) (by kernel_rfl) (by kernel_rfl) (by intro _ _ _ h; exact h) (Or.inr ⟨by rfl, rfl⟩) (by assumption) ?_
          try simp only [Act.put, List.setIfInBounds_toArray, List.set_cons_zero, List.set_cons_succ]
          refine wpAnyH_take (i := 11) (v := undef) (by simp only [List.getElem?_toArray, List.getElem?_cons_zero, List.getElem?_cons_succ]; rfl) (by kernel_rfl) (by kernel_rfl) (by kernel_rfl) (by intro _ _ _ h; exact h) (Or.inr ⟨by rfl, rfl⟩) (by assumption) ?_
          try simp only [Act.put, List.setIfInBounds_toArray, List.set_cons_zero, List.set_cons_succ]
          refine wpAnyH_take (i := 12) (v := undef) (by simp only [List.getElem?_toArray, List.getElem?_cons_zero, List.getElem?_cons_succ]; rfl) (by kernel_rfl) (by kernel_rfl) (by kernel_rfl) (by intro _ _ _ h; exact h) (Or.inr ⟨by rfl, rfl⟩) (by assumption) ?_
          try simp only [Act.put, List.setIfInBounds_toArray, List.set_cons_zero, List.set_cons_succ]
          refine wpAnyH_take (i := 13) (v := undef) (by simp only [List.getElem?_toArray, List.getElem?_cons_zero, List.getElem?_cons_succ]; rfl) (by kernel_rfl) (by kernel_rfl) (by kernel_rfl) (by intro _ _ _ h; exact h) (Or.inr ⟨by rfl, rfl⟩) (by assumption) ?_
          try simp only [Act.put, List.setIfInBounds_toArray, List.set_cons_zero, List.set_cons_succ]
          refine wpAnyH_take (i := 14) (v := undef) (by simp only [List.getElem?_toArray, List.getElem?_cons_zero, List.getElem?_cons_succ]; rfl) (by kernel_rfl) (by kernel_rfl) (by kernel_rfl) (by intro _ _ _ h; exact h) (Or.inr ⟨by rfl, rfl⟩) (by assumption) ?_
          try simp only [Act.put, List.setIfInBounds_toArray, List.set_cons_zero, List.set_cons_succ]
          refine wpAnyH_take (i := 15) (v := undef) (by simp only [List.getElem?_toArray, List.getElem?_cons_zero, List.getElem?_cons_succ]; rfl) (by kernel_rfl) (by kernel_rfl) (by kernel_rfl) (by intro _ _ _ h; exact h) (Or.inr ⟨by rfl, rfl⟩) (by assumption) ?_
          try simp only [Act.put, List.setIfInBounds_toArray, List.set_cons_zero, List.set_cons_succ]
          refine wpAnyH_take (i := 16) (v := undef) (by simp only [List.getElem?_toArray, List.getElem?_cons_zero, List.getElem?_cons_succ]; rfl) (by kernel_rfl) (by kernel_rfl) (by kernel_rfl) (by intro _ _ _ h; exact h) (Or.inr ⟨by rfl, rfl⟩) (by assumption) ?_
          try simp only [Act.put, List.setIfInBounds_toArray, List.set_cons_zero, List.set_cons_succ]
          refine wpAnyH_take (i := 17) (v := undef) (by simp only [List.getElem?_toArray, List.getElem?_cons_zero, List.getElem?_cons_succ]; rfl) (by kernel_rfl) (by kernel_rfl) (by kernel_rfl) (by intro _ _ _ h; exact h) (Or.inr ⟨by rfl, rfl⟩) (by assumption) ?_
          try simp only [Act.put, List.setIfInBounds_toArray, List.set_cons_zero, List.set_cons_succ]
          refine wpAnyH_take (i := 18) (v := ?_) (by simp only [List.getElem?_toArray, List.getElem?_cons_zero, List.getElem?_cons_succ]; rfl) (by kernel_rfl) (by kernel_rfl) (by kernel_rfl) (by intro _ _ _ h; exact h) (Or.inl ⟨by rfl, ?_⟩) (by assumption) ?_
          rotate_left
          · (intro w9 hSw; (try dsimp only at hSw); go_simp <;> with_reducible rfl)
          try simp only [Act.put, List.setIfInBounds_toArray, List.set_cons_zero, List.set_cons_succ]
          refine wpAnyH_take (i := 19) (v := ?_) (by simp only [List.getElem?_toArray, List.getElem?_cons_zero, List.getElem?_cons_succ]; rfl) (by kernel_rfl) (by kernel_rfl) (by kernel_rfl) (by intro _ _ _ h; exact h) (Or.inl ⟨by rfl, ?_⟩) (by assumption) ?_
          rotate_left
          · (intro w9 hSw; (try dsimp only at hSw); go_simp <;> with_reducible rfl)
          try simp only [Act.put, List.setIfInBounds_toArray, List.set_cons_zero, List.set_cons_succ]
          refine wpAnyH_done (by kernel_rfl) ?_ _
          have hbZ : Below (w.alloc (.cells #[.int .i64 0, .int .i64 0, .int .i64 0, .int .i64 0, .int .i64 0, .int .i64 0, .int .i64 0, .bool false, .int .i64 0, .int .i64 0] 24)).heap.size (w.alloc (.cells #[.int .i64 0, .int .i64 0, .int .i64 0, .int .i64 0, .int .i64 0, .int .i64 0, .int .i64 0, .bool false, .int .i64 0, .int .i64 0] 24)) wn := (by repeat (first | (with_reducible exact Below.refl _ _) | (with_reducible assumption) | (with_reducible refine bel_set ?_ (by first | (simp; done) | (simp; omega)) _) | (with_reducible refine bel_alloc ?_ _) | (with_reducible refine bel_drew ?_) | (with_reducible refine bel_drewN ?_ _) | (with_reducible refine bel_trans ?_ (by with_reducible assumption))))
          have c0 : wn.cell? ⟨w.heap.size, 0, none⟩ = some (.int .i64 0) := (hbZ.cell (p := ⟨w.heap.size, 0, none⟩) (by simp)).trans (by simp [go_sem])
          have f0 : wn.frozen? ⟨w.heap.size, 0, none⟩ = false := (hbZ.frozen (p := ⟨w.heap.size, 0, none⟩) (by simp)).trans (by simp [go_sem])
          have c1 : wn.cell? ⟨w.heap.size, 1, none⟩ = some (.int .i64 0) := (hbZ.cell (p := ⟨w.heap.size, 1, none⟩) (by simp)).trans (by simp [go_sem])
          have f1 : wn.frozen? ⟨w.heap.size, 1, none⟩ = false := (hbZ.frozen (p := ⟨w.heap.size, 1, none⟩) (by simp)).trans (by simp [go_sem])
          have c2 : wn.cell? ⟨w.heap.size, 2, none⟩ = some (.int .i64 0) := (hbZ.cell (p := ⟨w.heap.size, 2, none⟩) (by simp)).trans (by simp [go_sem])
          have f2 : wn.frozen? ⟨w.heap.size, 2, none⟩ = false := (hbZ.frozen (p := ⟨w.heap.size, 2, none⟩) (by simp)).trans (by simp [go_sem])
          have c3 : wn.cell? ⟨w.heap.size, 3, none⟩ = some (.int .i64 0) := (hbZ.cell (p := ⟨w.heap.size, 3, none⟩) (by simp)).trans (by simp [go_sem])
          have f3 : wn.frozen? ⟨w.heap.size, 3, none⟩ = false := (hbZ.frozen (p := ⟨w.heap.size, 3, none⟩) (by simp)).trans (by simp [go_sem])
          have c4 : wn.cell? ⟨w.heap.size, 4, none⟩ = some (.int .i64 0) := (hbZ.cell (p := ⟨w.heap.size, 4, none⟩) (by simp)).trans (by simp [go_sem])
          have f4 : wn.frozen? ⟨w.heap.size, 4, none⟩ = false := (hbZ.frozen (p := ⟨w.heap.size, 4, none⟩) (by simp)).trans (by simp [go_sem])
          have c5 : wn.cell? ⟨w.heap.size, 5, none⟩ = some (.int .i64 0) := (hbZ.cell (p := ⟨w.heap.size, 5, none⟩) (by simp)).trans (by simp [go_sem])
          have f5 : wn.frozen? ⟨w.heap.size, 5, none⟩ = false := (hbZ.frozen (p := ⟨w.heap.size, 5, none⟩) (by simp)).trans (by simp [go_sem])
          have c6 : wn.cell? ⟨w.heap.size, 6, none⟩ = some (.int .i64 0) := (hbZ.cell (p := ⟨w.heap.size, 6, none⟩) (by simp)).trans (by simp [go_sem])
          have f6 : wn.frozen? ⟨w.heap.size, 6, none⟩ = false := (hbZ.frozen (p := ⟨w.heap.size, 6, none⟩) (by simp)).trans (by simp [go_sem])
          have c7 : wn.cell? ⟨w.heap.size, 7, none⟩ = some (.bool false) := (hbZ.cell (p := ⟨w.heap.size, 7, none⟩) (by simp)).trans (by simp [go_sem])
          have f7 : wn.frozen? ⟨w.heap.size, 7, none⟩ = false := (hbZ.frozen (p := ⟨w.heap.size, 7, none⟩) (by simp)).trans (by simp [go_sem])
          have c8 : wn.cell? ⟨w.heap.size, 8, none⟩ = some (.int .i64 0) := (hbZ.cell (p := ⟨w.heap.size, 8, none⟩) (by simp)).trans (by simp [go_sem])
          have f8 : wn.frozen? ⟨w.heap.size, 8, none⟩ = false := (hbZ.frozen (p := ⟨w.heap.size, 8, none⟩) (by simp)).trans (by simp [go_sem])
          have c9 : wn.cell? ⟨w.heap.size, 9, none⟩ = some (.int .i64 0) := (hbZ.cell (p := ⟨w.heap.size, 9, none⟩) (by simp)).trans (by simp [go_sem])
          have f9 : wn.frozen? ⟨w.heap.size, 9, none⟩ = false := (hbZ.frozen (p := ⟨w.heap.size, 9, none⟩) (by simp)).trans (by simp [go_sem])
          go_wp2
          refine bodyPost_ret (v := .tuple #[.agg #[.int .i64 0, .int .i64 0, .int .i64 0, .int .i64 0, .int .i64 0, .int .i64 0, .int .i64 0, .bool false, .int .i64 0, .int .i64 0], .int .i64 ((ix : Int) + 1)]) (by simp (maxDischargeDepth := 9) [results, Tryd.results10, go_sem, *]) rfl ?_
          exact jp_bad (by omega) (unhide HL) (unhide HG) (fun n hn => by obtain ⟨y, e, _⟩ := hn.words (unhide HX) (unhide HW1); rw [e] at hM2; exact hM2 rfl) (by repeat (first | (with_reducible refine bel_set ?_ (by first | (simp; done) | (simp; omega)) _) | (with_reducible exact bel_trans (bel_one _ _) hbZ)))
      · have hm1 : decide ((ix : Int) < 10) = false := by simp; omega
        go_wp2_with fail
        refine wp_region_held_drew (S := (fun _ => True)) (by kernel_rfl) ?_ (fun hHeld => ?_)
        · (try dsimp only); (try trivial)
        refine wpAnyH_take (i := 0) (v := ?_) (by simp only [List.getElem?_toArray, List.getElem?_cons_zero, List.getElem?_cons_succ]; rfl) (by kernel_rfl) (by kernel_rfl) (by kernel_rfl) (by intro _ _ _ h; exact h) (Or.inl ⟨by rfl, ?_⟩) (by assumption) ?_
        rotate_left
        · (intro w9 hSw; (try dsimp only at hSw); go_simp <;> with_reducible rfl)
        try simp only [Act.put, List.setIfInBounds_toArray, List.set_cons_zero, List.set_cons_succ]
        refine wpAnyH_ready (rs := [1]) (by kernel_rfl) (by simp) ?_
        refine AllReadyH.cons (by simp only [List.getElem?_toArray, List.getElem?_cons_zero, List.getElem?_cons_succ]; rfl) (fun K hK => ?_) AllReadyH.nil
        go_simp
        (go_at_call 30; refine (names_any (show jNames[0]? = some _ from rfl) _).mono ?_; rintro e9 wn ⟨gn, rfl, hnwn, hzwn, hbwn⟩; obtain ⟨hcwn, hfwn, hswn⟩ := bcell hbwn)
        (try go_wp2_with fail)
        refine hK.out _ _ ?_ (fun hHeld2 => ?_)
        · (try dsimp only); (try trivial)
        clear hK K hHeld
        have hHeld := hHeld2
        clear hHeld2
        try simp only [Act.put, List.setIfInBounds_toArray, List.set_cons_zero, List.set_cons_succ]
        refine wpAnyH_take (i := 2) (v := ?_) (by simp only [List.getElem?_toArray, List.getElem?_cons_zero, List.getElem?_cons_succ]; rfl) (by kernel_rfl) (by kernel_rfl) (by kernel_rfl) (by intro _ _ _ h; exact h) (Or.inl ⟨by rfl, ?_⟩) (by assumption) ?_
        rotate_left
        · (intro w9 hSw; (try dsimp only at hSw); go_simp <;> with_reducible rfl)
        try simp only [Act.put, List.setIfInBounds_toArray, List.set_cons_zero, List.set_cons_succ]
        refine wpAnyH_take (i := 3) (v := ?_) (by simp only [List.getElem?_toArray, List.getElem?_cons_zero, List.getElem?_cons_succ]; rfl) (by kernel_rfl) (by kernel_rfl) (by kernel_rfl) (by intro _ _ _ h; exact h) (Or.inl ⟨by rfl, ?_⟩) (by assumption) ?_
        rotate_left
        · (intro w9 hSw; (try dsimp only at hSw); go_simp <;> with_reducible rfl)
        try simp only [Act.put, List.setIfInBounds_toArray, List.set_cons_zero, List.set_cons_succ]
        refine wpAnyH_take (i := 4) (v := ?_) (by simp only [List.getElem?_toArray, List.getElem?_cons_zero, List.getElem?_cons_succ]; rfl) (by kernel_rfl) (by kernel_rfl) (by kernel_rfl) (by intro _ _ _ h; exact h) (Or.inl ⟨by rfl, ?_⟩) (by assumption) ?_
        rotate_left
        · (intro w9 hSw; (try dsimp only at hSw); go_simp <;> with_reducible rfl)
        try simp only [Act.put, List.setIfInBounds_toArray, List.set_cons_zero, List.set_cons_succ]
        refine wpAnyH_take (i := 5) (v := undef) (by simp only [List.getElem?_toArray, List.getElem?_cons_zero, List.getElem?_cons_succ]; rfl) (by kernel_rfl) (by kernel_rfl) (by kernel_rfl) (by intro _ _ _ h; exact h) (Or.inr ⟨by rfl, rfl⟩) (by assumption) ?_
        try simp only [Act.put, List.setIfInBounds_toArray, List.set_cons_zero, List.set_cons_succ]
        refine wpAnyH_take (i := 6) (v := undef) (by simp only [List.getElem?_toArray, List.getElem?_cons_zero, List.getElem?_cons_succ]; rfl) (by kernel_rfl) (by kernel_rfl) (by kernel_rfl) (by intro _ _ _ h; exact h) (Or.inr ⟨by rfl, rfl⟩) (by assumption) ?_
        try simp only [Act.put, List.setIfInBounds_toArray, List.set_cons_zero, List.set_cons_succ]
        refine wpAnyH_take (i := 7) (v := undef) (by simp only [List.getElem?_toArray, List.getElem?_cons_zero, List.getElem?_cons_succ]; rfl) (by kernel_rfl) (by kernel_rfl) (by kernel_rfl) (by intro _ _ _ h; exact h) (Or.inr ⟨by rfl, rfl⟩) (by assumption) ?_
        try simp only [Act.put, List.setIfInBounds_toArray, List.set_cons_zero, List.set_cons_succ]
        refine wpAnyH_take (i := 8) (v := ?_) (by simp only [List.getElem?_toArray, List.getElem?_cons_zero, List.getElem?_cons_succ]; rfl) (by kernel_rfl) (by kernel_rfl) (by kernel_rfl) (by intro _ _ _ h; exact h) (Or.inl ⟨by rfl, ?_⟩) (by assumption) ?_
        rotate_left
        · (intro w9 hSw; (try dsimp only at hSw); go_simp <;> with_reducible rfl)
        try simp only [Act.put, List.setIfInBounds_toArray, List.set_cons_zero, List.set_cons_succ]
        refine wpAnyH_take (i := 9) (v := ?_) (by simp only [List.getElem?_toArray, List.getElem?_cons_zero, List.getElem?_cons_succ]; rfl) (by kernel_rfl) (by kernel_rfl) (by kernel_rfl) (by intro _ _ _ h; exact h) (Or.inl ⟨by rfl, ?_⟩) (by assumption) ?_
        rotate_left
        · (intro w9 hSw; (try dsimp only at hSw); go_simp <;> with_reducible rfl)
        try simp only [Act.put, List.setIfInBounds_toArray, List.set_cons_zero, List.set_cons_succ]
        refine wpAnyH_take (i := 10) (v := undef) (by simp only [List.getElem?_toArray, List.getElem?_cons_zero, List.getElem?_cons_succ]; rfl) (by kernel_rfl) (by kernel_rfl) (by kernel_rfl) (by intro _ _ _ h; exact h) (Or.inr ⟨by rfl, rfl⟩) (by assumption) ?_
        try simp only [Act.put, List.setIfInBounds_toArray, List.set_cons_zero, List.set_cons_succ]
        refine wpAnyH_take (i := 11) (v := undef) (by simp only [List.getElem?_toArray, List.getElem?_cons_zero, List.getElem?_cons_succ]; rfl) (by kernel_rfl) (by kernel_rfl) (by kernel_rfl) (by intro _ _ _ h; exact h) (Or.inr ⟨by rfl, rfl⟩) (by assumption) ?_
        try simp only [Act.put, List.setIfInBounds_toArray, List.set_cons_zero, List.set_cons_succ]
        refine wpAnyH_take (i := 12) (v := undef) (by simp only [List.getElem?_toArray, List.getElem?_cons_zero, List.getElem?_cons_succ]; rfl) (by kernel_rfl) (by kernel_rfl) (by kernel_rfl) (by intro _ _ _ h; exact h) (Or.inr ⟨by rfl, rfl⟩) (by assumption) ?_
        try simp only [Act.put, List.setIfInBounds_toArray, List.set_cons_zero, List.set_cons_succ]
        refine wpAnyH_take (i := 13) (v := undef) (by simp only [List.getElem?_toArray, List.getElem?_cons_zero, List.getElem?_cons_succ]; rfl) (by kernel_rfl) (by kernel_rfl) (by kernel_rfl) (by intro _ _ _ h; exact h) (Or.inr ⟨by rfl, rfl⟩) (by assumption) ?_
        try simp only [Act.put, List.setIfInBounds_toArray, List.set_cons_zero, List.set_cons_succ]
        refine wpAnyH_take (i := 14) (v := undef) (by simp only [List.getElem?_toArray, List.getElem?_cons_zero, List.getElem?_cons_succ]; rfl) (by kernel_rfl) (by kernel_rfl) (by kernel_rfl) (by intro _ _ _ h; exact h) (Or.inr ⟨by rfl, rfl⟩) (by assumption) ?_
        try simp only [Act.put, List.setIfInBounds_toArray, List.set_cons_zero, List.set_cons_succ]
        refine wpAnyH_take (i := 15) (v := undef) (by simp only [List.getElem?_toArray, List.getElem?_cons_zero, List.getElem?_cons_succ]; rfl) (by kernel_rfl) (by kernel_rfl) (by kernel_rfl) (by intro _ _ _ h; exact h) (Or.inr ⟨by rfl, rfl⟩) (by assumption) ?_
        try simp only [Act.put, List.setIfInBounds_toArray, List.set_cons_zero, List.set_cons_succ]
        refine wpAnyH_take (i := 16) (v := undef) (by simp only [List.getElem?_toArray, List.getElem?_cons_zero, List.getElem?_cons_succ]; rfl) (by kernel_rfl) (by kernel_rfl) (by kernel_rfl) (by intro _ _ _ h; exact h) (Or.inr ⟨by rfl, rfl⟩) (by assumption) ?_
        try simp only [Act.put, List.setIfInBounds_toArray, List.set_cons_zero, List.set_cons_succ]
        refine wpAnyH_take (i := 17) (v := undef) (by simp only [List.getElem?_toArray, List.getElem?_cons_zero, List.getElem?_cons_succ]; rfl) (by kernel_rfl) (by kernel_rfl) (by kernel_rfl) (by intro _ _ _ h; exact h) (Or.inr ⟨by rfl, rfl⟩) (by assumption) ?_
        try simp only [Act.put, List.setIfInBounds_toArray, List.set_cons_zero, List.set_cons_succ]
        refine wpAnyH_take (i := 18) (v := ?_) (by simp only [List.getElem?_toArray, List.getElem?_cons_zero, List.getElem?_cons_succ]; rfl) (by kernel_rfl) (by kernel_rfl) (by kernel_rfl) (by intro _ _ _ h; exact h) (Or.inl ⟨by rfl, ?_⟩) (by assumption) ?_
        rotate_left
        · (intro w9 hSw; (try dsimp only at hSw); go_simp <;> with_reducible rfl)
        try simp only [Act.put, List.setIfInBounds_toArray, List.set_cons_zero, List.set_cons_succ]
        refine wpAnyH_take (i := 19) (v := ?_) (by simp only [List.getElem?_toArray, List.getElem?_cons_zero, List.getElem?_cons_succ]; rfl) (by kernel_rfl) (by kernel_rfl) (by kernel_rfl) (by intro _ _ _ h; exact h) (Or.inl ⟨by rfl, ?_⟩) (by assumption) ?_
        rotate_left
        · (intro w9 hSw; (try dsimp only at hSw); go_simp <;> with_reducible rfl)
        try simp only [Act.put, List.setIfInBounds_toArray, List.set_cons_zero, List.set_cons_succ]
        refine wpAnyH_done (by kernel_rfl) ?_ _
        have hbZ : Below (w.alloc (.cells #[.int .i64 0, .int .i64 0, .int .i64 0, .int .i64 0, .int .i64 0, .int .i64 0, .int .i64 0, .bool false, .int .i64 0, .int .i64 0] 24)).heap.size (w.alloc (.cells #[.int .i64 0, .int .i64 0, .int .i64 0, .int .i64 0, .int .i64 0, .int .i64 0, .int .i64 0, .bool false, .int .i64 0, .int .i64 0] 24)) wn := (by repeat (first | (with_reducible exact Below.refl _ _) | (with_reducible assumption) | (with_reducible refine bel_set ?_ (by first | (simp; done) | (simp; omega)) _) | (with_reducible refine bel_alloc ?_ _) | (with_reducible refine bel_drew ?_) | (with_reducible refine bel_drewN ?_ _) | (with_reducible refine bel_trans ?_ (by with_reducible assumption))))
        have c0 : wn.cell? ⟨w.heap.size, 0, none⟩ = some (.int .i64 0) := (hbZ.cell (p := ⟨w.heap.size, 0, none⟩) (by simp)).trans (by simp [go_sem])
        have f0 : wn.frozen? ⟨w.heap.size, 0, none⟩ = false := (hbZ.frozen (p := ⟨w.heap.size, 0, none⟩) (by simp)).trans (by simp [go_sem])
        have c1 : wn.cell? ⟨w.heap.size, 1, none⟩ = some (.int .i64 0) := (hbZ.cell (p := ⟨w.heap.size, 1, none⟩) (by simp)).trans (by simp [go_sem])
        have f1 : wn.frozen? ⟨w.heap.size, 1, none⟩ = false := (hbZ.frozen (p := ⟨w.heap.size, 1, none⟩) (by simp)).trans (by simp [go_sem])
        have c2 : wn.cell? ⟨w.heap.size, 2, none⟩ = some (.int .i64 0) := (hbZ.cell (p := ⟨w.heap.size, 2, none⟩) (by simp)).trans (by simp [go_sem])
        have f2 : wn.frozen? ⟨w.heap.size, 2, none⟩ = false := (hbZ.frozen (p := ⟨w.heap.size, 2, none⟩) (by simp)).trans (by simp [go_sem])
        have c3 : wn.cell? ⟨w.heap.size, 3, none⟩ = some (.int .i64 0) := (hbZ.cell (p := ⟨w.heap.size, 3, none⟩) (by simp)).trans (by simp [go_sem])
        have f3 : wn.frozen? ⟨w.heap.size, 3, none⟩ = false := (hbZ.frozen (p := ⟨w.heap.size, 3, none⟩) (by simp)).trans (by simp [go_sem])
        have c4 : wn.cell? ⟨w.heap.size, 4, none⟩ = some (.int .i64 0) := (hbZ.cell (p := ⟨w.heap.size, 4, none⟩) (by simp)).trans (by simp [go_sem])
        have f4 : wn.frozen? ⟨w.heap.size, 4, none⟩ = false := (hbZ.frozen (p := ⟨w.heap.size, 4, none⟩) (by simp)).trans (by simp [go_sem])
        have c5 : wn.cell? ⟨w.heap.size, 5, none⟩ = some (.int .i64 0) := (hbZ.cell (p := ⟨w.heap.size, 5, none⟩) (by simp)).trans (by simp [go_sem])
        have f5 : wn.frozen? ⟨w.heap.size, 5, none⟩ = false := (hbZ.frozen (p := ⟨w.heap.size, 5, none⟩) (by simp)).trans (by simp [go_sem])
        have c6 : wn.cell? ⟨w.heap.size, 6, none⟩ = some (.int .i64 0) := (hbZ.cell (p := ⟨w.heap.size, 6, none⟩) (by simp)).trans (by simp [go_sem])
        have f6 : wn.frozen? ⟨w.heap.size, 6, none⟩ = false := (hbZ.frozen (p := ⟨w.heap.size, 6, none⟩) (by simp)).trans (by simp [go_sem])
        have c7 : wn.cell? ⟨w.heap.size, 7, none⟩ = some (.bool false) := (hbZ.cell (p := ⟨w.heap.size, 7, none⟩) (by simp)).trans (by simp [go_sem])
        have f7 : wn.frozen? ⟨w.heap.size, 7, none⟩ = false := (hbZ.frozen (p := ⟨w.heap.size, 7, none⟩) (by simp)).trans (by simp [go_sem])
        have c8 : wn.cell? ⟨w.heap.size, 8, none⟩ = some (.int .i64 0) := (hbZ.cell (p := ⟨w.heap.size, 8, none⟩) (by simp)).trans (by simp [go_sem])
        have f8 : wn.frozen? ⟨w.heap.size, 8, none⟩ = false := (hbZ.frozen (p := ⟨w.heap.size, 8, none⟩) (by simp)).trans (by simp [go_sem])
        have c9 : wn.cell? ⟨w.heap.size, 9, none⟩ = some (.int .i64 0) := (hbZ.cell (p := ⟨w.heap.size, 9, none⟩) (by simp)).trans (by simp [go_sem])
        have f9 : wn.frozen? ⟨w.heap.size, 9, none⟩ = false := (hbZ.frozen (p := ⟨w.heap.size, 9, none⟩) (by simp)).trans (by simp [go_sem])
        go_wp2
        refine bodyPost_ret (v := .tuple #[.agg #[.int .i64 0, .int .i64 0, .int .i64 0, .int .i64 0, .int .i64 0, .int .i64 0, .int .i64 0, .bool false, .int .i64 0, .int .i64 0], .int .i64 ((ix : Int) + 1)]) (by simp (maxDischargeDepth := 9) [results, Tryd.results10, go_sem, *]) rfl ?_
        exact jp_bad (by omega) (unhide HL) (unhide HG) (fun n hn => by obtain ⟨y, e, _⟩ := hn; rw [List.getElem?_eq_none (by simp [jNames]; omega)] at e; cases e) (by repeat (first | (with_reducible refine bel_set ?_ (by first | (simp; done) | (simp; omega)) _) | (with_reducible exact bel_trans (bel_one _ _) hbZ)))
    · have hix : ix = len := by omega
      have HGL : Hid (GoodJ L ns) := hide (by have h9 := unhide HG; rwa [List.take_of_length_le (by omega)] at h9)
      obtain ⟨av, cv, rfl⟩ := (unhide HO).shape
      by_cases h10 : ns.length < 10
      · have hm1 : decide ((ns.length : Int) < 10) = true := by simp; omega
        go_wp2_with fail
        refine (names_any (show jNames[0]? = some _ from rfl) _).mono ?_
        rintro e9 wn ⟨gq, rfl, _, _, hbn⟩
        obtain ⟨hcn, hfn, hsn⟩ := bcell hbn
        have hbZ : Below (w.alloc (.cells #[.int .i64 0, .int .i64 0, .int .i64 0, .int .i64 0, .int .i64 0, .int .i64 0, .int .i64 0, .bool false, .int .i64 0, .int .i64 0] 24)).heap.size (w.alloc (.cells #[.int .i64 0, .int .i64 0, .int .i64 0, .int .i64 0, .int .i64 0, .int .i64 0, .int .i64 0, .bool false, .int .i64 0, .int .i64 0] 24)) wn := (by repeat (first | (with_reducible exact Below.refl _ _) | (with_reducible assumption) | (with_reducible refine bel_set ?_ (by first | (simp; done) | (simp; omega)) _) | (with_reducible refine bel_alloc ?_ _) | (with_reducible refine bel_drew ?_) | (with_reducible refine bel_drewN ?_ _) | (with_reducible refine bel_trans ?_ (by with_reducible assumption))))
        have c0 : wn.cell? ⟨w.heap.size, 0, none⟩ = some (.int .i64 0) := (hbZ.cell (p := ⟨w.heap.size, 0, none⟩) (by simp)).trans (by simp [go_sem])
        have f0 : wn.frozen? ⟨w.heap.size, 0, none⟩ = false := (hbZ.frozen (p := ⟨w.heap.size, 0, none⟩) (by simp)).trans (by simp [go_sem])
        have c1 : wn.cell? ⟨w.heap.size, 1, none⟩ = some (.int .i64 0) := (hbZ.cell (p := ⟨w.heap.size, 1, none⟩) (by simp)).trans (by simp [go_sem])
        have f1 : wn.frozen? ⟨w.heap.size, 1, none⟩ = false := (hbZ.frozen (p := ⟨w.heap.size, 1, none⟩) (by simp)).trans (by simp [go_sem])
        have c2 : wn.cell? ⟨w.heap.size, 2, none⟩ = some (.int .i64 0) := (hbZ.cell (p := ⟨w.heap.size, 2, none⟩) (by simp)).trans (by simp [go_sem])
        have f2 : wn.frozen? ⟨w.heap.size, 2, none⟩ = false := (hbZ.frozen (p := ⟨w.heap.size, 2, none⟩) (by simp)).trans (by simp [go_sem])
        have c3 : wn.cell? ⟨w.heap.size, 3, none⟩ = some (.int .i64 0) := (hbZ.cell (p := ⟨w.heap.size, 3, none⟩) (by simp)).trans (by simp [go_sem])
        have f3 : wn.frozen? ⟨w.heap.size, 3, none⟩ = false := (hbZ.frozen (p := ⟨w.heap.size, 3, none⟩) (by simp)).trans (by simp [go_sem])
        have c4 : wn.cell? ⟨w.heap.size, 4, none⟩ = some (.int .i64 0) := (hbZ.cell (p := ⟨w.heap.size, 4, none⟩) (by simp)).trans (by simp [go_sem])
        have f4 : wn.frozen? ⟨w.heap.size, 4, none⟩ = false := (hbZ.frozen (p := ⟨w.heap.size, 4, none⟩) (by simp)).trans (by simp [go_sem])
        have c5 : wn.cell? ⟨w.heap.size, 5, none⟩ = some (.int .i64 0) := (hbZ.cell (p := ⟨w.heap.size, 5, none⟩) (by simp)).trans (by simp [go_sem])
        have f5 : wn.frozen? ⟨w.heap.size, 5, none⟩ = false := (hbZ.frozen (p := ⟨w.heap.size, 5, none⟩) (by simp)).trans (by simp [go_sem])
        have c6 : wn.cell? ⟨w.heap.size, 6, none⟩ = some (.int .i64 0) := (hbZ.cell (p := ⟨w.heap.size, 6, none⟩) (by simp)).trans (by simp [go_sem])
        have f6 : wn.frozen? ⟨w.heap.size, 6, none⟩ = false := (hbZ.frozen (p := ⟨w.heap.size, 6, none⟩) (by simp)).trans (by simp [go_sem])
        have c7 : wn.cell? ⟨w.heap.size, 7, none⟩ = some (.bool false) := (hbZ.cell (p := ⟨w.heap.size, 7, none⟩) (by simp)).trans (by simp [go_sem])
        have f7 : wn.frozen? ⟨w.heap.size, 7, none⟩ = false := (hbZ.frozen (p := ⟨w.heap.size, 7, none⟩) (by simp)).trans (by simp [go_sem])
        have c8 : wn.cell? ⟨w.heap.size, 8, none⟩ = some (.int .i64 0) := (hbZ.cell (p := ⟨w.heap.size, 8, none⟩) (by simp)).trans (by simp [go_sem])
        have f8 : wn.frozen? ⟨w.heap.size, 8, none⟩ = false := (hbZ.frozen (p := ⟨w.heap.size, 8, none⟩) (by simp)).trans (by simp [go_sem])
        have c9 : wn.cell? ⟨w.heap.size, 9, none⟩ = some (.int .i64 0) := (hbZ.cell (p := ⟨w.heap.size, 9, none⟩) (by simp)).trans (by simp [go_sem])
        have f9 : wn.frozen? ⟨w.heap.size, 9, none⟩ = false := (hbZ.frozen (p := ⟨w.heap.size, 9, none⟩) (by simp)).trans (by simp [go_sem])
        go_wp2
        refine bodyPost_ret (v := .tuple #[.agg #[.int .i64 0, .int .i64 0, .int .i64 0, .int .i64 0, .int .i64 0, .int .i64 0, .int .i64 0, .bool false, .int .i64 0, .int .i64 0], .int .i64 ((len : Int) + 1)]) (by simp (maxDischargeDepth := 9) [results, Tryd.results10, go_sem, *]) rfl ?_
        exact jp_end (by omega) (unhide HGL) (Or.inl h10) (by repeat (first | (with_reducible refine bel_set ?_ (by first | (simp; done) | (simp; omega)) _) | (with_reducible exact bel_trans (bel_one _ _) hbZ)))
      · obtain rfl : len = 10 := by omega
        subst hix
        obtain ⟨a0, a1, a2, a3, a4, a5, a6, a7, a8, a9, rfl⟩ := ten (show ns.length = 10 by omega)
        clear hnl hk hlt
        go_wp2_with fail
        refine (names_any (show jNames[0]? = some _ from rfl) _).mono ?_
        rintro e9 wn ⟨gq, rfl, _, _, hbn⟩
        obtain ⟨hcn, hfn, hsn⟩ := bcell hbn
        have hbZ : Below (w.alloc (.cells #[.int .i64 0, .int .i64 0, .int .i64 0, .int .i64 0, .int .i64 0, .int .i64 0, .int .i64 0, .bool false, .int .i64 0, .int .i64 0] 24)).heap.size (w.alloc (.cells #[.int .i64 0, .int .i64 0, .int .i64 0, .int .i64 0, .int .i64 0, .int .i64 0, .int .i64 0, .bool false, .int .i64 0, .int .i64 0] 24)) wn := (by repeat (first | (with_reducible exact Below.refl _ _) | (with_reducible assumption) | (with_reducible refine bel_set ?_ (by first | (simp; done) | (simp; omega)) _) | (with_reducible refine bel_alloc ?_ _) | (with_reducible refine bel_drew ?_) | (with_reducible refine bel_drewN ?_ _) | (with_reducible refine bel_trans ?_ (by with_reducible assumption))))
        have hzZ := hbZ.size
        simp at hzZ
        obtain ⟨gn, cn, e5, hgB, hgl, hcell⟩ := ((unhide HO).bel hbn).cells (by simp)
        simp only [Value.slice.injEq] at e5
        obtain ⟨rfl, _, rfl⟩ := e5
        have n0 := hcell 0 a0 rfl
        have n1 := hcell 1 a1 rfl
        have n2 := hcell 2 a2 rfl
        have n3 := hcell 3 a3 rfl
        have n4 := hcell 4 a4 rfl
        have n5 := hcell 5 a5 rfl
        have n6 := hcell 6 a6 rfl
        have n7 := hcell 7 a7 rfl
        have n8 := hcell 8 a8 rfl
        have n9 := hcell 9 a9 rfl
        clear hcell hcn hfn hsn
        go_wp2_with fail
        refine wp_region_held_drew (S := (fun W => ((W.cell? ⟨gn, 0, none⟩ = some (.int .i64 a0) ∧ W.cell? ⟨gn, 1, none⟩ = some (.int .i64 a1) ∧ W.cell? ⟨gn, 2, none⟩ = some (.int .i64 a2) ∧ W.cell? ⟨gn, 3, none⟩ = some (.int .i64 a3) ∧ W.cell? ⟨gn, 4, none⟩ = some (.int .i64 a4) ∧ W.cell? ⟨gn, 5, none⟩ = some (.int .i64 a5) ∧ W.cell? ⟨gn, 6, none⟩ = some (.int .i64 a6) ∧ W.cell? ⟨gn, 7, none⟩ = some (.int .i64 a7) ∧ W.cell? ⟨gn, 8, none⟩ = some (.int .i64 a8) ∧ W.cell? ⟨gn, 9, none⟩ = some (.int .i64 a9)) ∧ gn < W.heap.size))) (by kernel_rfl) ?_ (fun hHeld => ?_)
        · (try dsimp only); exact ⟨⟨n0, n1, n2, n3, n4, n5, n6, n7, n8, n9⟩, hgl⟩
        refine wpAnyH_take (i := 0) (v := ?_) (by simp only [List.getElem?_toArray, List.getElem?_cons_zero, List.getElem?_cons_succ]; rfl) (by kernel_rfl) (by kernel_rfl) (by kernel_rfl) (by intro _ _ _ h; exact h) (Or.inl ⟨by rfl, ?_⟩) (by assumption) ?_
        rotate_left
        · (intro w9 hSw; (try dsimp only at hSw); go_simp <;> with_reducible rfl)
        try simp only [Act.put, List.setIfInBounds_toArray, List.set_cons_zero, List.set_cons_succ]
        refine wpAnyH_take (i := 1) (v := ?_) (by simp only [List.getElem?_toArray, List.getElem?_cons_zero, List.getElem?_cons_succ]; rfl) (by kernel_rfl) (by kernel_rfl) (by kernel_rfl) (by intro _ _ _ h; exact h) (Or.inl ⟨by rfl, ?_⟩) (by assumption) ?_
        rotate_left
        · (intro w9 hSw; (try dsimp only at hSw); go_simp <;> with_reducible rfl)
        try simp only [Act.put, List.setIfInBounds_toArray, List.set_cons_zero, List.set_cons_succ]
        refine wpAnyH_take (i := 2) (v := ?_) (by simp only [List.getElem?_toArray, List.getElem?_cons_zero, List.getElem?_cons_succ]; rfl) (by kernel_rfl) (by kernel_rfl) (by kernel_rfl) (by intro _ _ _ h; exact h) (Or.inl ⟨by rfl, ?_⟩) (by assumption) ?_
        rotate_left
        · (intro w9 hSw; (try dsimp only at hSw); go_simp <;> with_reducible rfl)
        try simp only [Act.put, List.setIfInBounds_toArray, List.set_cons_zero, List.set_cons_succ]
        refine wpAnyH_take (i := 3) (v := ?_) (by simp only [List.getElem?_toArray, List.getElem?_cons_zero, List.getElem?_cons_succ]; rfl) (by kernel_rfl) (by kernel_rfl) (by kernel_rfl) (by intro _ _ _ h; exact h) (Or.inl ⟨by rfl, ?_⟩) (by assumption) ?_
        rotate_left
        · (intro w9 hSw; (try dsimp only at hSw); go_simp <;> with_reducible rfl)
        try simp only [Act.put, List.setIfInBounds_toArray, List.set_cons_zero, List.set_cons_succ]
        refine wpAnyH_take (i := 4) (v := ?_) (by simp only [List.getElem?_toArray, List.getElem?_cons_zero, List.getElem?_cons_succ]; rfl) (by kernel_rfl) (by kernel_rfl) (by kernel_rfl) (by intro _ _ _ h; exact h) (Or.inl ⟨by rfl, ?_⟩) (by assumption) ?_
        rotate_left
        · (intro w9 hSw; (try dsimp only at hSw); go_simp <;> with_reducible rfl)
        try simp only [Act.put, List.setIfInBounds_toArray, List.set_cons_zero, List.set_cons_succ]
        refine wpAnyH_take (i := 5) (v := ?_) (by simp only [List.getElem?_toArray, List.getElem?_cons_zero, List.getElem?_cons_succ]; rfl) (by kernel_rfl) (by kernel_rfl) (by kernel_rfl) (by intro _ _ _ h; exact h) (Or.inl ⟨by rfl, ?_⟩) (by assumption) ?_
        rotate_left
        · (intro w9 hSw; (try dsimp only at hSw); go_simp <;> with_reducible rfl)
        try simp only [Act.put, List.setIfInBounds_toArray, List.set_cons_zero, List.set_cons_succ]
        refine wpAnyH_take (i := 6) (v := ?_) (by simp only [List.getElem?_toArray, List.getElem?_cons_zero, List.getElem?_cons_succ]; rfl) (by kernel_rfl) (by kernel_rfl) (by kernel_rfl) (by intro _ _ _ h; exact h) (Or.inl ⟨by rfl, ?_⟩) (by assumption) ?_
        rotate_left
        · (intro w9 hSw; (try dsimp only at hSw); go_simp <;> with_reducible rfl)
        try simp only [Act.put, List.setIfInBounds_toArray, List.set_cons_zero, List.set_cons_succ]
        refine wpAnyH_take (i := 7) (v := ?_) (by simp only [List.getElem?_toArray, List.getElem?_cons_zero, List.getElem?_cons_succ]; rfl) (by kernel_rfl) (by kernel_rfl) (by kernel_rfl) (by intro _ _ _ h; exact h) (Or.inl ⟨by rfl, ?_⟩) (by assumption) ?_
        rotate_left
        · (intro w9 hSw; (try dsimp only at hSw); go_simp <;> with_reducible rfl)
        try simp only [Act.put, List.setIfInBounds_toArray, List.set_cons_zero, List.set_cons_succ]
        refine wpAnyH_take (i := 8) (v := ?_) (by simp only [List.getElem?_toArray, List.getElem?_cons_zero, List.getElem?_cons_succ]; rfl) (by kernel_rfl) (by kernel_rfl) (by kernel_rfl) (by intro _ _ _ h; exact h) (Or.inl ⟨by rfl, ?_⟩) (by assumption) ?_
        rotate_left
        · (intro w9 hSw; (try dsimp only at hSw); go_simp <;> with_reducible rfl)
        try simp only [Act.put, List.setIfInBounds_toArray, List.set_cons_zero, List.set_cons_succ]
        refine wpAnyH_take (i := 9) (v := ?_) (by simp only [List.getElem?_toArray, List.getElem?_cons_zero, List.getElem?_cons_succ]; rfl) (by kernel_rfl) (by kernel_rfl) (by kernel_rfl) (by intro _ _ _ h; exact h) (Or.inl ⟨by rfl, ?_⟩) (by assumption) ?_
        rotate_left
        · (intro w9 hSw; (try dsimp only at hSw); go_simp <;> with_reducible rfl)
        try simp only [Act.put, List.setIfInBounds_toArray, List.set_cons_zero, List.set_cons_succ]
        refine wpAnyH_take (i := 10) (v := ?_) (by simp only [List.getElem?_toArray, List.getElem?_cons_zero, List.getElem?_cons_succ]; rfl) (by kernel_rfl) (by kernel_rfl) (by kernel_rfl) (by intro _ _ _ h; exact h) (Or.inl ⟨by rfl, ?_⟩) (by assumption) ?_
        rotate_left
        · (intro w9 hSw; (try dsimp only at hSw); go_simp <;> with_reducible rfl)
        try simp only [Act.put, List.setIfInBounds_toArray, List.set_cons_zero, List.set_cons_succ]
        refine wpAnyH_take (i := 11) (v := ?_) (by simp only [List.getElem?_toArray, List.getElem?_cons_zero, List.getElem?_cons_succ]; rfl) (by kernel_rfl) (by kernel_rfl) (by kernel_rfl) (by intro _ _ _ h; exact h) (Or.inl ⟨by rfl, ?_⟩) (by assumption) ?_
        rotate_left
        · (intro w9 hSw; (try dsimp only at hSw); go_simp <;> with_reducible rfl)
        try simp only [Act.put, List.setIfInBounds_toArray, List.set_cons_zero, List.set_cons_succ]
        refine wpAnyH_take (i := 12) (v := ?_) (by simp only [List.getElem?_toArray, List.getElem?_cons_zero, List.getElem?_cons_succ]; rfl) (by kernel_rfl) (by kernel_rfl) (by kernel_rfl) (by intro _ _ _ h; exact h) (Or.inl ⟨by rfl, ?_⟩) (by assumption) ?_
        rotate_left
        · (intro w9 hSw; (try dsimp only at hSw); go_simp <;> with_reducible rfl)
        try simp only [Act.put, List.setIfInBounds_toArray, List.set_cons_zero, List.set_cons_succ]
        refine wpAnyH_take (i := 13) (v := ?_) (by simp only [List.getElem?_toArray, List.getElem?_cons_zero, List.getElem?_cons_succ]; rfl) (by kernel_rfl) (by kernel_rfl) (by kernel_rfl) (by intro _ _ _ h; exact h) (Or.inl ⟨by rfl, ?_⟩) (by assumption) ?_
        rotate_left
        · (intro w9 hSw; (try dsimp only at hSw); go_simp <;> with_reducible rfl)
        try simp only [Act.put, List.setIfInBounds_toArray, List.set_cons_zero, List.set_cons_succ]
        refine wpAnyH_take (i := 14) (v := ?_) (by simp only [List.getElem?_toArray, List.getElem?_cons_zero, List.getElem?_cons_succ]; rfl) (by kernel_rfl) (by kernel_rfl) (by kernel_rfl) (by intro _ _ _ h; exact h) (Or.inl ⟨by rfl, ?_⟩) (by assumption) ?_
        rotate_left
        · (intro w9 hSw; (try dsimp only at hSw); go_simp <;> with_reducible rfl)
        try simp only [Act.put, List.setIfInBounds_toArray, List.set_cons_zero, List.set_cons_succ]
        refine wpAnyH_take (i := 15) (v := ?_) (by simp only [List.getElem?_toArray, List.getElem?_cons_zero, List.getElem?_cons_succ]; rfl) (by kernel_rfl) (by kernel_rfl) (by kernel_rfl) (by intro _ _ _ h; exact h) (Or.inl ⟨by rfl, ?_⟩) (by assumption) ?_
        rotate_left
        · (intro w9 hSw; (try dsimp only at hSw); go_simp <;> with_reducible rfl)
        try simp only [Act.put, List.setIfInBounds_toArray, List.set_cons_zero, List.set_cons_succ]
        refine wpAnyH_take (i := 16) (v := ?_) (by simp only [List.getElem?_toArray, List.getElem?_cons_zero, List.getElem?_cons_succ]; rfl) (by kernel_rfl) (by kernel_rfl) (by kernel_rfl) (by intro _ _ _ h; exact h) (Or.inl ⟨by rfl, ?_⟩) (by assumption) ?_
        rotate_left
        · (intro w9 hSw; (try dsimp only at hSw); go_simp <;> with_reducible rfl)
        try simp only [Act.put, List.setIfInBounds_toArray, List.set_cons_zero, List.set_cons_succ]
        refine wpAnyH_take (i := 17) (v := ?_) (by simp only [List.getElem?_toArray, List.getElem?_cons_zero, List.getElem?_cons_succ]; rfl) (by kernel_rfl) (by kernel_rfl) (by kernel_rfl) (by intro _ _ _ h; exact h) (Or.inl ⟨by rfl, ?_⟩) (by assumption) ?_
        rotate_left
        · (intro w9 hSw; (try dsimp only at hSw); go_simp <;> with_reducible rfl)
        try simp only [Act.put, List.setIfInBounds_toArray, List.set_cons_zero, List.set_cons_succ]
        refine wpAnyH_take (i := 18) (v := ?_) (by simp only [List.getElem?_toArray, List.getElem?_cons_zero, List.getElem?_cons_succ]; rfl) (by kernel_rfl) (by kernel_rfl) (by kernel_rfl) (by intro _ _ _ h; exact h) (Or.inl ⟨by rfl, ?_⟩) (by assumption) ?_
        rotate_left
        · (intro w9 hSw; (try dsimp only at hSw); go_simp <;> with_reducible rfl)
        try simp only [Act.put, List.setIfInBounds_toArray, List.set_cons_zero, List.set_cons_succ]
        refine wpAnyH_take (i := 19) (v := ?_) (by simp only [List.getElem?_toArray, List.getElem?_cons_zero, List.getElem?_cons_succ]; rfl) (by kernel_rfl) (by kernel_rfl) (by kernel_rfl) (by intro _ _ _ h; exact h) (Or.inl ⟨by rfl, ?_⟩) (by assumption) ?_
        rotate_left
        · (intro w9 hSw; (try dsimp only at hSw); go_simp <;> with_reducible rfl)
        try simp only [Act.put, List.setIfInBounds_toArray, List.set_cons_zero, List.set_cons_succ]
        refine wpAnyH_take (i := 20) (v := ?_) (by simp only [List.getElem?_toArray, List.getElem?_cons_zero, List.getElem?_cons_succ]; rfl) (by kernel_rfl) (by kernel_rfl) (by kernel_rfl) (by intro _ _ _ h; exact h) (Or.inl ⟨by rfl, ?_⟩) (by assumption) ?_
        rotate_left
        · (intro w9 hSw; (try dsimp only at hSw); go_simp <;> with_reducible rfl)
        try simp only [Act.put, List.setIfInBounds_toArray, List.set_cons_zero, List.set_cons_succ]
        refine wpAnyH_take (i := 21) (v := ?_) (by simp only [List.getElem?_toArray, List.getElem?_cons_zero, List.getElem?_cons_succ]; rfl) (by kernel_rfl) (by kernel_rfl) (by kernel_rfl) (by intro _ _ _ h; exact h) (Or.inl ⟨by rfl, ?_⟩) (by assumption) ?_
        rotate_left
        · (intro w9 hSw; (try dsimp only at hSw); go_simp <;> with_reducible rfl)
        try simp only [Act.put, List.setIfInBounds_toArray, List.set_cons_zero, List.set_cons_succ]
        refine wpAnyH_take (i := 22) (v := ?_) (by simp only [List.getElem?_toArray, List.getElem?_cons_zero, List.getElem?_cons_succ]; rfl) (by kernel_rfl) (by kernel_rfl) (by kernel_rfl) (by intro _ _ _ h; exact h) (Or.inl ⟨by rfl, ?_⟩) (by assumption) ?_
        rotate_left
        · (intro w9 hSw; (try dsimp only at hSw); go_simp <;> with_reducible rfl)
        try simp only [Act.put, List.setIfInBounds_toArray, List.set_cons_zero, List.set_cons_succ]
        refine wpAnyH_take (i := 23) (v := ?_) (by simp only [List.getElem?_toArray, List.getElem?_cons_zero, List.getElem?_cons_succ]; rfl) (by kernel_rfl) (by kernel_rfl) (by kernel_rfl) (by intro _ _ _ h; exact h) (Or.inl ⟨by rfl, ?_⟩) (by assumption) ?_
        rotate_left
        · (intro w9 hSw; (try dsimp only at hSw); go_simp <;> with_reducible rfl)
        try simp only [Act.put, List.setIfInBounds_toArray, List.set_cons_zero, List.set_cons_succ]
        refine wpAnyH_take (i := 24) (v := ?_) (by simp only [List.getElem?_toArray, List.getElem?_cons_zero, List.getElem?_cons_succ]; rfl) (by kernel_rfl) (by kernel_rfl) (by kernel_rfl) (by intro _ _ _ h; exact h) (Or.inl ⟨by rfl, ?_⟩) (by assumption) ?_
        rotate_left
        · (intro w9 hSw; (try dsimp only at hSw); go_simp <;> with_reducible rfl)
        try simp only [Act.put, List.setIfInBounds_toArray, List.set_cons_zero, List.set_cons_succ]
        refine wpAnyH_take (i := 25) (v := ?_) (by simp only [List.getElem?_toArray, List.getElem?_cons_zero, List.getElem?_cons_succ]; rfl) (by kernel_rfl) (by kernel_rfl) (by kernel_rfl) (by intro _ _ _ h; exact h) (Or.inl ⟨by rfl, ?_⟩) (by assumption) ?_
        rotate_left
        · (intro w9 hSw; (try dsimp only at hSw); go_simp <;> with_reducible rfl)
        try simp only [Act.put, List.setIfInBounds_toArray, List.set_cons_zero, List.set_cons_succ]
        refine wpAnyH_take (i := 26) (v := ?_) (by simp only [List.getElem?_toArray, List.getElem?_cons_zero, List.getElem?_cons_succ]; rfl) (by kernel_rfl) (by kernel_rfl) (by kernel_rfl) (by intro _ _ _ h; exact h) (Or.inl ⟨by rfl, ?_⟩) (by assumption) ?_
        rotate_left
        · (intro w9 hSw; (try dsimp only at hSw); go_simp <;> with_reducible rfl)
        try simp only [Act.put, List.setIfInBounds_toArray, List.set_cons_zero, List.set_cons_succ]
        refine wpAnyH_take (i := 27) (v := ?_) (by simp only [List.getElem?_toArray, List.getElem?_cons_zero, List.getElem?_cons_succ]; rfl) (by kernel_rfl) (by kernel_rfl) (by kernel_rfl) (by intro _ _ _ h; exact h) (Or.inl ⟨by rfl, ?_⟩) (by assumption) ?_
        rotate_left
        · (intro w9 hSw; (try dsimp only at hSw); go_simp <;> with_reducible rfl)
        try simp only [Act.put, List.setIfInBounds_toArray, List.set_cons_zero, List.set_cons_succ]
        refine wpAnyH_take (i := 28) (v := ?_) (by simp only [List.getElem?_toArray, List.getElem?_cons_zero, List.getElem?_cons_succ]; rfl) (by kernel_rfl) (by kernel_rfl) (by kernel_rfl) (by intro _ _ _ h; exact h) (Or.inl ⟨by rfl, ?_⟩) (by assumption) ?_
        rotate_left
        · (intro w9 hSw; (try dsimp only at hSw); go_simp <;> with_reducible rfl)
        try simp only [Act.put, List.setIfInBounds_toArray, List.set_cons_zero, List.set_cons_succ]
        refine wpAnyH_take (i := 29) (v := ?_) (by simp only [List.getElem?_toArray, List.getElem?_cons_zero, List.getElem?_cons_succ]; rfl) (by kernel_rfl) (by kernel_rfl) (by kernel_rfl) (by intro _ _ _ h; exact h) (Or.inl ⟨by rfl, ?_⟩) (by assumption) ?_
        rotate_left
        · (intro w9 hSw; (try dsimp only at hSw); go_simp <;> with_reducible rfl)
        try simp only [Act.put, List.setIfInBounds_toArray, List.set_cons_zero, List.set_cons_succ]
        refine wpAnyH_take (i := 30) (v := ?_) (by simp only [List.getElem?_toArray, List.getElem?_cons_zero, List.getElem?_cons_succ]; rfl) (by kernel_rfl) (by kernel_rfl) (by kernel_rfl) (by intro _ _ _ h; exact h) (Or.inl ⟨by rfl, ?_⟩) (by assumption) ?_
        rotate_left
        · (intro w9 hSw; (try dsimp only at hSw); go_simp <;> with_reducible rfl)
        try simp only [Act.put, List.setIfInBounds_toArray, List.set_cons_zero, List.set_cons_succ]
        refine wpAnyH_take (i := 31) (v := ?_) (by simp only [List.getElem?_toArray, List.getElem?_cons_zero, List.getElem?_cons_succ]; rfl) (by kernel_rfl) (by kernel_rfl) (by kernel_rfl) (by intro _ _ _ h; exact h) (Or.inl ⟨by rfl, ?_⟩) (by assumption) ?_
        rotate_left
        · (intro w9 hSw; (try dsimp only at hSw); go_simp <;> with_reducible rfl)
        try simp only [Act.put, List.setIfInBounds_toArray, List.set_cons_zero, List.set_cons_succ]
        refine wpAnyH_ready (rs := [32]) (by kernel_rfl) (by simp) ?_
        refine AllReadyH.cons (by simp only [List.getElem?_toArray, List.getElem?_cons_zero, List.getElem?_cons_succ]; rfl) (fun K hK => ?_) AllReadyH.nil
        go_simp
        refine hK.out _ _ ?_ (fun hHeld2 => ?_)
        · (try dsimp only); ((first | ((repeat (first | (with_reducible assumption) | (with_reducible refine hd_10 ?_ (by with_reducible assumption)) | (with_reducible refine hd_10 ?_ (bel_drew (Below.refl _ _))) | (with_reducible exact hd_10_re (by with_reducible assumption) (by first | omega | (simp; done) | (simp; omega))) | (with_reducible refine hd_10 ?_ (bel_one _ _)) | (with_reducible refine hd_10_set ?_ (by first | omega | (simp; done) | (simp; omega)) _))); done) | (refine ⟨⟨?_, ?_, ?_, ?_, ?_, ?_, ?_, ?_, ?_, ?_⟩, ?_⟩ <;> first | (go_keep; done) | (simp; done) | (simp; omega) | omega)))
        clear hK K hHeld
        have hHeld := hHeld2
        clear hHeld2
        try simp only [Act.put, List.setIfInBounds_toArray, List.set_cons_zero, List.set_cons_succ]
        refine wpAnyH_ready (rs := [33]) (by kernel_rfl) (by simp) ?_
        refine AllReadyH.cons (by simp only [List.getElem?_toArray, List.getElem?_cons_zero, List.getElem?_cons_succ]; rfl) (fun K hK => ?_) AllReadyH.nil
        go_simp
        refine hK.out _ _ ?_ (fun hHeld2 => ?_)
        · (try dsimp only); ((first | ((repeat (first | (with_reducible assumption) | (with_reducible refine hd_10 ?_ (by with_reducible assumption)) | (with_reducible refine hd_10 ?_ (bel_drew (Below.refl _ _))) | (with_reducible exact hd_10_re (by with_reducible assumption) (by first | omega | (simp; done) | (simp; omega))) | (with_reducible refine hd_10 ?_ (bel_one _ _)) | (with_reducible refine hd_10_set ?_ (by first | omega | (simp; done) | (simp; omega)) _))); done) | (refine ⟨⟨?_, ?_, ?_, ?_, ?_, ?_, ?_, ?_, ?_, ?_⟩, ?_⟩ <;> first | (go_keep; done) | (simp; done) | (simp; omega) | omega)))
        clear hK K hHeld
        have hHeld := hHeld2
        clear hHeld2
        try simp only [Act.put, List.setIfInBounds_toArray, List.set_cons_zero, List.set_cons_succ]
        refine wpAnyH_done (by kernel_rfl) ?_ _
        cases ho : okJob a0 a1 a2 a3 a4 a5 a6 a8 a9
        all_goals
          go_wp2_with fail
          refine (specjobok_any a0 a1 a2 a3 a4 a5 a6 (a7 == 1) a8 a9 _).mono ?_
          rw [ho]
          rintro e8 w8 ⟨rfl, hb8⟩
          have hb7 : Below (wn.alloc (.cells #[.int .i64 a0, .int .i64 a1, .int .i64 a2, .int .i64 a3, .int .i64 a4, .int .i64 a5, .int .i64 a6, .bool (a7 == 1), .int .i64 a8, .int .i64 a9] 24)).heap.size (wn.alloc (.cells #[.int .i64 a0, .int .i64 a1, .int .i64 a2, .int .i64 a3, .int .i64 a4, .int .i64 a5, .int .i64 a6, .bool (a7 == 1), .int .i64 a8, .int .i64 a9] 24)) w8 := bel_trans (bel_drew (Below.refl _ _)) hb8
          have hbY : Below (w.alloc (.cells #[.int .i64 0, .int .i64 0, .int .i64 0, .int .i64 0, .int .i64 0, .int .i64 0, .int .i64 0, .bool false, .int .i64 0, .int .i64 0] 24)).heap.size (w.alloc (.cells #[.int .i64 0, .int .i64 0, .int .i64 0, .int .i64 0, .int .i64 0, .int .i64 0, .int .i64 0, .bool false, .int .i64 0, .int .i64 0] 24)) w8 := bel_trans (bel_alloc hbZ _) hb7
          have e0 : w8.cell? ⟨wn.heap.size, 0, none⟩ = some (.int .i64 a0) := (hb7.cell (p := ⟨wn.heap.size, 0, none⟩) (by simp)).trans (by simp [go_sem])
          have e1 : w8.cell? ⟨wn.heap.size, 1, none⟩ = some (.int .i64 a1) := (hb7.cell (p := ⟨wn.heap.size, 1, none⟩) (by simp)).trans (by simp [go_sem])
          have e2 : w8.cell? ⟨wn.heap.size, 2, none⟩ = some (.int .i64 a2) := (hb7.cell (p := ⟨wn.heap.size, 2, none⟩) (by simp)).trans (by simp [go_sem])
          have e3 : w8.cell? ⟨wn.heap.size, 3, none⟩ = some (.int .i64 a3) := (hb7.cell (p := ⟨wn.heap.size, 3, none⟩) (by simp)).trans (by simp [go_sem])
          have e4 : w8.cell? ⟨wn.heap.size, 4, none⟩ = some (.int .i64 a4) := (hb7.cell (p := ⟨wn.heap.size, 4, none⟩) (by simp)).trans (by simp [go_sem])
          have e5 : w8.cell? ⟨wn.heap.size, 5, none⟩ = some (.int .i64 a5) := (hb7.cell (p := ⟨wn.heap.size, 5, none⟩) (by simp)).trans (by simp [go_sem])
          have e6 : w8.cell? ⟨wn.heap.size, 6, none⟩ = some (.int .i64 a6) := (hb7.cell (p := ⟨wn.heap.size, 6, none⟩) (by simp)).trans (by simp [go_sem])
          have e7 : w8.cell? ⟨wn.heap.size, 7, none⟩ = some (.bool (a7 == 1)) := (hb7.cell (p := ⟨wn.heap.size, 7, none⟩) (by simp)).trans (by simp [go_sem])
          have e8 : w8.cell? ⟨wn.heap.size, 8, none⟩ = some (.int .i64 a8) := (hb7.cell (p := ⟨wn.heap.size, 8, none⟩) (by simp)).trans (by simp [go_sem])
          have e9 : w8.cell? ⟨wn.heap.size, 9, none⟩ = some (.int .i64 a9) := (hb7.cell (p := ⟨wn.heap.size, 9, none⟩) (by simp)).trans (by simp [go_sem])
          have c0 : w8.cell? ⟨w.heap.size, 0, none⟩ = some (.int .i64 0) := (hbY.cell (p := ⟨w.heap.size, 0, none⟩) (by simp)).trans (by simp [go_sem])
          have f0 : w8.frozen? ⟨w.heap.size, 0, none⟩ = false := (hbY.frozen (p := ⟨w.heap.size, 0, none⟩) (by simp)).trans (by simp [go_sem])
          have c1 : w8.cell? ⟨w.heap.size, 1, none⟩ = some (.int .i64 0) := (hbY.cell (p := ⟨w.heap.size, 1, none⟩) (by simp)).trans (by simp [go_sem])
          have f1 : w8.frozen? ⟨w.heap.size, 1, none⟩ = false := (hbY.frozen (p := ⟨w.heap.size, 1, none⟩) (by simp)).trans (by simp [go_sem])
          have c2 : w8.cell? ⟨w.heap.size, 2, none⟩ = some (.int .i64 0) := (hbY.cell (p := ⟨w.heap.size, 2, none⟩) (by simp)).trans (by simp [go_sem])
          have f2 : w8.frozen? ⟨w.heap.size, 2, none⟩ = false := (hbY.frozen (p := ⟨w.heap.size, 2, none⟩) (by simp)).trans (by simp [go_sem])
          have c3 : w8.cell? ⟨w.heap.size, 3, none⟩ = some (.int .i64 0) := (hbY.cell (p := ⟨w.heap.size, 3, none⟩) (by simp)).trans (by simp [go_sem])
          have f3 : w8.frozen? ⟨w.heap.size, 3, none⟩ = false := (hbY.frozen (p := ⟨w.heap.size, 3, none⟩) (by simp)).trans (by simp [go_sem])
          have c4 : w8.cell? ⟨w.heap.size, 4, none⟩ = some (.int .i64 0) := (hbY.cell (p := ⟨w.heap.size, 4, none⟩) (by simp)).trans (by simp [go_sem])
          have f4 : w8.frozen? ⟨w.heap.size, 4, none⟩ = false := (hbY.frozen (p := ⟨w.heap.size, 4, none⟩) (by simp)).trans (by simp [go_sem])
          have c5 : w8.cell? ⟨w.heap.size, 5, none⟩ = some (.int .i64 0) := (hbY.cell (p := ⟨w.heap.size, 5, none⟩) (by simp)).trans (by simp [go_sem])
          have f5 : w8.frozen? ⟨w.heap.size, 5, none⟩ = false := (hbY.frozen (p := ⟨w.heap.size, 5, none⟩) (by simp)).trans (by simp [go_sem])
          have c6 : w8.cell? ⟨w.heap.size, 6, none⟩ = some (.int .i64 0) := (hbY.cell (p := ⟨w.heap.size, 6, none⟩) (by simp)).trans (by simp [go_sem])
          have f6 : w8.frozen? ⟨w.heap.size, 6, none⟩ = false := (hbY.frozen (p := ⟨w.heap.size, 6, none⟩) (by simp)).trans (by simp [go_sem])
          have c7 : w8.cell? ⟨w.heap.size, 7, none⟩ = some (.bool false) := (hbY.cell (p := ⟨w.heap.size, 7, none⟩) (by simp)).trans (by simp [go_sem])
          have f7 : w8.frozen? ⟨w.heap.size, 7, none⟩ = false := (hbY.frozen (p := ⟨w.heap.size, 7, none⟩) (by simp)).trans (by simp [go_sem])
          have c8 : w8.cell? ⟨w.heap.size, 8, none⟩ = some (.int .i64 0) := (hbY.cell (p := ⟨w.heap.size, 8, none⟩) (by simp)).trans (by simp [go_sem])
          have f8 : w8.frozen? ⟨w.heap.size, 8, none⟩ = false := (hbY.frozen (p := ⟨w.heap.size, 8, none⟩) (by simp)).trans (by simp [go_sem])
          have c9 : w8.cell? ⟨w.heap.size, 9, none⟩ = some (.int .i64 0) := (hbY.cell (p := ⟨w.heap.size, 9, none⟩) (by simp)).trans (by simp [go_sem])
          have f9 : w8.frozen? ⟨w.heap.size, 9, none⟩ = false := (hbY.frozen (p := ⟨w.heap.size, 9, none⟩) (by simp)).trans (by simp [go_sem])
          clear hbZ hb7 hb8
          have hbZ := hbY
          go_wp2
        · refine bodyPost_ret (v := .tuple #[.agg #[.int .i64 0, .int .i64 0, .int .i64 0, .int .i64 0, .int .i64 0, .int .i64 0, .int .i64 0, .bool false, .int .i64 0, .int .i64 0], .int .i64 11]) (by simp (maxDischargeDepth := 9) [results, Tryd.results10, go_sem, *]) rfl ?_
          exact jp_end (by omega) (unhide HGL) (Or.inr ⟨_, _, _, _, _, _, _, _, _, _, rfl, ho⟩) (by repeat (first | (with_reducible refine bel_set ?_ (by first | (simp; done) | (simp; omega)) _) | (with_reducible exact bel_trans (bel_one _ _) hbZ)))
        · refine bodyPost_ret (v := .tuple #[.agg #[.int .i64 a0, .int .i64 a1, .int .i64 a2, .int .i64 a3, .int .i64 a4, .int .i64 a5, .int .i64 a6, .bool (a7 == 1), .int .i64 a8, .int .i64 a9], .int .i64 0]) (by simp (maxDischargeDepth := 9) [results, Tryd.results10, go_sem, *]) rfl ?_
          exact ⟨_, _, _, _, _, _, _, _, _, _, _, rfl, Or.inl ⟨rfl, _, _, _, _, _, _, _, _, _, _, unhide HGL, ho, rfl, (by first | rfl | simp)⟩, (by repeat (first | (with_reducible refine bel_set ?_ (by first | (simp; done) | (simp; omega)) _) | (with_reducible exact bel_trans (bel_one _ _) hbZ)))⟩

end Go.Proofs.YtgccnmegbdlefaaDoor
