/- Proved here: items without others, in the program: by counts in a map. -/
import Derived.Test.YtlokeogoneoanaaWoutM
import Derived.Test.YtlokeogoneoanaaStepA
import Derived.BigQuiet
import Derived.Deep.Onto
namespace Go.Proofs.Ytlokeogoneoanaa
open Go.ChangeShapes Go.WideShapes Go.ChangeAt Go.RowKit Go.Maps Go.WideMaps
set_option linter.unusedVariables false


noncomputable def RI : Value → Option (DataW Unit × List MemPlace) := plainElem Try.prog 3
def ZI : DataW Unit := .lit (.int .i64 0)
def cntF (c : IwR → Nat) (q : IwR) : DataW Unit := .lit (.int .i64 (c q : Nat))
theorem zeroI (u : World) : (zeroValue 3).run Try.prog u = .ok (.int .i64 0) u := by kernel_rfl
theorem zeroD : RI (.int .i64 0) = some (ZI, []) := plainElem_int Try.underlying3 (by decide)
theorem cnt_wf {n : Int} (h0 : 0 ≤ n) (h1 : n ≤ 1048577) : RI (.int .i64 n) = some (.lit (.int .i64 n), []) := plainElem_int Try.underlying3 (WalkArith.wf_i64 ⟨by omega, by omega⟩)
theorem OwnsFn.more {κ : Type} {P : Program} {k : TypeId} {R : Value → Option (DataW Unit × List MemPlace)} {zd : DataW Unit} {b n n2 : Nat} {kv : κ → Value} {ok : κ → Prop} {f : κ → DataW Unit} {w : World} (h : OwnsFn w P k R zd b n kv ok f) (hn : n ≤ n2) : OwnsFn w P k R zd b n2 kv ok f := by
  obtain ⟨D, h, hf⟩ := h
  exact ⟨D, h.mono hn, hf⟩
theorem cntF_up {c : IwR → Nat} {x : IwR} {cc : Nat} (h : c x = cc) : (fun y => if y = x then DataW.lit (.int .i64 ((cc : Int) + 1)) else cntF c y) = cntF (fun y => if y = x then c y + 1 else c y) := by
  funext y
  unfold cntF
  by_cases e : y = x
  · subst e; simp only [if_true]; rw [h]; rfl
  · simp only [if_neg e]
theorem cntF_down {c : IwR → Nat} {x : IwR} {cc : Nat} (h : c x = cc) (h0 : 0 < cc) : (fun y => if y = x then DataW.lit (.int .i64 ((cc : Int) - 1)) else cntF c y) = cntF (fun y => if y = x then c y - 1 else c y) := by
  funext y
  unfold cntF
  by_cases e : y = x
  · subst e; simp only [if_true]; rw [h, show ((cc : Int) - 1) = ((cc - 1 : Nat) : Int) by omega]
  · simp only [if_neg e]
theorem drop_iw {xs : List IwR} {j : Nat} {x : IwR} (h : xs[j]? = some x) : xs.drop j = x :: xs.drop (j + 1) := by
  obtain ⟨hlt, e⟩ := List.getElem?_eq_some_iff.1 h
  rw [List.drop_eq_getElem_cons hlt, e]
theorem wrap_cc {n : Int} (h0 : -1 ≤ n) (h1 : n ≤ 1048577) : IntKind.i64.wrap n = n := IntWalk.i64_in _ ⟨by omega, by omega⟩
set_option linter.unusedSimpArgs false in
set_option maxRecDepth 20000 in
set_option maxHeartbeats 2000000 in
theorem implwo_any (a b : Option Addr) (len cap len2 cap2 : Nat) (xs gs : List IwR) (w : World) (h : IwRs w a len xs) (h2 : IwRs w b len2 gs) (hl : len ≤ 1048576) (hl2 : len2 ≤ 1048576) (hx : ∀ x ∈ xs, x.ok64) (hg : ∀ x ∈ gs, x.ok64) : Calls Try.prog 5 #[.slice a len cap, .slice b len2 cap2] w fun e w' => ∃ v, e = .returned v ∧ OwnIw w' w.heap.size v (woS xs gs) ∧ Below w.heap.size w w' := by
  have hm := h.2.1
  have hm2 := h2.2.1
  unfold maxLen at hm hm2
  obtain ⟨i0, hi, hz0', hz1', hz2'⟩ := info_parts Try.infoIw
  have hmk : (Instr.makeMap 36 none).run Try.prog w = .ok (.map (some w.heap.size)) (w.alloc (.map #[] 0)) := rfl
  have HO0 := hide (OwnsFn.made w Try.prog 35 RI ZI IwR.val IwR.fit)
  rw [show woS xs gs = woC (cnW gs) xs from (wo_same xs _ gs rfl).symm]
  have hgl := h2.1
  go_enter Try.func5, Try.ntmps5
  go_wp2
  clear hmk
  go_loopw [14] (fun iv wr => ∃ j : Nat, j ≤ len2 ∧ iv = .int .i64 j ∧ Hid (OwnsFn wr Try.prog 35 RI ZI w.heap.size j IwR.val IwR.fit (cntF (cnW (gs.take j)))) ∧ Below w.heap.size w wr) (fun iv _ => len2 - (intOf iv).toNat)
  case atStart => exact ⟨0, Nat.zero_le _, rfl, hide (unhide HO0), bel_one _ _⟩
  case round =>
    obtain ⟨j, hj, rfl, HO, hbw⟩ := hrel
    by_cases hlt : j < len2
    · obtain ⟨_, _, hy⟩ := h2
      obtain ⟨g, o, rfl, hr⟩ := hy.resolve_left (by omega)
      obtain ⟨x, hxk⟩ : ∃ x, gs[j]? = some x := ⟨_, List.getElem?_eq_getElem (by omega)⟩
      have HX := hide hxk
      have hxo : x.fit := (hg x (List.mem_of_getElem? hxk)).fit
      obtain ⟨c0, c1, c2, c3, c4⟩ := (hr j _ hxk).below hbw (hr.lt (by omega))
      have hO1 : OwnsFn (wr.alloc (.cells #[.int .i64 x.kd, .int .i64 x.tm, .int .i64 x.ke, .int .i64 x.va, .int .i64 x.nn] 35)).drew Try.prog 35 RI ZI w.heap.size j IwR.val IwR.fit (cntF (cnW (gs.take j))) := ((unhide HO).below (bel_one _ _)).drew
      clear hxk hr hy
      obtain ⟨v0, st, w1, ps, hen, hR0, hg1, hlk1, hst⟩ := hO1.entry lawIw Try.underlying36 (by unfold maxLen; omega) zeroI zeroD (fun q hq => keyIw_some q hq) IwR.inj x hxo
      obtain ⟨v1, ps1, hlk, hv1⟩ := hO1.look (Keyed.of_law lawIw) Try.underlying36 (zeroI _) zeroD (fun q hq => keyIw_some q hq) x hxo
      obtain ⟨c, rfl, hc, hwc⟩ := plainElem_int_inv Try.underlying3 hR0
      obtain ⟨c1, rfl, hc1, _⟩ := plainElem_int_inv Try.underlying3 hv1
      simp only [cntF, Prod.mk.injEq, DataW.lit.injEq, Lit.int.injEq, true_and] at hc hc1
      obtain ⟨rfl, _⟩ := hc
      obtain ⟨rfl, _⟩ := hc1
      clear hR0 hv1 hwc
      obtain ⟨cc, hcc⟩ : ∃ cc, cnW (gs.take j) x = cc := ⟨_, rfl⟩
      have HCC := hide hcc
      have hcl : cc ≤ 1048576 := by rw [← hcc]; exact Nat.le_trans (cnW_le _ _) (by rw [List.length_take]; omega)
      rw [hcc] at hen hlk hlk1
      clear hcc
      have hwr : IntKind.i64.wrap ((cc : Int) + 1) = (cc : Int) + 1 := wrap_cc (by omega) (by omega)
      obtain ⟨w2, hst2, hO2, hg2⟩ := hst (.int .i64 ((cc : Int) + 1)) _ _ (cnt_wf (by omega) (by omega))
      rw [cntF_up (unhide HCC)] at hO2
      have HO2 := hide hO2
      have hb2 : Below w.heap.size w w2 := Below.grown (bel_drew (bel_alloc hbw _)) hg2 (by have := hbw.size; simp; omega) (fun k hk => by cases hk; exact Nat.le_refl _)
      clear hst hO2 hO1 hg1 hg2 HO
      simp only [IwR.val, goInt] at hen hlk hlk1 hst2
      go_wp2_with fail
      refine wp_region_held_drew (S := (fun _ => True)) (by kernel_rfl) ?_ (fun hHeld => ?_)
      · (try dsimp only); (try trivial)
      refine wpAnyH_take (i := 0) (v := ?_) (by simp only [List.getElem?_toArray, List.getElem?_cons_zero, List.getElem?_cons_succ]; rfl) (by kernel_rfl) (by kernel_rfl) (by kernel_rfl) (by intro _ _ _ h; exact h) (Or.inl ⟨by rfl, ?_⟩) (by assumption) ?_
      rotate_left
      · (intro w9 hSw; (try dsimp only at hSw); go_simp <;> with_reducible rfl)
      try simp only [Act.put, List.setIfInBounds_toArray, List.set_cons_zero, List.set_cons_succ]
      refine wpAnyH_ready (rs := [1]) (by kernel_rfl) (by simp) ?_
      refine AllReadyH.cons (by simp only [List.getElem?_toArray, List.getElem?_cons_zero, List.getElem?_cons_succ]; rfl) (fun K hK => ?_) AllReadyH.nil
      go_simp
      refine hK.out _ _ ?_ (fun hHeld2 => ?_)
      · (try dsimp only); (try trivial)
      clear hK K hHeld
      have hHeld := hHeld2
      clear hHeld2
      try simp only [Act.put, List.setIfInBounds_toArray, List.set_cons_zero, List.set_cons_succ]
      refine wpAnyH_ready (rs := [2, 4]) (by kernel_rfl) (by simp) ?_
      refine AllReadyH.cons (by simp only [List.getElem?_toArray, List.getElem?_cons_zero, List.getElem?_cons_succ]; rfl) (fun K hK => ?_) ?_
      · go_simp
        refine hK.out _ _ ?_ (fun hHeld2 => ?_)
        · (try dsimp only); (try trivial)
        clear hK K hHeld
        have hHeld := hHeld2
        clear hHeld2
        try simp only [Act.put, List.setIfInBounds_toArray, List.set_cons_zero, List.set_cons_succ]
        refine wpAnyH_take (i := 3) (v := ?_) (by simp only [List.getElem?_toArray, List.getElem?_cons_zero, List.getElem?_cons_succ]; rfl) (by kernel_rfl) (by kernel_rfl) (by kernel_rfl) (by intro _ _ _ h; exact h) (Or.inl ⟨by rfl, ?_⟩) (by assumption) ?_
        rotate_left
        · (intro w9 hSw; (try dsimp only at hSw); go_simp <;> with_reducible rfl)
        try simp only [Act.put, List.setIfInBounds_toArray, List.set_cons_zero, List.set_cons_succ]
        refine wpAnyH_ready (rs := [4]) (by kernel_rfl) (by simp) ?_
        refine AllReadyH.cons (by simp only [List.getElem?_toArray, List.getElem?_cons_zero, List.getElem?_cons_succ]; rfl) (fun K hK => ?_) AllReadyH.nil
        go_simp
        refine hK.out _ _ ?_ (fun hHeld2 => ?_)
        · (try dsimp only); (try trivial)
        clear hK K hHeld
        have hHeld := hHeld2
        clear hHeld2
        try simp only [Act.put, List.setIfInBounds_toArray, List.set_cons_zero, List.set_cons_succ]
        refine wpAnyH_take (i := 5) (v := ?_) (by simp only [List.getElem?_toArray, List.getElem?_cons_zero, List.getElem?_cons_succ]; rfl) (by kernel_rfl) (by kernel_rfl) (by kernel_rfl) (by intro _ _ _ h; exact h) (Or.inl ⟨by rfl, ?_⟩) (by assumption) ?_
        rotate_left
        · (intro w9 hSw; (try dsimp only at hSw); go_simp <;> with_reducible rfl)
        try simp only [Act.put, List.setIfInBounds_toArray, List.set_cons_zero, List.set_cons_succ]
        refine wpAnyH_ready (rs := [6]) (by kernel_rfl) (by simp) ?_
        refine AllReadyH.cons (by simp only [List.getElem?_toArray, List.getElem?_cons_zero, List.getElem?_cons_succ]; rfl) (fun K hK => ?_) AllReadyH.nil
        go_simp
        refine hK.out _ _ ?_ (fun hHeld2 => ?_)
        · (try dsimp only); (try trivial)
        clear hK K hHeld
        have hHeld := hHeld2
        clear hHeld2
        try simp only [Act.put, List.setIfInBounds_toArray, List.set_cons_zero, List.set_cons_succ]
        refine wpAnyH_done (by kernel_rfl) ?_ _
        go_wp2
        refine ⟨⟨j + 1, by omega, by first | rfl | (simp; done), hide (by rw [take_iw (unhide HX), cnW_snoc]; exact unhide HO2), hb2⟩, ?_⟩
        simp [intOf]; omega
      refine AllReadyH.cons (by simp only [List.getElem?_toArray, List.getElem?_cons_zero, List.getElem?_cons_succ]; rfl) (fun K hK => ?_) AllReadyH.nil
      go_simp
      refine hK.out _ _ ?_ (fun hHeld2 => ?_)
      · (try dsimp only); (try trivial)
      clear hK K hHeld
      have hHeld := hHeld2
      clear hHeld2
      try simp only [Act.put, List.setIfInBounds_toArray, List.set_cons_zero, List.set_cons_succ]
      refine wpAnyH_take (i := 5) (v := ?_) (by simp only [List.getElem?_toArray, List.getElem?_cons_zero, List.getElem?_cons_succ]; rfl) (by kernel_rfl) (by kernel_rfl) (by kernel_rfl) (by intro _ _ _ h; exact h) (Or.inl ⟨by rfl, ?_⟩) (by assumption) ?_
      rotate_left
      · (intro w9 hSw; (try dsimp only at hSw); go_simp <;> with_reducible rfl)
      try simp only [Act.put, List.setIfInBounds_toArray, List.set_cons_zero, List.set_cons_succ]
      refine wpAnyH_ready (rs := [2]) (by kernel_rfl) (by simp) ?_
      refine AllReadyH.cons (by simp only [List.getElem?_toArray, List.getElem?_cons_zero, List.getElem?_cons_succ]; rfl) (fun K hK => ?_) AllReadyH.nil
      go_simp
      refine hK.out _ _ ?_ (fun hHeld2 => ?_)
      · (try dsimp only); (try trivial)
      clear hK K hHeld
      have hHeld := hHeld2
      clear hHeld2
      try simp only [Act.put, List.setIfInBounds_toArray, List.set_cons_zero, List.set_cons_succ]
      refine wpAnyH_take (i := 3) (v := ?_) (by simp only [List.getElem?_toArray, List.getElem?_cons_zero, List.getElem?_cons_succ]; rfl) (by kernel_rfl) (by kernel_rfl) (by kernel_rfl) (by intro _ _ _ h; exact h) (Or.inl ⟨by rfl, ?_⟩) (by assumption) ?_
      rotate_left
      · (intro w9 hSw; (try dsimp only at hSw); go_simp <;> with_reducible rfl)
      try simp only [Act.put, List.setIfInBounds_toArray, List.set_cons_zero, List.set_cons_succ]
      refine wpAnyH_ready (rs := [6]) (by kernel_rfl) (by simp) ?_
      refine AllReadyH.cons (by simp only [List.getElem?_toArray, List.getElem?_cons_zero, List.getElem?_cons_succ]; rfl) (fun K hK => ?_) AllReadyH.nil
      go_simp
      refine hK.out _ _ ?_ (fun hHeld2 => ?_)
      · (try dsimp only); (try trivial)
      clear hK K hHeld
      have hHeld := hHeld2
      clear hHeld2
      try simp only [Act.put, List.setIfInBounds_toArray, List.set_cons_zero, List.set_cons_succ]
      refine wpAnyH_done (by kernel_rfl) ?_ _
      go_wp2
      refine ⟨⟨j + 1, by omega, by first | rfl | (simp; done), hide (by rw [take_iw (unhide HX), cnW_snoc]; exact unhide HO2), hb2⟩, ?_⟩
      simp [intOf]; omega

    · obtain rfl : len2 = j := by omega
      clear h2
      have hOg : OwnsFn wr Try.prog 35 RI ZI w.heap.size len2 IwR.val IwR.fit (cntF (cnW gs)) := by have h9 := unhide HO; rw [List.take_of_length_le (by omega)] at h9; exact h9
      have HOg := hide hOg
      clear hOg HO
      have hxl := h.1
      go_wp2
      go_loopw [8, 27] (fun lv iv wr => ∃ (j : Nat) (c : IwR → Nat) (ys : List IwR), j ≤ len ∧ iv = .int .i64 j ∧ Hid (OwnsFn wr Try.prog 35 RI ZI w.heap.size (len2 + j) IwR.val IwR.fit (cntF c)) ∧ Hid (OwnIw wr (w.heap.size + 1) lv ys) ∧ Hid (∀ y, c y ≤ 1048576) ∧ Hid (ys ++ woC c (xs.drop j) = woC (cnW gs) xs) ∧ ys.length ≤ j ∧ Below w.heap.size w wr ∧ w.heap.size < wr.heap.size) (fun _ iv _ => len - (intOf iv).toNat)
      case atStart => exact ⟨0, cnW gs, [], Nat.zero_le _, rfl, HOg, hide (World.ownsRow_nil _ _ _ _), hide (fun y => Nat.le_trans (cnW_le gs y) (by omega)), hide rfl, Nat.le_refl _, hbw, (unhide HOg).lt⟩
      case round =>
        obtain ⟨j, c, ys, hj, rfl, HO, HL, HC, HQ, hyl, hbw, hws⟩ := hrel
        have hge := hide (ownIw_ge (unhide HL))
        by_cases hlt : j < len
        · obtain ⟨_, _, hy⟩ := h
          obtain ⟨g, o, rfl, hr⟩ := hy.resolve_left (by omega)
          obtain ⟨x, hxk⟩ : ∃ x, xs[j]? = some x := ⟨_, List.getElem?_eq_getElem (by omega)⟩
          have HX := hide hxk
          have hxo : x.fit := (hx x (List.mem_of_getElem? hxk)).fit
          obtain ⟨c0, c1, c2, c3, c4⟩ := (hr j _ hxk).below hbw (hr.lt (by omega))
          have hO0 : OwnsFn (wr.alloc (.cells #[.int .i64 x.kd, .int .i64 x.tm, .int .i64 x.ke, .int .i64 x.va, .int .i64 x.nn] 35)) Try.prog 35 RI ZI w.heap.size (len2 + j) IwR.val IwR.fit (cntF c) := (unhide HO).below (bel_one _ _)
          have hO1 : OwnsFn (wr.alloc (.cells #[.int .i64 x.kd, .int .i64 x.tm, .int .i64 x.ke, .int .i64 x.va, .int .i64 x.nn] 35)).drew Try.prog 35 RI ZI w.heap.size (len2 + j) IwR.val IwR.fit (cntF c) := hO0.drew
          clear hxk hr hy
          obtain ⟨v0, st, w1, ps, hen, hR0, hg1, hlk1, hst⟩ := hO1.entry lawIw Try.underlying36 (by unfold maxLen; omega) zeroI zeroD (fun q hq => keyIw_some q hq) IwR.inj x hxo
          obtain ⟨v1, ps1, hlk, hv1⟩ := hO1.look (Keyed.of_law lawIw) Try.underlying36 (zeroI _) zeroD (fun q hq => keyIw_some q hq) x hxo
          obtain ⟨c, rfl, hc, hwc⟩ := plainElem_int_inv Try.underlying3 hR0
          obtain ⟨c1, rfl, hc1, _⟩ := plainElem_int_inv Try.underlying3 hv1
          simp only [cntF, Prod.mk.injEq, DataW.lit.injEq, Lit.int.injEq, true_and] at hc hc1
          obtain ⟨rfl, _⟩ := hc
          obtain ⟨rfl, _⟩ := hc1
          clear hR0 hv1 hwc
          obtain ⟨cc, hcc⟩ : ∃ cc, c x = cc := ⟨_, rfl⟩
          have HCC := hide hcc
          have hcl : cc ≤ 1048576 := by rw [← hcc]; exact unhide HC x
          rw [hcc] at hen hlk hlk1
          clear hcc
          have hwr : IntKind.i64.wrap ((cc : Int) - 1) = (cc : Int) - 1 := wrap_cc (by omega) (by omega)
          obtain ⟨v2, ps2, hlk2, hv2⟩ := hO0.look (Keyed.of_law lawIw) Try.underlying36 (zeroI _) zeroD (fun q hq => keyIw_some q hq) x hxo
          obtain ⟨c9, rfl, hc9, _⟩ := plainElem_int_inv Try.underlying3 hv2
          simp only [cntF, Prod.mk.injEq, DataW.lit.injEq, Lit.int.injEq, true_and] at hc9
          obtain ⟨rfl, _⟩ := hc9
          rw [unhide HCC] at hlk2
          clear hv2
          by_cases h0 : 0 < cc
          · obtain ⟨w2, hst2, hO2, hg2⟩ := hst (.int .i64 ((cc : Int) - 1)) _ _ (cnt_wf (by omega) (by omega))
            rw [cntF_down (unhide HCC) h0] at hO2
            have HO2 := hide hO2
            have hb2 : Below w.heap.size w w2 := Below.grown (bel_drew (bel_alloc hbw _)) hg2 (by have := hbw.size; simp; omega) (fun k hk => by cases hk; exact Nat.le_refl _)
            have HL2 : Hid (OwnIw w2 (w.heap.size + 1) u8 ys) := hide (World.ownsRow.kept (w := (wr.alloc (.cells #[.int .i64 x.kd, .int .i64 x.tm, .int .i64 x.ke, .int .i64 x.va, .int .i64 x.nn] 35)).drew) (World.ownsRow.alloc (unhide HL) _) hg2 (Or.inr (fun e => by have := unhide hge _ e; omega)))
            have HQ2 : Hid (ys ++ woC (fun y => if y = x then c y - 1 else c y) (xs.drop (j + 1)) = woC (cnW gs) xs) := hide (by
              rw [← unhide HQ, drop_iw (unhide HX)]
              congr 1
              conv => rhs; unfold woC
              rw [if_pos (by rw [unhide HCC]; exact h0)])
            have HC2 : Hid (∀ y, (if y = x then c y - 1 else c y) ≤ 1048576) := hide (fun y => by have := unhide HC y; split <;> omega)
            have hz2 : w.heap.size < w2.heap.size := hO2.lt
            clear hst hO2 hO1 hO0 hg1 hg2 HO HL HQ HC
            simp only [IwR.val, goInt] at hen hlk hlk1 hst2 hlk2
            have h0' : (0 : Int) < (cc : Int) := by omega
            go_wp2_with fail
            refine wp_region_held_drew (S := (fun _ => True)) (by kernel_rfl) ?_ (fun hHeld => ?_)
            · (try dsimp only); (try trivial)
            refine wpAnyH_take (i := 0) (v := ?_) (by simp only [List.getElem?_toArray, List.getElem?_cons_zero, List.getElem?_cons_succ]; rfl) (by kernel_rfl) (by kernel_rfl) (by kernel_rfl) (by intro _ _ _ h; exact h) (Or.inl ⟨by rfl, ?_⟩) (by assumption) ?_
            rotate_left
            · (intro w9 hSw; (try dsimp only at hSw); go_simp <;> with_reducible rfl)
            try simp only [Act.put, List.setIfInBounds_toArray, List.set_cons_zero, List.set_cons_succ]
            refine wpAnyH_ready (rs := [1]) (by kernel_rfl) (by simp) ?_
            refine AllReadyH.cons (by simp only [List.getElem?_toArray, List.getElem?_cons_zero, List.getElem?_cons_succ]; rfl) (fun K hK => ?_) AllReadyH.nil
            go_simp
            refine hK.out _ _ ?_ (fun hHeld2 => ?_)
            · (try dsimp only); (try trivial)
            clear hK K hHeld
            have hHeld := hHeld2
            clear hHeld2
            try simp only [Act.put, List.setIfInBounds_toArray, List.set_cons_zero, List.set_cons_succ]
            refine wpAnyH_ready (rs := [2, 4]) (by kernel_rfl) (by simp) ?_
            refine AllReadyH.cons (by simp only [List.getElem?_toArray, List.getElem?_cons_zero, List.getElem?_cons_succ]; rfl) (fun K hK => ?_) ?_
            · go_simp
              refine hK.out _ _ ?_ (fun hHeld2 => ?_)
              · (try dsimp only); (try trivial)
              clear hK K hHeld
              have hHeld := hHeld2
              clear hHeld2
              try simp only [Act.put, List.setIfInBounds_toArray, List.set_cons_zero, List.set_cons_succ]
              refine wpAnyH_take (i := 3) (v := ?_) (by simp only [List.getElem?_toArray, List.getElem?_cons_zero, List.getElem?_cons_succ]; rfl) (by kernel_rfl) (by kernel_rfl) (by kernel_rfl) (by intro _ _ _ h; exact h) (Or.inl ⟨by rfl, ?_⟩) (by assumption) ?_
              rotate_left
              · (intro w9 hSw; (try dsimp only at hSw); go_simp <;> with_reducible rfl)
              try simp only [Act.put, List.setIfInBounds_toArray, List.set_cons_zero, List.set_cons_succ]
              refine wpAnyH_ready (rs := [4]) (by kernel_rfl) (by simp) ?_
              refine AllReadyH.cons (by simp only [List.getElem?_toArray, List.getElem?_cons_zero, List.getElem?_cons_succ]; rfl) (fun K hK => ?_) AllReadyH.nil
              go_simp
              refine hK.out _ _ ?_ (fun hHeld2 => ?_)
              · (try dsimp only); (try trivial)
              clear hK K hHeld
              have hHeld := hHeld2
              clear hHeld2
              try simp only [Act.put, List.setIfInBounds_toArray, List.set_cons_zero, List.set_cons_succ]
              refine wpAnyH_take (i := 5) (v := ?_) (by simp only [List.getElem?_toArray, List.getElem?_cons_zero, List.getElem?_cons_succ]; rfl) (by kernel_rfl) (by kernel_rfl) (by kernel_rfl) (by intro _ _ _ h; exact h) (Or.inl ⟨by rfl, ?_⟩) (by assumption) ?_
              rotate_left
              · (intro w9 hSw; (try dsimp only at hSw); go_simp <;> with_reducible rfl)
              try simp only [Act.put, List.setIfInBounds_toArray, List.set_cons_zero, List.set_cons_succ]
              refine wpAnyH_ready (rs := [6]) (by kernel_rfl) (by simp) ?_
              refine AllReadyH.cons (by simp only [List.getElem?_toArray, List.getElem?_cons_zero, List.getElem?_cons_succ]; rfl) (fun K hK => ?_) AllReadyH.nil
              go_simp
              refine hK.out _ _ ?_ (fun hHeld2 => ?_)
              · (try dsimp only); (try trivial)
              clear hK K hHeld
              have hHeld := hHeld2
              clear hHeld2
              try simp only [Act.put, List.setIfInBounds_toArray, List.set_cons_zero, List.set_cons_succ]
              refine wpAnyH_done (by kernel_rfl) ?_ _
              go_wp2
              refine ⟨⟨j + 1, _, ys, by omega, by first | rfl | (simp; done), HO2, HL2, HC2, HQ2, by omega, hb2, hz2⟩, ?_⟩
              simp [intOf]; omega
            refine AllReadyH.cons (by simp only [List.getElem?_toArray, List.getElem?_cons_zero, List.getElem?_cons_succ]; rfl) (fun K hK => ?_) AllReadyH.nil
            go_simp
            refine hK.out _ _ ?_ (fun hHeld2 => ?_)
            · (try dsimp only); (try trivial)
            clear hK K hHeld
            have hHeld := hHeld2
            clear hHeld2
            try simp only [Act.put, List.setIfInBounds_toArray, List.set_cons_zero, List.set_cons_succ]
            refine wpAnyH_take (i := 5) (v := ?_) (by simp only [List.getElem?_toArray, List.getElem?_cons_zero, List.getElem?_cons_succ]; rfl) (by kernel_rfl) (by kernel_rfl) (by kernel_rfl) (by intro _ _ _ h; exact h) (Or.inl ⟨by rfl, ?_⟩) (by assumption) ?_
            rotate_left
            · (intro w9 hSw; (try dsimp only at hSw); go_simp <;> with_reducible rfl)
            try simp only [Act.put, List.setIfInBounds_toArray, List.set_cons_zero, List.set_cons_succ]
            refine wpAnyH_ready (rs := [2]) (by kernel_rfl) (by simp) ?_
            refine AllReadyH.cons (by simp only [List.getElem?_toArray, List.getElem?_cons_zero, List.getElem?_cons_succ]; rfl) (fun K hK => ?_) AllReadyH.nil
            go_simp
            refine hK.out _ _ ?_ (fun hHeld2 => ?_)
            · (try dsimp only); (try trivial)
            clear hK K hHeld
            have hHeld := hHeld2
            clear hHeld2
            try simp only [Act.put, List.setIfInBounds_toArray, List.set_cons_zero, List.set_cons_succ]
            refine wpAnyH_take (i := 3) (v := ?_) (by simp only [List.getElem?_toArray, List.getElem?_cons_zero, List.getElem?_cons_succ]; rfl) (by kernel_rfl) (by kernel_rfl) (by kernel_rfl) (by intro _ _ _ h; exact h) (Or.inl ⟨by rfl, ?_⟩) (by assumption) ?_
            rotate_left
            · (intro w9 hSw; (try dsimp only at hSw); go_simp <;> with_reducible rfl)
            try simp only [Act.put, List.setIfInBounds_toArray, List.set_cons_zero, List.set_cons_succ]
            refine wpAnyH_ready (rs := [6]) (by kernel_rfl) (by simp) ?_
            refine AllReadyH.cons (by simp only [List.getElem?_toArray, List.getElem?_cons_zero, List.getElem?_cons_succ]; rfl) (fun K hK => ?_) AllReadyH.nil
            go_simp
            refine hK.out _ _ ?_ (fun hHeld2 => ?_)
            · (try dsimp only); (try trivial)
            clear hK K hHeld
            have hHeld := hHeld2
            clear hHeld2
            try simp only [Act.put, List.setIfInBounds_toArray, List.set_cons_zero, List.set_cons_succ]
            refine wpAnyH_done (by kernel_rfl) ?_ _
            go_wp2
            refine ⟨⟨j + 1, _, ys, by omega, by first | rfl | (simp; done), HO2, HL2, HC2, HQ2, by omega, hb2, hz2⟩, ?_⟩
            simp [intOf]; omega

          · have h0' : ¬ (0 : Int) < (cc : Int) := by omega
            simp only [IwR.val, goInt] at hlk2
            clear hst hen hlk hlk1 hO1 hO0 hg1
            have hlc : cc = 0 := by omega
            have HZ := hide hlc
            clear hlc
            go_wp2_with (at_builtin; go_loud (refine wpList_append_own _ rfl _ _ 23 rfl (w.heap.size + 1) 35 i0 _ 5 40 Try.underlying23 hi hz0' hz1' hz2' rfl (by decide) u8 _ _ rfl (World.ownsRow.alloc (World.ownsRow.alloc (unhide HL) _) _) ⟨wr.heap.size + 1, 0, none⟩ 1 1 [.int .i64 x.kd, .int .i64 x.tm, .int .i64 x.ke, .int .i64 x.va, .int .i64 x.nn] rfl rfl (cells_atIw _ x.kd x.tm x.ke x.va x.nn _ (by simp)) (by simp [Value.oneCell']) (by unfold maxLen; omega) (by omega) (by simp; omega) ?_); intro v' w1 hown' hgrow _)
            have hb1 : Below w.heap.size w w1 := (bel_alloc (bel_alloc hbw _) _).grown hgrow (by simp; omega) (fun k hk => by have := unhide hge k hk; omega)
            have HO2 : Hid (OwnsFn w1 Try.prog 35 RI ZI w.heap.size (len2 + (j + 1)) IwR.val IwR.fit (cntF c)) := hide (OwnsFn.more (OwnsFn.grown (((unhide HO).below (bel_one _ _)).below (bel_one _ _)) hgrow (fun e => by have := unhide hge _ e.symm; omega)) (by omega))
            have HQ2 : Hid ((ys ++ [x]) ++ woC c (xs.drop (j + 1)) = woC (cnW gs) xs) := hide (by
              rw [← unhide HQ, drop_iw (unhide HX)]
              conv => rhs; unfold woC
              rw [if_neg (by rw [unhide HCC, unhide HZ]; omega)]
              simp)
            go_roundw
            case rel => exact ⟨j + 1, c, ys ++ [x], by omega, by go_num, HO2, hide (ownIw_snoc hown'), HC, HQ2, by simp; omega, hb1, (unhide HO2).lt⟩
            case measure => simp [intOf]; omega
        · have HQ2 : Hid (ys = woC (cnW gs) xs) := hide (by rw [← unhide HQ, List.drop_of_length_le (by omega)]; simp [woC])
          go_wp2
          go_ret
          exact ⟨_, rfl, by rw [← unhide HQ2]; exact World.ownsRow.mono (unhide HL) (by omega), hbw⟩
end Go.Proofs.Ytlokeogoneoanaa
