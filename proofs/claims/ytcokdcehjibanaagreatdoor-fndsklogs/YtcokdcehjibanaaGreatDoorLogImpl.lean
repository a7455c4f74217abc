/- Proved here: what the program says of a log is what the specification says. -/
import Derived.Test.YtcokdcehjibanaaGreatDoorLogIter
namespace Go.Proofs.YtcokdcehjibanaaGreatDoor
open Go.RowKit Go.Shelf
set_option linter.unusedVariables false
attribute [local go_sem] Oper.semAt_some

theorem cell_lt {W : World} {b o : Nat} {v : Value} (h : W.cell? ⟨b, o, none⟩ = some v) : b < W.heap.size := by
  rcases Nat.lt_or_ge b W.heap.size with hl | hg
  · exact hl
  · simp [World.cell?, Array.getElem?_eq_none hg] at h
theorem keeps_bel {W W' : World} (h : Below W.heap.size W W') : KeepsOthers W W' := KeepsOthers.of_grownBy (bel_grown h) (fun _ _ e => by cases e)

/-- The mark behind items, if each may follow. -/
def stepM (x : It) (m : Int) : Option Int := if followB x.q x.t x.k x.v x.n m = true then some (behindI x.q x.t m) else none
def runM : List It → Int → Option Int
  | [], m => some m
  | x :: r, m => (stepM x m).bind (runM r)
theorem runM_append (p r : List It) (m : Int) : runM (p ++ r) m = (runM p m).bind (runM r) := by
  induction p generalizing m with
  | nil => rfl
  | cons x p ih =>
    show (stepM x m).bind (runM (p ++ r)) = ((stepM x m).bind (runM p)).bind (runM r)
    cases stepM x m with
    | none => rfl
    | some m' => exact ih m'
theorem runM_snoc (p : List It) (x : It) (m : Int) : runM (p ++ [x]) m = (runM p m).bind (stepM x) := by
  rw [runM_append]
  cases runM p m with
  | none => rfl
  | some m' =>
    show (stepM x m').bind (runM []) = stepM x m'
    cases stepM x m' <;> rfl
theorem runM_none {p xs : List It} (h : p <+: xs) (hn : runM p 0 = none) : runM xs 0 = none := by
  obtain ⟨r, rfl⟩ := h
  rw [runM_append, hn]; rfl
theorem stepM_go (x : It) (m : Int) (r : List It) (ih : ∀ m, logGo r m = (runM r m).isSome) : logGo (x :: r) m = ((stepM x m).bind (runM r)).isSome := by
  obtain ⟨q, t, k, v, n⟩ := x
  show (okItm q t k v n && !(q == 3) && (if q = 2 then decide (m < t) && logGo r t else logGo r m)) = _
  unfold stepM
  dsimp only
  by_cases h1 : q = 1
  · subst h1
    rw [okItm_1, show followB 1 t k v n m = okRec t k v n from rfl, show behindI 1 t m = m from rfl]
    cases okRec t k v n
    · rfl
    · simpa using ih m
  by_cases h2 : q = 2
  · subst h2
    rw [okItm_2, show followB 2 t k v n m = (okMark t k v n && decide (m < t)) from rfl]
    cases okMark t k v n
    · rfl
    · by_cases h4 : m < t
      · rw [show behindI 2 t m = t from hiI_d h4, decide_eq_true h4]
        simpa using ih t
      · rw [decide_eq_false h4]; rfl
  rw [if_neg h2, show followB q t k v n m = false from by unfold followB; rw [if_neg h1, if_neg h2]]
  by_cases h3 : q = 3
  · subst h3
    simp
  · rw [okItm_n h1 h2 h3]; rfl
theorem logGo_run (xs : List It) (m : Int) : logGo xs m = (runM xs m).isSome := by
  induction xs generalizing m with
  | nil => rfl
  | cons x r ih => exact stepM_go x m r ih

theorem okLog_short {xs : List It} (h : inB (xs.length : Int) 1 40 = false) : okLog xs = false := by unfold okLog; rw [h]; rfl
theorem okLog_last {xs : List It} {y : It} {n : Nat} (h : inB (xs.length : Int) 1 40 = true) (hl : xs.length = n + 1) (hy : xs[n]? = some y) : okLog xs = (y.endB && (runM xs 0).isSome) := by
  have hlast : xs.getLast? = some y := by rw [List.getLast?_eq_getElem?]; simpa [hl] using hy
  unfold okLog
  rw [hlast, h, logGo_run]; rfl

set_option maxRecDepth 100000 in
set_option maxHeartbeats 2000000 in
theorem impllog_any (a : Option Addr) (len cap : Nat) (xs : List It) (w : World) (h : Its w a len xs) : Calls Tryz.prog 18 #[.slice a len cap] w fun e w' => e = .returned (.bool (okLog xs)) ∧ Below w.heap.size w w' := by
  have hm := h.2.1
  have hxl := h.1
  unfold maxLen at hm
  by_cases h1 : (len : Int) < 1
  · have hq : Hid (okLog xs = false) := hide (okLog_short (inB_ff (by omega)))
    go_enter Tryz.func18, Tryz.ntmps18
    go_wp2
    refine bodyPost_ret (v := .bool false) (by simp [results, Tryz.results18, go_sem]) rfl ⟨ret_b (unhide hq).symm, ?_⟩
    exact (by repeat (first | exact Below.refl _ _ | exact bel_one _ _ | assumption | refine bel_alloc ?_ _ | refine bel_set ?_ (by first | (simp; done) | (simp; omega)) _ | refine bel_drew ?_ | refine bel_drewN ?_ _ | refine bel_trans ?_ (by assumption)))
  by_cases h2 : (40 : Int) < (len : Int)
  · have hq : Hid (okLog xs = false) := hide (okLog_short (inB_ff (by omega)))
    go_enter Tryz.func18, Tryz.ntmps18
    go_wp2
    refine bodyPost_ret (v := .bool false) (by simp [results, Tryz.results18, go_sem]) rfl ⟨ret_b (unhide hq).symm, ?_⟩
    exact (by repeat (first | exact Below.refl _ _ | exact bel_one _ _ | assumption | refine bel_alloc ?_ _ | refine bel_set ?_ (by first | (simp; done) | (simp; omega)) _ | refine bel_drew ?_ | refine bel_drewN ?_ _ | refine bel_trans ?_ (by assumption)))
  refine (callsIn_wide (n := 6)).1 ?_
  refine callsIn_of_wp_marks Tryz.func18 rfl trivial ?_ rfl
  simp only [Tryz.ntmps18, List.size_toArray, List.length_cons, List.length_nil, Nat.reduceAdd, Nat.reduceSub, Array.replicate_succ, Array.replicate_zero, List.push_toArray, List.append_toArray, List.nil_append, List.cons_append]
  obtain ⟨n, rfl⟩ : ∃ n, len = n + 1 := ⟨len - 1, by omega⟩
  obtain ⟨g, o, rfl, hr⟩ := h.2.2.resolve_left (by omega)
  obtain ⟨y, hy⟩ : ∃ y, xs[n]? = some y := ⟨_, List.getElem?_eq_getElem (by omega)⟩
  have hg : g < w.heap.size := hr.lt (by omega)
  have hlow : ∀ g' o', 0 < n + 1 → (some ⟨g, o, none⟩ : Option Addr) = some ⟨g', o', none⟩ → g' < w.heap.size := by
    intro g' o' _ e
    simp at e
    omega
  have HL := hide (okLog_last (inB_tt (by omega) (by omega)) hxl hy)
  obtain ⟨q, t, k, v, nn⟩ := y
  have hyc := (hr n _ hy).get
  gi_wp2_with (refine ⟨trivial, ?_⟩; gi_at_call 31; refine (callsIn_wide.2 (logParts_any _ _ _ _)).mono ?_; rintro e w' ⟨rfl, rfl⟩)
  have bR := Boxed.new w 4 (.bool false)
  have bM := Boxed.new (w.alloc (.cells #[.bool false] 4)) 3 (.int .i64 0)
  have bN := Boxed.new ((w.alloc (.cells #[.bool false] 4)).alloc (.cells #[.int .i64 0] 3)) 40 (.slice (some ⟨g, o, none⟩) (n + 1) cap)
  rw [World.size_alloc] at bM
  rw [World.size_alloc, World.size_alloc] at bN
  have hB0 : Below w.heap.size w (((w.alloc (.cells #[.bool false] 4)).alloc (.cells #[.int .i64 0] 3)).alloc (.cells #[.slice (some ⟨g, o, none⟩) (n + 1) cap] 40)) := bel_alloc (bel_alloc (bel_one _ _) _) _
  refine wpIn_rangeFunc_ownG rfl (by omega) (gf := 42) (lb := #[.pointer (some ⟨w.heap.size + 1 + 1, 0, none⟩)]) rfl trivial (enters_of Tryz.func42 (by kernel_rfl) rfl)
    (parts_stops _ (by omega) (w.heap.size + 1 + 1) w.heap.size (n + 1) cap _ xs _ (by simp) (by simp; omega) bN.cell (h.below hB0) hlow) belowK_t (belowK_b (by simp; omega)) (Below.refl _ _) (fun _ => rfl)
    (fun pre W => (∃ mk, runM pre 0 = some mk ∧ (W.cell? ⟨w.heap.size, 0, none⟩ = some (.bool false) ∧ W.frozen? ⟨w.heap.size, 0, none⟩ = false) ∧ W.cell? ⟨w.heap.size + 1, 0, none⟩ = some (.int .i64 mk) ∧ W.frozen? ⟨w.heap.size + 1, 0, none⟩ = false) ∧ Below w.heap.size w W)
    (fun c pre W => (c = .ret ∧ runM pre 0 = none ∧ W.cell? ⟨w.heap.size, 0, none⟩ = some (.bool false)) ∧ Below w.heap.size w W)
    (OwnFrom.and (Own.from (fun s A B row hs hg hr => by obtain ⟨mk, e1, ⟨e2, e3⟩, e4, e5⟩ := hs; exact ⟨mk, e1, ⟨cell_kept e2 hg hr, (frozen_kept e2 hg hr).trans e3⟩, cell_kept e4 hg hr, (frozen_kept e4 hg hr).trans e5⟩) _) (ownFrom_below (Nat.le_refl _) (by simp; omega)))
    (fun c => OwnFrom.and (Own.from (fun s A B row hs hg hr => ⟨hs.1, hs.2.1, cell_kept hs.2.2 hg hr⟩) _) (ownFrom_below (Nat.le_refl _) (by simp; omega)))
    ⟨⟨0, rfl, ⟨((bR.alloc _).alloc _).cell, ((bR.alloc _).alloc _).frozen⟩, (bM.alloc _).cell, (bM.alloc _).frozen⟩, hB0⟩
    (fun x => { tmps := #[.slice (some ⟨g, o, none⟩) (n + 1) cap, undef, .pointer (some ⟨w.heap.size, 0, none⟩), .pointer (some ⟨w.heap.size + 1, 0, none⟩), partV x.q x.t x.k x.v x.n, .slice (some ⟨g, o, none⟩) (n + 1) cap, .int .i64 ((n : Int) + 1), .bool (decide ((n : Int) + 1 < 1)), .bool (decide ((n : Int) + 1 < 1)), .slice (some ⟨g, o, none⟩) (n + 1) cap, .int .i64 ((n : Int) + 1), .bool (decide (40 < (n : Int) + 1)), .bool (decide ((n : Int) + 1 < 1) || decide (40 < (n : Int) + 1)), .slice (some ⟨g, o, none⟩) (n + 1) cap, .func (.func 42) #[] #[.pointer (some ⟨w.heap.size + 1 + 1, 0, none⟩)], partV x.q x.t x.k x.v x.n, undef, undef, undef, undef, undef, undef, undef, undef, undef, undef, undef, undef, undef, undef, undef], defers := [] }) ?assign ?body ?done ?stop
  case assign =>
    intro l x W K hK
    gi_wp2
    exact hK
  case body =>
    rintro l pre x W ⟨⟨mk, hrun, ⟨hcr, hfr⟩, hcm, hfm⟩, hB⟩ _
    have hz0 := cell_lt hcr
    have hz1 := cell_lt hcm
    have hst := hide (runM_snoc pre x 0)
    have hRun := hide hrun
    clear hrun
    cases hf : followB x.q x.t x.k x.v x.n mk
    · have hn := hide (show runM (pre ++ [x]) 0 = none by rw [unhide hst, unhide hRun]; show stepM x mk = none; unfold stepM; rw [hf]; rfl)
      gi_wp2_with (first
        | (refine ⟨trivial, ?_⟩; gi_at_call 32; refine (CallsIn.inRound l (callsIn_wide.2 (follow_any _ _ _ _ _ _ _))).mono ?_; rintro e w1 ⟨rfl, hb1⟩; obtain ⟨hc1, hf1, hs1⟩ := bcell hb1))
      exact ⟨((keeps_bel hb1).trans (KeepsOthers.setCell _ _ _)).from _, ⟨rfl, unhide hn, World.cell?_setCell_same' _ _ _ (by rw [hc1 _ _ hz0, hcr]; rfl)⟩, (hB.trans (hb1.mono hB.size)).setCell (p := ⟨w.heap.size, 0, none⟩) (Nat.le_refl _) _⟩
    · have hn := hide (show runM (pre ++ [x]) 0 = some (behindI x.q x.t mk) by rw [unhide hst, unhide hRun]; show stepM x mk = _; unfold stepM; rw [hf]; rfl)
      gi_wp2_with (first
        | (refine ⟨trivial, ?_⟩; gi_at_call 32; refine (CallsIn.inRound l (callsIn_wide.2 (follow_any _ _ _ _ _ _ _))).mono ?_; rintro e w1 ⟨rfl, hb1⟩; obtain ⟨hc1, hf1, hs1⟩ := bcell hb1)
        | (refine ⟨trivial, ?_⟩; gi_at_call 33; refine (CallsIn.inRound l (callsIn_wide.2 (behind_any _ _ _ _ _ _ _))).mono ?_; rintro e w2 ⟨rfl, hb2⟩; obtain ⟨hc2, hf2, hs2⟩ := bcell hb2))
      have hb3 := bel_trans hb1 hb2
      obtain ⟨hc3, hf3, _⟩ := bcell hb3
      refine ⟨((keeps_bel hb3).trans (KeepsOthers.setCell _ _ _)).from _, (hb3.mono hB.size).setCell (p := ⟨w.heap.size + 1, 0, none⟩) (by simp) _, ⟨_, unhide hn, ⟨?_, ?_⟩, World.cell?_setCell_same' _ _ _ (by rw [hc3 _ _ hz1, hcm]; rfl), ?_⟩, (hB.trans (hb3.mono hB.size)).setCell (p := ⟨w.heap.size + 1, 0, none⟩) (by simp) _⟩
      · rw [cell_set_ne (by simp), hc3 _ _ hz0]; exact hcr
      · rw [World.frozen?_setCell, hf3 _ _ hz0]; exact hfr
      · rw [World.frozen?_setCell, hf3 _ _ hz1]; exact hfm
  case done =>
    rintro D ys W hD hys ⟨⟨mk, hrun, ⟨hcr, hfr⟩, hcm, hfm⟩, hB⟩ hK
    obtain rfl := hys.symm
    obtain ⟨c0, c1, c2, c3, c4⟩ := ((hr n _ hy).below hB hg).get
    clear hyc
    by_cases e0 : q = 2
    case neg =>
      have hq : Hid (okLog xs = false) := hide (by rw [unhide HL, hrun]; simp [It.endB, e0])
      gi_wp2
      have hK' := (KeepsOthers.setCell W ⟨w.heap.size, 0, none⟩ (.bool false)).same D _ hK rfl
      refine ⟨by simp, .inl ⟨_, _, rfl, run_takeDeferred hK', ?_⟩⟩
      have hc5 := cell_kept (World.cell?_setCell_same' W ⟨w.heap.size, 0, none⟩ (.bool false) (by rw [hcr]; rfl)) (grownBy_putObj' _ D (.deferred none)) (fun r e => by cases e; exact ⟨_, hK', rfl⟩)
      refine ⟨.bool false, ?_, ret_b (unhide hq).symm, (hB.setCell (p := ⟨w.heap.size, 0, none⟩) (Nat.le_refl _) _).trans (belowK_b (w := w) (Nat.le_refl _) _ D _ _ (by simp at hD; omega) hK' rfl rfl)⟩
      simp [results, Tryz.f18, go_sem, hc5]
    by_cases e1 : t = 1000
    case neg =>
      have hq : Hid (okLog xs = false) := hide (by rw [unhide HL, hrun]; simp [It.endB, e0, e1])
      gi_wp2
      have hK' := (KeepsOthers.setCell W ⟨w.heap.size, 0, none⟩ (.bool false)).same D _ hK rfl
      refine ⟨by simp, .inl ⟨_, _, rfl, run_takeDeferred hK', ?_⟩⟩
      have hc5 := cell_kept (World.cell?_setCell_same' W ⟨w.heap.size, 0, none⟩ (.bool false) (by rw [hcr]; rfl)) (grownBy_putObj' _ D (.deferred none)) (fun r e => by cases e; exact ⟨_, hK', rfl⟩)
      refine ⟨.bool false, ?_, ret_b (unhide hq).symm, (hB.setCell (p := ⟨w.heap.size, 0, none⟩) (Nat.le_refl _) _).trans (belowK_b (w := w) (Nat.le_refl _) _ D _ _ (by simp at hD; omega) hK' rfl rfl)⟩
      simp [results, Tryz.f18, go_sem, hc5]
    by_cases e2 : k = 0
    case neg =>
      have hq : Hid (okLog xs = false) := hide (by rw [unhide HL, hrun]; simp [It.endB, e0, e1, e2])
      gi_wp2
      have hK' := (KeepsOthers.setCell W ⟨w.heap.size, 0, none⟩ (.bool false)).same D _ hK rfl
      refine ⟨by simp, .inl ⟨_, _, rfl, run_takeDeferred hK', ?_⟩⟩
      have hc5 := cell_kept (World.cell?_setCell_same' W ⟨w.heap.size, 0, none⟩ (.bool false) (by rw [hcr]; rfl)) (grownBy_putObj' _ D (.deferred none)) (fun r e => by cases e; exact ⟨_, hK', rfl⟩)
      refine ⟨.bool false, ?_, ret_b (unhide hq).symm, (hB.setCell (p := ⟨w.heap.size, 0, none⟩) (Nat.le_refl _) _).trans (belowK_b (w := w) (Nat.le_refl _) _ D _ _ (by simp at hD; omega) hK' rfl rfl)⟩
      simp [results, Tryz.f18, go_sem, hc5]
    by_cases e3 : v = 0
    case neg =>
      have hq : Hid (okLog xs = false) := hide (by rw [unhide HL, hrun]; simp [It.endB, e0, e1, e2, e3])
      gi_wp2
      have hK' := (KeepsOthers.setCell W ⟨w.heap.size, 0, none⟩ (.bool false)).same D _ hK rfl
      refine ⟨by simp, .inl ⟨_, _, rfl, run_takeDeferred hK', ?_⟩⟩
      have hc5 := cell_kept (World.cell?_setCell_same' W ⟨w.heap.size, 0, none⟩ (.bool false) (by rw [hcr]; rfl)) (grownBy_putObj' _ D (.deferred none)) (fun r e => by cases e; exact ⟨_, hK', rfl⟩)
      refine ⟨.bool false, ?_, ret_b (unhide hq).symm, (hB.setCell (p := ⟨w.heap.size, 0, none⟩) (Nat.le_refl _) _).trans (belowK_b (w := w) (Nat.le_refl _) _ D _ _ (by simp at hD; omega) hK' rfl rfl)⟩
      simp [results, Tryz.f18, go_sem, hc5]
    by_cases e4 : nn = 0
    case neg =>
      have hq : Hid (okLog xs = false) := hide (by rw [unhide HL, hrun]; simp [It.endB, e0, e1, e2, e3, e4])
      gi_wp2
      have hK' := (KeepsOthers.setCell W ⟨w.heap.size, 0, none⟩ (.bool false)).same D _ hK rfl
      refine ⟨by simp, .inl ⟨_, _, rfl, run_takeDeferred hK', ?_⟩⟩
      have hc5 := cell_kept (World.cell?_setCell_same' W ⟨w.heap.size, 0, none⟩ (.bool false) (by rw [hcr]; rfl)) (grownBy_putObj' _ D (.deferred none)) (fun r e => by cases e; exact ⟨_, hK', rfl⟩)
      refine ⟨.bool false, ?_, ret_b (unhide hq).symm, (hB.setCell (p := ⟨w.heap.size, 0, none⟩) (Nat.le_refl _) _).trans (belowK_b (w := w) (Nat.le_refl _) _ D _ _ (by simp at hD; omega) hK' rfl rfl)⟩
      simp [results, Tryz.f18, go_sem, hc5]
    have hq : Hid (okLog xs = true) := hide (by rw [unhide HL, hrun]; simp [It.endB, e0, e1, e2, e3, e4])
    gi_wp2
    have hK' := (KeepsOthers.setCell W ⟨w.heap.size, 0, none⟩ (.bool true)).same D _ hK rfl
    refine ⟨by simp, .inl ⟨_, _, rfl, run_takeDeferred hK', ?_⟩⟩
    have hc5 := cell_kept (World.cell?_setCell_same' W ⟨w.heap.size, 0, none⟩ (.bool true) (by rw [hcr]; rfl)) (grownBy_putObj' _ D (.deferred none)) (fun r e => by cases e; exact ⟨_, hK', rfl⟩)
    refine ⟨.bool true, ?_, ret_b (unhide hq).symm, (hB.setCell (p := ⟨w.heap.size, 0, none⟩) (Nat.le_refl _) _).trans (belowK_b (w := w) (Nat.le_refl _) _ D _ _ (by simp at hD; omega) hK' rfl rfl)⟩
    simp [results, Tryz.f18, go_sem, hc5]
  case stop =>
    rintro D c pre W hD hpre ⟨⟨rfl, hrun, hcr⟩, hB⟩ hK
    have hq : Hid (okLog xs = false) := hide (by rw [unhide HL, runM_none hpre hrun]; simp)
    gi_wp2
    refine ⟨by simp, .inl ⟨_, _, rfl, run_takeDeferred hK, ?_⟩⟩
    have hc5 := cell_kept hcr (grownBy_putObj' _ D (.deferred none)) (fun r e => by cases e; exact ⟨_, hK, rfl⟩)
    refine ⟨.bool false, ?_, ret_b (unhide hq).symm, hB.trans (belowK_b (w := w) (Nat.le_refl _) W D _ _ (by simp at hD; omega) hK rfl rfl)⟩
    simp [results, Tryz.f18, go_sem, hc5]
end Go.Proofs.YtcokdcehjibanaaGreatDoor
