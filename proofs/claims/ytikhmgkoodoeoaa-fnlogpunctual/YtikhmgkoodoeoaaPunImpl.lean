/- Proved here: what the program says of a log's being punctual is what the specification says. -/
import Derived.Test.YtikhmgkoodoeoaaPunSpec
namespace Go.Proofs.Ytikhmgkoodoeoaa
open Go.RowKit Go.Shelf
set_option linter.unusedVariables false
attribute [local go_sem] Oper.semAt_some

set_option maxRecDepth 100000 in
set_option maxHeartbeats 2000000 in
theorem implpun_any (a : Option Addr) (len cap : Nat) (late : Int) (xs : List It) (w : World) (h : Its w a len xs) : Calls Try.prog 6 #[.slice a len cap, .int .i64 late] w fun e w' => e = .returned (.bool (punB late xs)) ∧ Below w.heap.size w w' := by
  have hm := h.2.1
  have hxl := h.1
  unfold maxLen at hm
  cases hin : inB late 0 1000
  · have hq : Hid (punB late xs = false) := hide (by unfold punB; rw [hin]; rfl)
    go_enter Try.func6, Try.ntmps6
    go_wp2_with (go_at_call 19; refine (within_any _ _ _ _).mono ?_; rintro e w' ⟨rfl, hw⟩; obtain rfl := hw.symm)
    refine bodyPost_ret (v := .bool false) (by simp [results, Try.results6, go_sem]) rfl ⟨ret_b (unhide hq).symm, ?_⟩
    exact (by repeat (first | exact Below.refl _ _ | exact bel_one _ _ | assumption | refine bel_alloc ?_ _ | refine bel_set ?_ (by first | (simp; done) | (simp; omega)) _ | refine bel_drew ?_ | refine bel_drewN ?_ _ | refine bel_trans ?_ (by assumption)))
  have HL : Hid (punB late xs = (runP late xs 0).isSome) := hide (by unfold punB; rw [hin]; rfl)
  have hlow : ∀ g' o', 0 < len → a = some ⟨g', o', none⟩ → g' < w.heap.size := by
    intro g' o' hp e
    obtain ⟨g, o, ha, hr⟩ := h.2.2.resolve_left (by omega)
    have hg := hr.lt (by omega)
    rw [ha] at e
    simp at e
    omega
  have hin1 := hide hin
  refine (callsIn_wide (n := 6)).1 ?_
  refine callsIn_of_wp_marks Try.func6 rfl trivial ?_ rfl
  simp only [Try.ntmps6, List.size_toArray, List.length_cons, List.length_nil, Nat.reduceAdd, Nat.reduceSub, Array.replicate_succ, Array.replicate_zero, List.push_toArray, List.append_toArray, List.nil_append, List.cons_append]
  gi_wp2_with (first
    | (refine ⟨trivial, ?_⟩; gi_at_call 19; refine (callsIn_wide.2 (within_any _ _ _ _)).mono ?_; rintro e w' ⟨rfl, hw⟩; obtain rfl := hw.symm)
    | (refine ⟨trivial, ?_⟩; gi_at_call 20; refine (callsIn_wide.2 (logParts_any _ _ _ _)).mono ?_; rintro e w' ⟨rfl, rfl⟩))
  have bL := Boxed.new w 3 (.int .i64 late)
  have bR := Boxed.new (w.alloc (.cells #[.int .i64 late] 3)) 4 (.bool false)
  have bM := Boxed.new ((w.alloc (.cells #[.int .i64 late] 3)).alloc (.cells #[.bool false] 4)) 3 (.int .i64 0)
  have bN := Boxed.new (((w.alloc (.cells #[.int .i64 late] 3)).alloc (.cells #[.bool false] 4)).alloc (.cells #[.int .i64 0] 3)) 23 (.slice a len cap)
  rw [World.size_alloc] at bR
  rw [World.size_alloc, World.size_alloc] at bM
  rw [World.size_alloc, World.size_alloc, World.size_alloc] at bN
  have hB0 : Below w.heap.size w ((((w.alloc (.cells #[.int .i64 late] 3)).alloc (.cells #[.bool false] 4)).alloc (.cells #[.int .i64 0] 3)).alloc (.cells #[.slice a len cap] 23)) := bel_alloc (bel_alloc (bel_alloc (bel_one _ _) _) _) _
  refine wpIn_rangeFunc_ownG rfl (by omega) (gf := 32) (lb := #[.pointer (some ⟨w.heap.size + 1 + 1 + 1, 0, none⟩)]) rfl trivial (enters_of Try.func32 (by kernel_rfl) rfl)
    (parts_stops _ (by omega) (w.heap.size + 1 + 1 + 1) w.heap.size len cap _ xs _ (by simp) (by simp; omega) bN.cell (h.below hB0) hlow) belowK_t (belowK_b (by simp; omega)) (Below.refl _ _) (fun _ => rfl)
    (fun pre W => (∃ mk, runP late pre 0 = some mk ∧ W.cell? ⟨w.heap.size, 0, none⟩ = some (.int .i64 late) ∧ (W.cell? ⟨w.heap.size + 1, 0, none⟩ = some (.bool false) ∧ W.frozen? ⟨w.heap.size + 1, 0, none⟩ = false) ∧ W.cell? ⟨w.heap.size + 1 + 1, 0, none⟩ = some (.int .i64 mk) ∧ W.frozen? ⟨w.heap.size + 1 + 1, 0, none⟩ = false) ∧ Below w.heap.size w W)
    (fun c pre W => (c = .ret ∧ runP late pre 0 = none ∧ W.cell? ⟨w.heap.size + 1, 0, none⟩ = some (.bool false)) ∧ Below w.heap.size w W)
    (OwnFrom.and (Own.from (fun s A B row hs hg hr => by obtain ⟨mk, e1, e0, ⟨e2, e3⟩, e4, e5⟩ := hs; exact ⟨mk, e1, cell_kept e0 hg hr, ⟨cell_kept e2 hg hr, (frozen_kept e2 hg hr).trans e3⟩, cell_kept e4 hg hr, (frozen_kept e4 hg hr).trans e5⟩) _) (ownFrom_below (Nat.le_refl _) (by simp; omega)))
    (fun c => OwnFrom.and (Own.from (fun s A B row hs hg hr => ⟨hs.1, hs.2.1, cell_kept hs.2.2 hg hr⟩) _) (ownFrom_below (Nat.le_refl _) (by simp; omega)))
    ⟨⟨0, rfl, (((bL.alloc _).alloc _).alloc _).cell, ⟨((bR.alloc _).alloc _).cell, ((bR.alloc _).alloc _).frozen⟩, (bM.alloc _).cell, (bM.alloc _).frozen⟩, hB0⟩
    (fun x => { tmps := #[.slice a len cap, .int .i64 late, undef, .pointer (some ⟨w.heap.size, 0, none⟩), .pointer (some ⟨w.heap.size + 1, 0, none⟩), .pointer (some ⟨w.heap.size + 1 + 1, 0, none⟩), partV x.q x.t x.k x.v x.n, undef, undef, .int .i64 late, .bool true, .bool false, .slice a len cap, .func (.func 32) #[] #[.pointer (some ⟨w.heap.size + 1 + 1 + 1, 0, none⟩)], partV x.q x.t x.k x.v x.n, undef, undef, undef, undef, undef, undef, undef, undef, undef, undef, undef, undef, undef, undef, undef, undef, undef], defers := [] }) ?assign ?body ?done ?stop
  case assign =>
    intro l x W K hK
    gi_wp2
    exact hK
  case body =>
    rintro l pre x W ⟨⟨mk, hrun, hcl, ⟨hcr, hfr⟩, hcm, hfm⟩, hB⟩ _
    have hz0 := cell_lt hcl
    have hz1 := cell_lt hcr
    have hz2 := cell_lt hcm
    have hst := hide (runP_snoc late pre x 0)
    have hRun := hide hrun
    clear hrun h hlow hB0 bL bR bM bN
    obtain ⟨q, t, k, v, n⟩ := x
    dsimp only
    by_cases h1 : q = 1
    · by_cases h2 : t < wrap64 (mk - late)
      · have hn := hide (show runP late (pre ++ [⟨q, t, k, v, n⟩]) 0 = none by rw [unhide hst, unhide hRun]; exact stepP_late h1 h2)
        subst h1
        have hr1 := recIt_1 t k v n
        gi_wp2_with (first
          | (refine ⟨trivial, ?_⟩; gi_at_call 21; refine (CallsIn.inRound l (callsIn_wide.2 (record_any _ _ _ _ _ _))).mono ?_; rintro e w1 ⟨rfl, hb1⟩; obtain ⟨hc1, hf1, hs1⟩ := bcell hb1; have hy0 : w.heap.size < w1.heap.size := Nat.lt_of_lt_of_le hz0 hb1.size; have hy1 : w.heap.size + 1 < w1.heap.size := Nat.lt_of_lt_of_le hz1 hb1.size; have hy2 : w.heap.size + 1 + 1 < w1.heap.size := Nat.lt_of_lt_of_le hz2 hb1.size)
          | (refine ⟨trivial, ?_⟩; gi_at_call 22; refine (CallsIn.inRound l (callsIn_wide.2 (behind_any _ _ _ _ _ _ _))).mono ?_; rintro e w2 ⟨rfl, hb2⟩; obtain ⟨hc2, hf2, hs2⟩ := bcell hb2))
        have hcs : (w1.setCell ⟨w.heap.size + 1, 0, none⟩ (.bool false)).cell? ⟨w.heap.size + 1, 0, none⟩ = some (.bool false) := World.cell?_setCell_same' _ _ _ (by rw [hc1 _ _ hz1, hcr]; rfl)
        exact ⟨(((keeps_bel hb1).trans (KeepsOthers.setCell _ _ _)).trans (KeepsOthers.alloc _ _)).from _, ⟨rfl, unhide hn, ((bcell (bel_one _ _)).1 _ _ (cell_lt hcs)).trans hcs⟩, bel_alloc ((hB.trans (hb1.mono hB.size)).setCell (p := ⟨w.heap.size + 1, 0, none⟩) (by simp) _) _⟩
      · have hn := hide (show runP late (pre ++ [⟨q, t, k, v, n⟩]) 0 = some (behindI 1 t mk) by rw [unhide hst, unhide hRun]; exact stepP_rec h1 h2)
        subst h1
        have hr1 := recIt_1 t k v n
        gi_wp2_with (first
          | (refine ⟨trivial, ?_⟩; gi_at_call 21; refine (CallsIn.inRound l (callsIn_wide.2 (record_any _ _ _ _ _ _))).mono ?_; rintro e w1 ⟨rfl, hb1⟩; obtain ⟨hc1, hf1, hs1⟩ := bcell hb1; have hy0 : w.heap.size < w1.heap.size := Nat.lt_of_lt_of_le hz0 hb1.size; have hy1 : w.heap.size + 1 < w1.heap.size := Nat.lt_of_lt_of_le hz1 hb1.size; have hy2 : w.heap.size + 1 + 1 < w1.heap.size := Nat.lt_of_lt_of_le hz2 hb1.size)
          | (refine ⟨trivial, ?_⟩; gi_at_call 22; refine (CallsIn.inRound l (callsIn_wide.2 (behind_any _ _ _ _ _ _ _))).mono ?_; rintro e w2 ⟨rfl, hb2⟩; obtain ⟨hc2, hf2, hs2⟩ := bcell hb2))
        have hb3 := bel_trans (bel_alloc hb1 _) hb2
        obtain ⟨hc3, hf3, _⟩ := bcell hb3
        refine ⟨((keeps_bel hb3).trans (KeepsOthers.setCell _ _ _)).from _, (hb3.mono hB.size).setCell (p := ⟨w.heap.size + 1 + 1, 0, none⟩) (by simp; omega) _, ⟨_, unhide hn, ?_, ⟨?_, ?_⟩, World.cell?_setCell_same' _ _ _ (by rw [hc3 _ _ hz2, hcm]; rfl), ?_⟩, (hB.trans (hb3.mono hB.size)).setCell (p := ⟨w.heap.size + 1 + 1, 0, none⟩) (by simp; omega) _⟩
        · rw [cell_set_ne (by simp; omega), hc3 _ _ hz0]; exact hcl
        · rw [cell_set_ne (by simp), hc3 _ _ hz1]; exact hcr
        · rw [World.frozen?_setCell, hf3 _ _ hz1]; exact hfr
        · rw [World.frozen?_setCell, hf3 _ _ hz2]; exact hfm
    · have hn := hide (show runP late (pre ++ [⟨q, t, k, v, n⟩]) 0 = some (behindI q t mk) by rw [unhide hst, unhide hRun]; exact stepP_other h1)
      have hr1 := recIt_n h1 t k v n
      have g1 : (q == 1) = false := by simpa using h1
      clear h1
      gi_wp2_with (first
        | (refine ⟨trivial, ?_⟩; gi_at_call 21; refine (CallsIn.inRound l (callsIn_wide.2 (record_any _ _ _ _ _ _))).mono ?_; rintro e w1 ⟨rfl, hb1⟩; obtain ⟨hc1, hf1, hs1⟩ := bcell hb1; have hy0 : w.heap.size < w1.heap.size := Nat.lt_of_lt_of_le hz0 hb1.size; have hy1 : w.heap.size + 1 < w1.heap.size := Nat.lt_of_lt_of_le hz1 hb1.size; have hy2 : w.heap.size + 1 + 1 < w1.heap.size := Nat.lt_of_lt_of_le hz2 hb1.size)
        | (refine ⟨trivial, ?_⟩; gi_at_call 22; refine (CallsIn.inRound l (callsIn_wide.2 (behind_any _ _ _ _ _ _ _))).mono ?_; rintro e w2 ⟨rfl, hb2⟩; obtain ⟨hc2, hf2, hs2⟩ := bcell hb2))
      have hb3 := bel_trans (bel_alloc hb1 _) hb2
      obtain ⟨hc3, hf3, _⟩ := bcell hb3
      refine ⟨((keeps_bel hb3).trans (KeepsOthers.setCell _ _ _)).from _, (hb3.mono hB.size).setCell (p := ⟨w.heap.size + 1 + 1, 0, none⟩) (by simp; omega) _, ⟨_, unhide hn, ?_, ⟨?_, ?_⟩, World.cell?_setCell_same' _ _ _ (by rw [hc3 _ _ hz2, hcm]; rfl), ?_⟩, (hB.trans (hb3.mono hB.size)).setCell (p := ⟨w.heap.size + 1 + 1, 0, none⟩) (by simp; omega) _⟩
      · rw [cell_set_ne (by simp; omega), hc3 _ _ hz0]; exact hcl
      · rw [cell_set_ne (by simp), hc3 _ _ hz1]; exact hcr
      · rw [World.frozen?_setCell, hf3 _ _ hz1]; exact hfr
      · rw [World.frozen?_setCell, hf3 _ _ hz2]; exact hfm
  case done =>
    rintro D ys W hD hys ⟨⟨mk, hrun, hcl, ⟨hcr, hfr⟩, hcm, hfm⟩, hB⟩ hK
    obtain rfl := hys.symm
    have hq : Hid (punB late xs = true) := hide (by rw [unhide HL, hrun]; rfl)
    gi_wp2
    have hK' := (KeepsOthers.setCell W ⟨w.heap.size + 1, 0, none⟩ (.bool true)).same D _ hK rfl
    refine ⟨by simp, .inl ⟨_, _, rfl, run_takeDeferred hK', ?_⟩⟩
    have hc5 := cell_kept (World.cell?_setCell_same' W ⟨w.heap.size + 1, 0, none⟩ (.bool true) (by rw [hcr]; rfl)) (grownBy_putObj' _ D (.deferred none)) (fun r e => by cases e; exact ⟨_, hK', rfl⟩)
    refine ⟨.bool true, ?_, ret_b (unhide hq).symm, (hB.setCell (p := ⟨w.heap.size + 1, 0, none⟩) (by simp) _).trans (belowK_b (w := w) (Nat.le_refl _) _ D _ _ (by simp at hD; omega) hK' rfl rfl)⟩
    simp [results, Try.f6, go_sem, hc5]
  case stop =>
    rintro D c pre W hD hpre ⟨⟨rfl, hrun, hcr⟩, hB⟩ hK
    have hq : Hid (punB late xs = false) := hide (by rw [unhide HL, runP_none hpre hrun]; rfl)
    gi_wp2
    refine ⟨by simp, .inl ⟨_, _, rfl, run_takeDeferred hK, ?_⟩⟩
    have hc5 := cell_kept hcr (grownBy_putObj' _ D (.deferred none)) (fun r e => by cases e; exact ⟨_, hK, rfl⟩)
    refine ⟨.bool false, ?_, ret_b (unhide hq).symm, hB.trans (belowK_b (w := w) (Nat.le_refl _) W D _ _ (by simp at hD; omega) hK rfl rfl)⟩
    simp [results, Try.f6, go_sem, hc5]
end Go.Proofs.Ytikhmgkoodoeoaa
