/- Proved here: the records of a log that the program tells, in new memory. -/
import Derived.Test.YtikhmgkoodoeoaaRecs
import Derived.Maps.AppendAt
namespace Go.Proofs.Ytikhmgkoodoeoaa
open Go.RowKit Go.Shelf
set_option linter.unusedVariables false
attribute [local go_sem] Oper.semAt_some

theorem recs_hit {least : Int} {pre : List It} {x : It} (h : isRec least x = true) : recs least (pre ++ [x]) = recs least pre ++ [x] := by rw [recs_snoc, if_pos h]
theorem recs_miss {least : Int} {pre : List It} {x : It} (h : isRec least x = false) : recs least (pre ++ [x]) = recs least pre := by rw [recs_snoc, if_neg (by simp [h])]
theorem recs_le (least : Int) (pre : List It) : (recs least pre).length ≤ pre.length := List.length_filter_le _ _
theorem ownsRow_bel {W W' : World} {B : Nat} {e : TypeId} {size n : Nat} {v : Value} {xs : List Value} (h : W.ownsRow B e size v n xs) (hb : Below W.heap.size W W') : W'.ownsRow B e size v n xs := by
  refine h.kept (bel_grown hb) ?_
  cases v.ownBlock with
  | none => exact .inl rfl
  | some g => exact .inr (by simp)

set_option maxRecDepth 100000 in
set_option maxHeartbeats 2000000 in
theorem implrecs_any (a : Option Addr) (len cap : Nat) (least : Int) (xs : List It) (w : World) (h : Its w a len xs) (hl : len ≤ 1048576) : Calls Try.prog 10 #[.slice a len cap, .int .i64 least] w fun e w' => ∃ v, e = .returned v ∧ OwnIts w' w.heap.size v (recs least xs) ∧ Below w.heap.size w w' := by
  obtain ⟨i0, hi, hz0', hz1', hz2'⟩ := info_parts Try.infoItm
  have hm := h.2.1
  have hxl := h.1
  unfold maxLen at hm
  have hlow : ∀ g' o', 0 < len → a = some ⟨g', o', none⟩ → g' < w.heap.size := by
    intro g' o' hp e
    obtain ⟨g, o, ha, hr⟩ := h.2.2.resolve_left (by omega)
    have hg := hr.lt (by omega)
    rw [ha] at e
    simp at e
    omega
  refine (callsIn_wide (n := 6)).1 ?_
  refine callsIn_of_wp_marks Try.func10 rfl trivial ?_ rfl
  simp only [Try.ntmps10, List.size_toArray, List.length_cons, List.length_nil, Nat.reduceAdd, Nat.reduceSub, Array.replicate_succ, Array.replicate_zero, List.push_toArray, List.append_toArray, List.nil_append, List.cons_append]
  gi_wp2_with (refine ⟨trivial, ?_⟩; gi_at_call 20; refine (callsIn_wide.2 (logParts_any _ _ _ _)).mono ?_; rintro e w' ⟨rfl, rfl⟩)
  have bL := Boxed.new w 3 (.int .i64 least)
  have bR := Boxed.new (w.alloc (.cells #[.int .i64 least] 3)) 23 (.slice none 0 0)
  have bN := Boxed.new ((w.alloc (.cells #[.int .i64 least] 3)).alloc (.cells #[.slice none 0 0] 23)) 23 (.slice a len cap)
  rw [World.size_alloc] at bR
  rw [World.size_alloc, World.size_alloc] at bN
  have hB0 : Below w.heap.size w (((w.alloc (.cells #[.int .i64 least] 3)).alloc (.cells #[.slice none 0 0] 23)).alloc (.cells #[.slice a len cap] 23)) := bel_alloc (bel_alloc (bel_one _ _) _) _
  refine wpIn_rangeFunc_ownG rfl (by omega) (gf := 32) (lb := #[.pointer (some ⟨w.heap.size + 1 + 1, 0, none⟩)]) rfl trivial (enters_of Try.func32 (by kernel_rfl) rfl)
    (parts_stops _ (by omega) (w.heap.size + 1 + 1) w.heap.size len cap _ xs _ (by simp) (by simp; omega) bN.cell (h.below hB0) hlow) belowK_t (belowK_b (by simp; omega)) (Below.refl _ _) (fun _ => rfl)
    (fun pre W => (∃ v, Boxed W (w.heap.size + 1) 23 v ∧ W.ownsRow w.heap.size 35 5 v (recs least pre).length (flat (recs least pre)) ∧ True) ∧ Boxed W w.heap.size 3 (.int .i64 least) ∧ Below w.heap.size w W)
    (fun _ _ _ => False)
    (OwnFrom.and (Own.from (holdsRow_own w.heap.size (w.heap.size + 1) 23 35 5 (fun pre => (recs least pre).length) (fun pre => flat (recs least pre)) (fun _ _ => True)) _) (OwnFrom.and (Own.from (boxed_own _ _ _) _) (ownFrom_below (Nat.le_refl _) (by simp; omega))))
    (fun _ _ _ _ _ hs _ _ => hs)
    ⟨⟨_, bR.alloc _, World.ownsRow_nil _ _ _ _, trivial⟩, (bL.alloc _).alloc _, hB0⟩
    (fun x => { tmps := #[.slice a len cap, .int .i64 least, undef, .pointer (some ⟨w.heap.size, 0, none⟩), .slice none 0 0, .pointer (some ⟨w.heap.size + 1, 0, none⟩), partV x.q x.t x.k x.v x.n, undef, undef, .slice a len cap, .func (.func 32) #[] #[.pointer (some ⟨w.heap.size + 1 + 1, 0, none⟩)], partV x.q x.t x.k x.v x.n, undef, undef, undef, undef, undef, undef, undef, undef, undef, undef, undef, undef, undef, undef, undef, undef, undef], defers := [] }) ?assign ?body ?done ?stop
  case assign =>
    intro l x W K hK
    gi_wp2
    exact hK
  case body =>
    rintro l pre x W ⟨⟨rv, hv, hrow, _⟩, hbl, hB⟩ hpl
    have hcl := hbl.cell
    have HBL := hide hbl
    have hz0 := hbl.lt
    clear hbl
    have hz1 := hv.lt
    have hrl := recs_le least pre
    have hcv := hv.cell
    have hfv := hv.frozen
    have HR := hide hrow
    have HV := hide hv
    clear h hlow hB0 bL bR bN hrow hv
    obtain ⟨q, t, k, v, n⟩ := x
    dsimp only
    by_cases h1 : q = 1
    · by_cases h2 : least ≤ v
      · have hn := hide (recs_hit (least := least) (pre := pre) (x := ⟨q, t, k, v, n⟩) (by simp [isRec, h1, h2]))
        subst h1
        have hr1 := recIt_1 t k v n
        gi_wp2_with (first
          | (refine ⟨trivial, ?_⟩; gi_at_call 21; refine (CallsIn.inRound l (callsIn_wide.2 (record_any _ _ _ _ _ _))).mono ?_; rintro e w1 ⟨rfl, hb1⟩; obtain ⟨hc1, hf1, hs1⟩ := bcell hb1; have hy0 : w.heap.size < w1.heap.size := Nat.lt_of_lt_of_le hz0 hb1.size; have hy1 : w.heap.size + 1 < w1.heap.size := Nat.lt_of_lt_of_le hz1 hb1.size; have HR2 := hide ((ownsRow_bel (unhide HR) hb1).alloc (.cells #[.int .i64 1, .int .i64 t, .int .i64 k, .int .i64 v, .int .i64 n] 35)); have HV2 := hide (((unhide HV).kept (bel_grown hb1) (by simp)).alloc (.cells #[.int .i64 1, .int .i64 t, .int .i64 k, .int .i64 v, .int .i64 n] 35)))
          | (gi_at_builtin; go_loud (refine wpListIn_append_own _ rfl _ _ 23 rfl w.heap.size 35 i0 _ 5 40 Try.underlying23 hi hz0' hz1' hz2' rfl (by decide) rv _ _ rfl (World.ownsRow.alloc (unhide HR2) _) ⟨w1.heap.size + 1, 0, none⟩ 1 1 [.int .i64 1, .int .i64 t, .int .i64 k, .int .i64 v, .int .i64 n] rfl rfl (by have := cells_new5 (w1.alloc (.cells #[.int .i64 1, .int .i64 t, .int .i64 k, .int .i64 v, .int .i64 n] 35)) 1 t k v n 35; rw [World.size_alloc] at this; exact this) (by simp [Value.oneCell']) (by unfold maxLen; omega) (by omega) (by simp; omega) ?_); intro v' w2 hown' hgrow _; obtain ⟨g', cap', rfl⟩ := ownsRow_succ hown'; obtain ⟨hv1, hv2, hr2, hk2, hb2⟩ := Boxed.appended (unhide HV2) (by decide) (unhide HR2) (by simp; omega) (by omega) hown' hgrow; have hcc := hv1.cell; have hff := hv1.frozen; have HBL2 := hide ((((((unhide HBL).kept (bel_grown hb1) (by simp)).alloc (.cells #[.int .i64 1, .int .i64 t, .int .i64 k, .int .i64 v, .int .i64 n] 35)).alloc (.cells #[.int .i64 1, .int .i64 t, .int .i64 k, .int .i64 v, .int .i64 n] 35)).kept hgrow ((((unhide HBL).kept (bel_grown hb1) (by simp)).alloc _).not_row (by decide) (unhide HR2)))); have HV3 := hide hv2; have HR3 := hide hr2; clear hv1 hv2 hr2 hown' hgrow))
        have hbx := unhide HBL2
        exact ⟨((keeps_bel (bel_alloc hb1 _)).trans hk2).from _, ((bel_alloc hb1 _).mono hB.size).trans hb2, ⟨_, unhide HV3, by rw [unhide hn, flat_snoc, List.length_append]; exact unhide HR3, trivial⟩, hbx.other (by omega) _, (hB.trans ((bel_alloc hb1 _).mono hB.size)).trans hb2⟩
      · have hn := hide (recs_miss (least := least) (pre := pre) (x := ⟨q, t, k, v, n⟩) (by simp [isRec, h2]))
        subst h1
        have hr1 := recIt_1 t k v n
        gi_wp2_with (first
          | (refine ⟨trivial, ?_⟩; gi_at_call 21; refine (CallsIn.inRound l (callsIn_wide.2 (record_any _ _ _ _ _ _))).mono ?_; rintro e w1 ⟨rfl, hb1⟩; obtain ⟨hc1, hf1, hs1⟩ := bcell hb1; have hy0 : w.heap.size < w1.heap.size := Nat.lt_of_lt_of_le hz0 hb1.size; have hy1 : w.heap.size + 1 < w1.heap.size := Nat.lt_of_lt_of_le hz1 hb1.size))
        have hb3 := bel_alloc hb1 (.cells #[.int .i64 1, .int .i64 t, .int .i64 k, .int .i64 v, .int .i64 n] 35)
        exact ⟨(keeps_bel hb3).from _, hb3.mono hB.size, ⟨rv, (unhide HV).kept (bel_grown hb3) (by simp), by rw [unhide hn]; exact ownsRow_bel (unhide HR) hb3, trivial⟩, (unhide HBL).kept (bel_grown hb3) (by simp), hB.trans (hb3.mono hB.size)⟩
    · have hn := hide (recs_miss (least := least) (pre := pre) (x := ⟨q, t, k, v, n⟩) (by simp [isRec, h1]))
      have hr1 := recIt_n h1 t k v n
      have g1 : (q == 1) = false := by simpa using h1
      clear h1
      gi_wp2_with (first
        | (refine ⟨trivial, ?_⟩; gi_at_call 21; refine (CallsIn.inRound l (callsIn_wide.2 (record_any _ _ _ _ _ _))).mono ?_; rintro e w1 ⟨rfl, hb1⟩; obtain ⟨hc1, hf1, hs1⟩ := bcell hb1; have hy0 : w.heap.size < w1.heap.size := Nat.lt_of_lt_of_le hz0 hb1.size; have hy1 : w.heap.size + 1 < w1.heap.size := Nat.lt_of_lt_of_le hz1 hb1.size))
      have hb3 := bel_alloc hb1 (.cells #[.int .i64 0, .int .i64 0, .int .i64 0, .int .i64 0, .int .i64 0] 35)
      exact ⟨(keeps_bel hb3).from _, hb3.mono hB.size, ⟨rv, (unhide HV).kept (bel_grown hb3) (by simp), by rw [unhide hn]; exact ownsRow_bel (unhide HR) hb3, trivial⟩, (unhide HBL).kept (bel_grown hb3) (by simp), hB.trans (hb3.mono hB.size)⟩
  case done =>
    rintro D ys W hD hys ⟨⟨rv, hv, hrow, _⟩, hbl, hB⟩ hK
    obtain rfl := hys.symm
    have hcv := hv.cell
    have HR := hide hrow
    clear hrow
    gi_wp2
    refine ⟨by simp, .inl ⟨_, _, rfl, run_takeDeferred hK, ?_⟩⟩
    exact ⟨_, results_tmp rfl _ _ _, rv, rfl, ownsRow_putObj (unhide HR) _ hK rfl, hB.trans (belowK_b (w := w) (Nat.le_refl _) W D _ _ (by simp at hD; omega) hK rfl rfl)⟩
  case stop =>
    rintro D c pre W _ _ hx _
    exact hx.elim
end Go.Proofs.Ytikhmgkoodoeoaa
