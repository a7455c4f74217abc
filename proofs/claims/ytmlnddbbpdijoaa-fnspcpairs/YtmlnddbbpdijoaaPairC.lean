/- Proved here: all pairs of records and windows, in the program: what the iterator tells is gathered. -/
import Derived.Test.YtmlnddbbpdijoaaPairI
namespace Go.Proofs.Ytmlnddbbpdijoaa
open Go.RowKit Go.Shelf
set_option linter.unusedVariables false
attribute [local go_sem] Oper.semAt_some

theorem pairs_stops (n : Nat) (hn : 2 ≤ n) (Br Bj len cap : Nat) (a : Option Addr) (xs : List IwR) (s t k z p l e : Int) (b : Bool) (v r : Int) (w : World) (n₀ : Nat) (hn₀ : n₀ ≤ w.heap.size) (hBr : w.cell? ⟨Br, 0, none⟩ = some (.slice a len cap)) (hrn : Br < n₀) (hBj : w.cell? ⟨Bj, 0, none⟩ = some (.int .i64 s) ∧ w.cell? ⟨Bj, 1, none⟩ = some (.int .i64 t) ∧ w.cell? ⟨Bj, 2, none⟩ = some (.int .i64 k) ∧ w.cell? ⟨Bj, 3, none⟩ = some (.int .i64 z) ∧ w.cell? ⟨Bj, 4, none⟩ = some (.int .i64 p) ∧ w.cell? ⟨Bj, 5, none⟩ = some (.int .i64 l) ∧ w.cell? ⟨Bj, 6, none⟩ = some (.int .i64 e) ∧ w.cell? ⟨Bj, 7, none⟩ = some (.bool b) ∧ w.cell? ⟨Bj, 8, none⟩ = some (.int .i64 v) ∧ w.cell? ⟨Bj, 9, none⟩ = some (.int .i64 r)) (hjn : Bj < n₀) (hI : IwRs w a len xs) (hlow : ∀ g o, 0 < len → a = some ⟨g, o, none⟩ → g < n₀) :
    SeqStopsK Fence.wide n Try.prog 33 #[.pointer (some ⟨Br, 0, none⟩), .pointer (some ⟨Bj, 0, none⟩)] (fun x : LpR => #[.agg #[.int .i64 x.kd, .int .i64 x.tm, .int .i64 x.ke, .int .i64 x.va, .int .i64 x.nn, .int .i64 x.st, .int .i64 x.en]]) (KpW n₀) (fun ys => ys = pairsI s t k z p l e v r xs) (fun pre => pre <+: pairsI s t k z p l e v r xs) 10000 w := fun lb0 J Jx W hW hJ hJx hY h0 => by
  obtain ⟨q0, q1, q2, q3, q4, q5, q6, q7, q8, q9⟩ := hBj
  have hB := Nat.lt_of_lt_of_le hjn hn₀
  exact pairs1_in n hn lb0 Br Bj n₀ len cap a xs s t k z p l e b v r J Jx hY W hJ hJx (Nat.le_trans hn₀ hW.size) ((hW.cell (p := ⟨Br, 0, none⟩) (Nat.lt_of_lt_of_le hrn hn₀)).trans hBr) hrn ⟨(hW.cell (p := ⟨Bj, 0, none⟩) hB).trans q0, (hW.cell (p := ⟨Bj, 1, none⟩) hB).trans q1, (hW.cell (p := ⟨Bj, 2, none⟩) hB).trans q2, (hW.cell (p := ⟨Bj, 3, none⟩) hB).trans q3, (hW.cell (p := ⟨Bj, 4, none⟩) hB).trans q4, (hW.cell (p := ⟨Bj, 5, none⟩) hB).trans q5, (hW.cell (p := ⟨Bj, 6, none⟩) hB).trans q6, (hW.cell (p := ⟨Bj, 7, none⟩) hB).trans q7, (hW.cell (p := ⟨Bj, 8, none⟩) hB).trans q8, (hW.cell (p := ⟨Bj, 9, none⟩) hB).trans q9⟩ hjn (hI.below hW) hlow h0

def BxL (W : World) (q : Nat) (x : LpR) : Prop := W.heap[q]? = some (.cells #[.int .i64 x.kd, .int .i64 x.tm, .int .i64 x.ke, .int .i64 x.va, .int .i64 x.nn, .int .i64 x.st, .int .i64 x.en] 38 (0, 0))
theorem BxL.new (W : World) (x : LpR) : BxL (W.alloc (.cells #[.int .i64 x.kd, .int .i64 x.tm, .int .i64 x.ke, .int .i64 x.va, .int .i64 x.nn, .int .i64 x.st, .int .i64 x.en] 38)) W.heap.size x := World.alloc_heap_new W _
theorem BxL.cells {W : World} {q : Nat} {x : LpR} (h : BxL W q x) : W.cell? ⟨q, 0, none⟩ = some (.int .i64 x.kd) ∧ W.cell? ⟨q, 1, none⟩ = some (.int .i64 x.tm) ∧ W.cell? ⟨q, 2, none⟩ = some (.int .i64 x.ke) ∧ W.cell? ⟨q, 3, none⟩ = some (.int .i64 x.va) ∧ W.cell? ⟨q, 4, none⟩ = some (.int .i64 x.nn) ∧ W.cell? ⟨q, 5, none⟩ = some (.int .i64 x.st) ∧ W.cell? ⟨q, 6, none⟩ = some (.int .i64 x.en) := ⟨(Joins.cell_of_block h 0), (Joins.cell_of_block h 1), (Joins.cell_of_block h 2), (Joins.cell_of_block h 3), (Joins.cell_of_block h 4), (Joins.cell_of_block h 5), (Joins.cell_of_block h 6)⟩
theorem kp_app {W w1 : World} {n₀ B : Nat} {v v' : Value} {q : Nat} {ys : List Value} {tmp : Obj} (hv : Boxed W B 28 v) (hrow : W.ownsRow n₀ 38 7 v q ys) (hgrow : (W.alloc tmp).grownBy w1 v.ownBlock) (hb : Below n₀ W (w1.setCell ⟨B, 0, none⟩ v')) : KpW n₀ W (w1.setCell ⟨B, 0, none⟩ v') := by
  refine ⟨hb, fun bl cs ty ht hbl => ?_⟩
  have hlt := (Array.getElem?_eq_some_iff.1 hbl).1
  have h1 : bl ≠ B := by
    rintro rfl
    have := hv
    unfold Boxed at this
    rw [hbl] at this
    simp only [Option.some.injEq, Obj.cells.injEq] at this
    rcases ht with rfl | rfl
    · exact absurd this.2.1 (by decide)
    · exact absurd this.2.1 (by decide)
  have h2 : some bl ≠ v.ownBlock := by
    rcases hrow.2 with ⟨rfl, _⟩ | ⟨g, cp, cur, rfl, _, hgb, _⟩
    · simp [Value.ownBlock]
    · intro e9
      simp [Value.ownBlock] at e9
      subst e9
      rw [hbl] at hgb
      simp only [Option.some.injEq, Obj.cells.injEq] at hgb
      rcases ht with rfl | rfl
      · exact absurd hgb.2.1 (by decide)
      · exact absurd hgb.2.1 (by decide)
  rw [Below.heap_setCell w1 _ v' bl h1, hgrow.block bl (by simp; omega) h2, Below.heap_alloc _ _ _ hlt]
  exact hbl
/-- The frame of a round. -/
def actC (w : World) (Br Bj : Nat) (x : LpR) (q : Nat) : Act := { tmps := #[.slice none 0 0, .func (.func 33) #[] #[.pointer (some ⟨Br, 0, none⟩), .pointer (some ⟨Bj, 0, none⟩)], .pointer (some ⟨w.heap.size, 0, none⟩), undef, .slice none 0 0, .pointer (some ⟨q, 0, none⟩), .func (.func 33) #[] #[.pointer (some ⟨Br, 0, none⟩), .pointer (some ⟨Bj, 0, none⟩)], .agg #[.int .i64 x.kd, .int .i64 x.tm, .int .i64 x.ke, .int .i64 x.va, .int .i64 x.nn, .int .i64 x.st, .int .i64 x.en], undef, undef, undef, undef, undef], defers := [] }

set_option maxRecDepth 100000 in
set_option maxHeartbeats 4000000 in
theorem appendseq_any (Br Bj len cap : Nat) (a : Option Addr) (xs : List IwR) (s t k z p l e : Int) (b : Bool) (v r : Int) (w : World) (h : IwRs w a len xs) (hBr : w.cell? ⟨Br, 0, none⟩ = some (.slice a len cap)) (hrn : Br < w.heap.size) (hBj : w.cell? ⟨Bj, 0, none⟩ = some (.int .i64 s) ∧ w.cell? ⟨Bj, 1, none⟩ = some (.int .i64 t) ∧ w.cell? ⟨Bj, 2, none⟩ = some (.int .i64 k) ∧ w.cell? ⟨Bj, 3, none⟩ = some (.int .i64 z) ∧ w.cell? ⟨Bj, 4, none⟩ = some (.int .i64 p) ∧ w.cell? ⟨Bj, 5, none⟩ = some (.int .i64 l) ∧ w.cell? ⟨Bj, 6, none⟩ = some (.int .i64 e) ∧ w.cell? ⟨Bj, 7, none⟩ = some (.bool b) ∧ w.cell? ⟨Bj, 8, none⟩ = some (.int .i64 v) ∧ w.cell? ⟨Bj, 9, none⟩ = some (.int .i64 r)) (hjn : Bj < w.heap.size) : Calls Try.prog 32 #[.slice none 0 0, .func (.func 33) #[] #[.pointer (some ⟨Br, 0, none⟩), .pointer (some ⟨Bj, 0, none⟩)]] w fun e' w' => ∃ v', e' = .returned v' ∧ OwnLp w' w.heap.size v' (pairsI s t k z p l e v r xs) ∧ Below w.heap.size w w' := by
  obtain ⟨i0, hi, hz0', hz1', hz2'⟩ := info_parts Try.infoLp
  have hlow : ∀ g' o', 0 < len → a = some ⟨g', o', none⟩ → g' < w.heap.size := fun g' o' hp ha => by subst ha; exact h.lt hp
  refine (callsIn_wide (n := 6)).1 ?_
  refine callsIn_of_wp_marks Try.func32 rfl trivial ?_ rfl
  simp only [Try.ntmps32, List.size_toArray, List.length_cons, List.length_nil, Nat.reduceAdd, Nat.reduceSub, Array.replicate_succ, Array.replicate_zero, List.push_toArray, List.append_toArray, List.nil_append, List.cons_append]
  gi_wp2
  have bS := Boxed.new w 28 (.slice none 0 0)
  have hB0 : Below w.heap.size w (w.alloc (.cells #[.slice none 0 0] 28)) := bel_one _ _
  have hbj : (w.alloc (.cells #[.slice none 0 0] 28)).cell? ⟨Bj, 0, none⟩ = some (.int .i64 s) ∧ (w.alloc (.cells #[.slice none 0 0] 28)).cell? ⟨Bj, 1, none⟩ = some (.int .i64 t) ∧ (w.alloc (.cells #[.slice none 0 0] 28)).cell? ⟨Bj, 2, none⟩ = some (.int .i64 k) ∧ (w.alloc (.cells #[.slice none 0 0] 28)).cell? ⟨Bj, 3, none⟩ = some (.int .i64 z) ∧ (w.alloc (.cells #[.slice none 0 0] 28)).cell? ⟨Bj, 4, none⟩ = some (.int .i64 p) ∧ (w.alloc (.cells #[.slice none 0 0] 28)).cell? ⟨Bj, 5, none⟩ = some (.int .i64 l) ∧ (w.alloc (.cells #[.slice none 0 0] 28)).cell? ⟨Bj, 6, none⟩ = some (.int .i64 e) ∧ (w.alloc (.cells #[.slice none 0 0] 28)).cell? ⟨Bj, 7, none⟩ = some (.bool b) ∧ (w.alloc (.cells #[.slice none 0 0] 28)).cell? ⟨Bj, 8, none⟩ = some (.int .i64 v) ∧ (w.alloc (.cells #[.slice none 0 0] 28)).cell? ⟨Bj, 9, none⟩ = some (.int .i64 r) := by
    obtain ⟨q0, q1, q2, q3, q4, q5, q6, q7, q8, q9⟩ := hBj
    exact ⟨(hB0.cell (p := ⟨Bj, 0, none⟩) hjn).trans q0, (hB0.cell (p := ⟨Bj, 1, none⟩) hjn).trans q1, (hB0.cell (p := ⟨Bj, 2, none⟩) hjn).trans q2, (hB0.cell (p := ⟨Bj, 3, none⟩) hjn).trans q3, (hB0.cell (p := ⟨Bj, 4, none⟩) hjn).trans q4, (hB0.cell (p := ⟨Bj, 5, none⟩) hjn).trans q5, (hB0.cell (p := ⟨Bj, 6, none⟩) hjn).trans q6, (hB0.cell (p := ⟨Bj, 7, none⟩) hjn).trans q7, (hB0.cell (p := ⟨Bj, 8, none⟩) hjn).trans q8, (hB0.cell (p := ⟨Bj, 9, none⟩) hjn).trans q9⟩
  refine wpIn_rangeFunc_ownH rfl (by omega) (gf := 33) (lb := #[.pointer (some ⟨Br, 0, none⟩), .pointer (some ⟨Bj, 0, none⟩)]) rfl trivial (enters_of Try.func33 (by kernel_rfl) rfl)
    (pairs_stops _ (by omega) Br Bj len cap a xs s t k z p l e b v r _ w.heap.size (by simp) ((hB0.cell (p := ⟨Br, 0, none⟩) hrn).trans hBr) hrn hbj hjn (h.below hB0) hlow) KpW.trans (KpW.put (by simp)) (Below.refl _ _) (fun _ => rfl)
    (fun pre W => (∃ v, Boxed W w.heap.size 28 v ∧ W.ownsRow w.heap.size 38 7 v pre.length (flatLp pre) ∧ True) ∧ Below w.heap.size w W)
    (fun _ _ _ => False)
    (OwnFrom.and (Own.from (holdsRow_own w.heap.size w.heap.size 28 38 7 (fun pre : List LpR => pre.length) (fun pre => flatLp pre) (fun _ _ => True)) _) (ownFrom_below (Nat.le_refl _) (by simp)))
    (fun _ _ _ _ _ hs _ _ => hs)
    ⟨⟨_, bS, World.ownsRow_nil _ _ _ _, trivial⟩, hB0⟩
    (fun x a' W => ∃ q, a' = actC w Br Bj x q ∧ BxL W q x)
    (fun x a' _ W W' row hs hg hr => by
      obtain ⟨q, e1, hq⟩ := hs
      refine ⟨q, e1, (hg.block q (Array.getElem?_eq_some_iff.1 hq).1 (fun e9 => ?_)).trans hq⟩
      obtain ⟨_, o, ho, hc⟩ := hr q e9.symm
      rw [hq] at ho
      cases ho
      cases hc) ?assign ?body ?done ?stop
  case assign =>
    rintro lb0 pre x W K ⟨⟨rv, hv, hrow, _⟩, hB⟩ hK
    have HK := hK (actC w Br Bj x W.heap.size) (W.alloc (.cells #[.int .i64 x.kd, .int .i64 x.tm, .int .i64 x.ke, .int .i64 x.va, .int .i64 x.nn, .int .i64 x.st, .int .i64 x.en] 38)) ((KeepsOthers.of_grownBy (grown_of (bel_one W _)) (fun _ _ e => by cases e)).from _) (KpW.of_bel (bel_one _ _) hB.size) ⟨⟨rv, hv.alloc _, hrow.alloc _, trivial⟩, bel_alloc hB _⟩ ⟨_, rfl, BxL.new W x⟩
    clear hK
    unfold actC at HK
    gi_wp2
    exact HK
  case body =>
    rintro lb0 pre x a' W hlb _ ⟨⟨rv, hv, hrow, _⟩, hB⟩ ⟨q, rfl, hq⟩ hpl
    have hcv := hv.cell
    have hz1 := hv.lt
    have hfv := hv.frozen
    have HR := hide hrow
    have HV := hide hv
    obtain ⟨x0, x1, x2, x3, x4, x5, x6⟩ := hq.cells
    have hlq := (Array.getElem?_eq_some_iff.1 hq).1
    clear h hlow hB0 bS hrow hv hbj hBj hq
    unfold actC
    gi_wp2_with (gi_at_builtin; go_loud (refine wpListIn_append_own _ rfl _ _ 28 rfl w.heap.size 38 i0 _ 7 56 Try.underlying28 hi hz0' hz1' hz2' rfl (by decide) rv _ _ rfl (World.ownsRow.alloc (unhide HR) _) ⟨W.heap.size, 0, none⟩ 1 1 [.int .i64 x.kd, .int .i64 x.tm, .int .i64 x.ke, .int .i64 x.va, .int .i64 x.nn, .int .i64 x.st, .int .i64 x.en] rfl rfl (cells_newLp W x.kd x.tm x.ke x.va x.nn x.st x.en _) (by simp [Value.oneCell']) (by unfold maxLen; omega) (by omega) (by simp; omega) ?_); intro v' w2 hown' hgrow _; obtain ⟨g', cap', rfl⟩ := ownsRow_succ hown'; obtain ⟨hv1, hv2, hr2, hk2, hb2⟩ := Boxed.appended (unhide HV) (by decide) (unhide HR) (by omega) (Nat.le_refl _) hown' hgrow; have hkp := kp_app (unhide HV) (unhide HR) hgrow hb2; have hcc := hv1.cell; have hff := hv1.frozen; have HV3 := hide hv2; have HR3 := hide hr2; clear hv1 hv2 hr2 hown' hgrow)
    exact ⟨hk2.from _, hkp, ⟨_, unhide HV3, by rw [flatLp_snoc, List.length_append]; exact unhide HR3, trivial⟩, hB.trans hb2⟩
  case done =>
    rintro D ys W hD hys ⟨⟨rv, hv, hrow, _⟩, hB⟩ hK
    obtain rfl := hys.symm
    have hcv := hv.cell
    have HR := hide hrow
    clear hrow
    gi_wp2
    refine ⟨by simp, .inl ⟨_, _, rfl, run_takeDeferred hK, ?_⟩⟩
    exact ⟨_, results_tmp rfl _ _ _, rv, rfl, ownsRow_putObj (unhide HR) _ hK rfl, hB.trans (belowK_b (w := w) (Nat.le_refl _) W D _ _ (by simp at hD; omega) hK rfl rfl)⟩
  case stop =>
    rintro D c pre W _ _ hx _
    exact hx.elim

theorem collect_any (Br Bj len cap : Nat) (a : Option Addr) (xs : List IwR) (s t k z p l e : Int) (b : Bool) (v r : Int) (w : World) (h : IwRs w a len xs) (hBr : w.cell? ⟨Br, 0, none⟩ = some (.slice a len cap)) (hrn : Br < w.heap.size) (hBj : w.cell? ⟨Bj, 0, none⟩ = some (.int .i64 s) ∧ w.cell? ⟨Bj, 1, none⟩ = some (.int .i64 t) ∧ w.cell? ⟨Bj, 2, none⟩ = some (.int .i64 k) ∧ w.cell? ⟨Bj, 3, none⟩ = some (.int .i64 z) ∧ w.cell? ⟨Bj, 4, none⟩ = some (.int .i64 p) ∧ w.cell? ⟨Bj, 5, none⟩ = some (.int .i64 l) ∧ w.cell? ⟨Bj, 6, none⟩ = some (.int .i64 e) ∧ w.cell? ⟨Bj, 7, none⟩ = some (.bool b) ∧ w.cell? ⟨Bj, 8, none⟩ = some (.int .i64 v) ∧ w.cell? ⟨Bj, 9, none⟩ = some (.int .i64 r)) (hjn : Bj < w.heap.size) : Calls Try.prog 14 #[.func (.func 33) #[] #[.pointer (some ⟨Br, 0, none⟩), .pointer (some ⟨Bj, 0, none⟩)]] w fun e' w' => ∃ v', e' = .returned v' ∧ OwnLp w' w.heap.size v' (pairsI s t k z p l e v r xs) ∧ Below w.heap.size w w' := by
  go_enter Try.func14, Try.ntmps14
  go_wp2_with fail
  refine (appendseq_any Br Bj len cap a xs s t k z p l e b v r _ h hBr hrn hBj hjn).mono ?_
  rintro e' w' ⟨v', rfl, hO, hb⟩
  go_wp2_with fail
  go_ret
  exact ⟨_, rfl, hO, hb⟩
theorem pairsOf_any (s t k z p l e : Int) (b : Bool) (v r : Int) (a : Option Addr) (len cap : Nat) (w : World) : Calls Try.prog 15 #[.agg #[.int .i64 s, .int .i64 t, .int .i64 k, .int .i64 z, .int .i64 p, .int .i64 l, .int .i64 e, .bool b, .int .i64 v, .int .i64 r], .slice a len cap] w fun e' w' => e' = .returned (.func (.func 33) #[] #[.pointer (some ⟨w.heap.size + 1, 0, none⟩), .pointer (some ⟨w.heap.size, 0, none⟩)]) ∧ w' = (w.alloc (.cells #[.int .i64 s, .int .i64 t, .int .i64 k, .int .i64 z, .int .i64 p, .int .i64 l, .int .i64 e, .bool b, .int .i64 v, .int .i64 r] 24)).alloc (.cells #[.slice a len cap] 25) := by
  go_enter Try.func15, Try.ntmps15
  go_wp2
  go_ret
  exact ⟨rfl, rfl⟩
set_option maxRecDepth 20000 in
set_option maxHeartbeats 1000000 in
theorem implpairs_any (s t k z p l e : Int) (b : Bool) (v r : Int) (a : Option Addr) (len cap : Nat) (xs : List IwR) (w : World) (h : IwRs w a len xs) : Calls Try.prog 5 #[.agg #[.int .i64 s, .int .i64 t, .int .i64 k, .int .i64 z, .int .i64 p, .int .i64 l, .int .i64 e, .bool b, .int .i64 v, .int .i64 r], .slice a len cap] w fun e' w' => ∃ v', e' = .returned v' ∧ OwnLp w' w.heap.size v' (pairsT s t k z p l e v r xs) ∧ Below w.heap.size w w' := by
  rw [← pairsI_eq]
  go_enter Try.func5, Try.ntmps5
  go_wp2_with fail
  refine (pairsOf_any _ _ _ _ _ _ _ _ _ _ _ _ _ _).mono ?_
  rintro e' w1 ⟨rfl, hw⟩
  have hb1 : Below w.heap.size w w1 := by rw [hw]; exact bel_alloc (bel_alloc (bel_one _ _) _) _
  have hs1 : w1.heap.size = w.heap.size + 1 + 1 + 1 := by rw [hw]; simp
  have hBr : w1.cell? ⟨w.heap.size + 1 + 1, 0, none⟩ = some (.slice a len cap) := by rw [hw]; simp [go_sem]
  have hBj : w1.cell? ⟨w.heap.size + 1, 0, none⟩ = some (.int .i64 s) ∧ w1.cell? ⟨w.heap.size + 1, 1, none⟩ = some (.int .i64 t) ∧ w1.cell? ⟨w.heap.size + 1, 2, none⟩ = some (.int .i64 k) ∧ w1.cell? ⟨w.heap.size + 1, 3, none⟩ = some (.int .i64 z) ∧ w1.cell? ⟨w.heap.size + 1, 4, none⟩ = some (.int .i64 p) ∧ w1.cell? ⟨w.heap.size + 1, 5, none⟩ = some (.int .i64 l) ∧ w1.cell? ⟨w.heap.size + 1, 6, none⟩ = some (.int .i64 e) ∧ w1.cell? ⟨w.heap.size + 1, 7, none⟩ = some (.bool b) ∧ w1.cell? ⟨w.heap.size + 1, 8, none⟩ = some (.int .i64 v) ∧ w1.cell? ⟨w.heap.size + 1, 9, none⟩ = some (.int .i64 r) := by
    rw [hw]
    exact ⟨by simp [go_sem], by simp [go_sem], by simp [go_sem], by simp [go_sem], by simp [go_sem], by simp [go_sem], by simp [go_sem], by simp [go_sem], by simp [go_sem], by simp [go_sem]⟩
  clear hw
  go_wp2_with fail
  refine (collect_any (w.heap.size + 1 + 1) (w.heap.size + 1) len cap a xs s t k z p l e b v r _ (h.below hb1) hBr (by omega) hBj (by omega)).mono ?_
  rintro e' w' ⟨v', rfl, hO, hb⟩
  go_wp2_with fail
  go_ret
  exact ⟨_, rfl, World.ownsRow.mono hO (by omega), bel_trans hb1 hb⟩
end Go.Proofs.Ytmlnddbbpdijoaa
