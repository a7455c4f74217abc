/- Laid together: what the claim needs of the texts that were built one by one. -/
import Derived.Test.YtblmhpngaccllaaPkInOrdT
import Derived.Test.YtblmhpngaccllaaPkRwaTab
import Derived.Test.YtblmhpngaccllaaPkBase
namespace Go.Proofs.Ytblmhpngaccllaa
open Go.RowKit Go.Shelf
set_option linter.unusedVariables false
attribute [local go_sem] Oper.semAt_some

/-- What is known, as its four numbers. -/
abbrev Ag4 := Int × Int × Int × Int

def agV (a : Ag4) : Value := .agg #[.int .i64 a.1, .int .i64 a.2.1, .int .i64 a.2.2.1, .int .i64 a.2.2.2]

def ag0 : Ag4 := (0, 0, 0, 0)

theorem zeroAg (u : World) : (zeroValue 33).run Try.prog u = .ok (agV ag0) u := by kernel_rfl

def rowT (x : P3 × Ag4) : TbR := ⟨x.1.1, x.1.2.1, x.1.2.2, x.2.1, x.2.2.1, x.2.2.2.1, x.2.2.2.2⟩

def BxA (W : World) (q : Nat) (x : Ag4) : Prop := W.heap[q]? = some (.cells #[.int .i64 x.1, .int .i64 x.2.1, .int .i64 x.2.2.1, .int .i64 x.2.2.2] 33 (0, 0))

theorem BxA.new (W : World) (x : Ag4) : BxA (W.alloc (.cells #[.int .i64 x.1, .int .i64 x.2.1, .int .i64 x.2.2.1, .int .i64 x.2.2.2] 33)) W.heap.size x := World.alloc_heap_new W _

theorem BxA.cells {W : World} {q : Nat} {x : Ag4} (h : BxA W q x) : W.cell? ⟨q, 0, none⟩ = some (.int .i64 x.1) ∧ W.cell? ⟨q, 1, none⟩ = some (.int .i64 x.2.1) ∧ W.cell? ⟨q, 2, none⟩ = some (.int .i64 x.2.2.1) ∧ W.cell? ⟨q, 3, none⟩ = some (.int .i64 x.2.2.2) := ⟨(Joins.cell_of_block h 0), (Joins.cell_of_block h 1), (Joins.cell_of_block h 2), (Joins.cell_of_block h 3)⟩

theorem kpo_app {W w1 : World} {n₀ B : Nat} {v v' : Value} {q : Nat} {ys : List Value} {tmp : Obj} (hv : Boxed W B 26 v) (hrow : W.ownsRow n₀ 42 7 v q ys) (hgrow : (W.alloc tmp).grownBy w1 v.ownBlock) : KpO W (w1.setCell ⟨B, 0, none⟩ v') := by
  refine ⟨walks_app hrow hgrow, fun bl cs ty ht hbl => ?_⟩
  have hlt := (Array.getElem?_eq_some_iff.1 hbl).1
  have h1 : bl ≠ B := by
    rintro rfl
    have := hv
    unfold Boxed at this
    rw [hbl] at this
    simp only [Option.some.injEq, Obj.cells.injEq] at this
    rcases ht with rfl | rfl
    · exact absurd this.2.1 (by decide)
    · exact absurd this.2.1 (by decide)
  have h2 : some bl ≠ v.ownBlock := by
    rcases hrow.2 with ⟨rfl, _⟩ | ⟨g, cp, cur, rfl, _, hgb, _⟩
    · simp [Value.ownBlock]
    · intro e9
      simp [Value.ownBlock] at e9
      subst e9
      rw [hbl] at hgb
      simp only [Option.some.injEq, Obj.cells.injEq] at hgb
      rcases ht with rfl | rfl
      · exact absurd hgb.2.1 (by decide)
      · exact absurd hgb.2.1 (by decide)
  rw [Below.heap_setCell w1 _ v' bl h1, hgrow.block bl (by simp; omega) h2, Below.heap_alloc _ _ _ hlt]
  exact hbl

/-- The frame of a round. -/
def actR (w : World) (b : Nat) (x : P3 × Ag4) (q : Nat) : Act := { tmps := #[.map (some b), undef, .slice none 0 0, .pointer (some ⟨w.heap.size, 0, none⟩), .pointer (some ⟨q, 0, none⟩), .pointer (some ⟨q + 1, 0, none⟩), .map (some b), .func (.func 41) #[] #[.pointer (some ⟨w.heap.size + 1, 0, none⟩)], .agg #[.int .i64 x.1.1, .int .i64 x.1.2.1, .int .i64 x.1.2.2], .agg #[.int .i64 x.2.1, .int .i64 x.2.2.1, .int .i64 x.2.2.2.1, .int .i64 x.2.2.2.2], undef, undef, undef, undef, undef, undef, undef, undef, undef, undef], defers := [] }

set_option maxRecDepth 100000 in
set_option maxHeartbeats 4000000 in
theorem rowsof_any (b nn : Nat) (f : P3 → Option Ag4) (w : World) (hnn : nn ≤ 1048577) (hown : OwnsV w b nn (fun q => (f q).map agV)) :
    Calls Try.prog 17 #[.map (some b)] w fun e' w' => ∃ v' ys, e' = .returned v' ∧ InOrd ag0 f ys ∧ ys.length ≤ nn ∧ OwnTb w' w.heap.size v' (ys.map rowT) ∧ Below w.heap.size w w' := by
  obtain ⟨i0, hi, hz0', hz1', hz2'⟩ := info_parts Try.infoTb
  refine (callsIn_wide (n := 20)).1 ?_
  refine callsIn_of_wp_marks Try.func17 rfl trivial ?_ rfl
  simp only [Try.ntmps17, List.size_toArray, List.length_cons, List.length_nil, Nat.reduceAdd, Nat.reduceSub, Array.replicate_succ, Array.replicate_zero, List.push_toArray, List.append_toArray, List.nil_append, List.cons_append]
  have hB1 : Below w.heap.size w (w.alloc (.cells #[.slice none 0 0] 26)) := bel_one _ _
  have hB0 : Below w.heap.size w ((w.alloc (.cells #[.slice none 0 0] 26)).alloc (.cells #[.map (some b)] 48)) := bel_alloc hB1 _
  have bS : Boxed ((w.alloc (.cells #[.slice none 0 0] 26)).alloc (.cells #[.map (some b)] 48)) w.heap.size 26 (.slice none 0 0) := (Boxed.new w 26 (.slice none 0 0)).alloc _
  have hm : ((w.alloc (.cells #[.slice none 0 0] 26)).alloc (.cells #[.map (some b)] 48)).heap[w.heap.size + 1]? = some (.cells #[.map (some b)] 48 (0, 0)) := by
    have := World.alloc_heap_new (w.alloc (.cells #[.slice none 0 0] 26)) (.cells #[.map (some b)] 48)
    rw [World.size_alloc] at this
    exact this
  gi_wp2_with (refine ⟨trivial, ?_⟩; gi_at_call 32; refine (callsIn_wide.2 (inorder_any b _)).mono ?_; rintro e' w1 ⟨rfl, hw1⟩; subst hw1)
  refine wpIn_rangeFunc_ownH rfl (by omega) (gf := 41) (lb := #[.pointer (some ⟨w.heap.size + 1, 0, none⟩)]) (by simp [go_sem, Act.eval]) trivial (enters_of Try.func41 (by kernel_rfl) rfl)
    (inord_stops _ (by omega) (w.heap.size + 1) b nn agV f ag0 zeroAg _ hnn hm (hown.kp (KpO.of_bel hB0).1)) KpO.trans KpO.put (Below.refl _ _) (fun _ => rfl)
    (fun pre W => (∃ v, Boxed W w.heap.size 26 v ∧ W.ownsRow w.heap.size 42 7 v pre.length (flatTb (pre.map rowT)) ∧ pre.length ≤ nn) ∧ Below w.heap.size w W)
    (fun _ _ _ => False)
    (OwnFrom.and (Own.from (holdsRow_own w.heap.size w.heap.size 26 42 7 (fun pre : List (P3 × Ag4) => pre.length) (fun pre => flatTb (pre.map rowT)) (fun pre _ => pre.length ≤ nn)) _) (ownFrom_below (Nat.le_refl _) (by simp; omega)))
    (fun _ _ _ _ _ hs _ _ => hs)
    ⟨⟨_, bS, World.ownsRow_nil _ _ _ _, Nat.zero_le _⟩, hB0⟩
    (fun x a' W => ∃ q, a' = actR w b x q ∧ Bx3 W q x.1 ∧ BxA W (q + 1) x.2)
    (fun x a' _ W W' row hs hg hr => by
      obtain ⟨q, e1, hq, hq2⟩ := hs
      refine ⟨q, e1, (hg.block q (Array.getElem?_eq_some_iff.1 hq).1 (fun e9 => ?_)).trans hq, (hg.block (q + 1) (Array.getElem?_eq_some_iff.1 hq2).1 (fun e9 => ?_)).trans hq2⟩
      · obtain ⟨_, o, ho, hc⟩ := hr q e9.symm
        rw [hq] at ho
        cases ho
        cases hc
      · obtain ⟨_, o, ho, hc⟩ := hr (q + 1) e9.symm
        rw [hq2] at ho
        cases ho
        cases hc) ?assign ?body ?done ?stop
  case assign =>
    rintro lb0 pre x W K ⟨⟨rv, hv, hrow, hpN⟩, hB⟩ hK
    have hbA : Below W.heap.size W ((W.alloc (.cells #[.int .i64 x.1.1, .int .i64 x.1.2.1, .int .i64 x.1.2.2] 50)).alloc (.cells #[.int .i64 x.2.1, .int .i64 x.2.2.1, .int .i64 x.2.2.2.1, .int .i64 x.2.2.2.2] 33)) := bel_alloc (bel_one W _) _
    have HK := hK (actR w b x W.heap.size) ((W.alloc (.cells #[.int .i64 x.1.1, .int .i64 x.1.2.1, .int .i64 x.1.2.2] 50)).alloc (.cells #[.int .i64 x.2.1, .int .i64 x.2.2.1, .int .i64 x.2.2.2.1, .int .i64 x.2.2.2.2] 33)) ((KeepsOthers.of_grownBy (grown_of3 hbA) (fun _ _ e => by cases e)).from _) (KpO.of_bel hbA) ⟨⟨rv, (hv.alloc _).alloc _, (hrow.alloc _).alloc _, hpN⟩, bel_alloc (bel_alloc hB _) _⟩ ⟨_, rfl, (KpO.of_bel (bel_one _ _)).2 _ _ _ (Or.inl rfl) (Bx3.new W x.1), by have h9 := BxA.new (W.alloc (.cells #[.int .i64 x.1.1, .int .i64 x.1.2.1, .int .i64 x.1.2.2] 50)) x.2; rw [World.size_alloc] at h9; exact h9⟩
    clear hK hbA
    unfold actR at HK
    unfold agV
    gi_wp2
    exact HK
  case body =>
    rintro lb0 pre x a' W hlb _ ⟨⟨rv, hv, hrow, hpN⟩, hB⟩ ⟨q, rfl, hq, hq2⟩ hpl
    have hcv := hv.cell
    have hz1 := hv.lt
    have hfv := hv.frozen
    have HR := hide hrow
    have HV := hide hv
    obtain ⟨x0, x1, x2⟩ := hq.cells
    obtain ⟨y0, y1, y2, y3⟩ := hq2.cells
    have hlq := (Array.getElem?_eq_some_iff.1 hq).1
    have hlq2 := (Array.getElem?_eq_some_iff.1 hq2).1
    clear hB0 hB1 bS hrow hv hq hq2 hm hown
    unfold actR
    gi_wp2_with (gi_at_builtin; go_loud (refine wpListIn_append_own _ rfl _ _ 26 rfl w.heap.size 42 i0 _ 7 56 Try.underlying26 hi hz0' hz1' hz2' rfl (by decide) rv _ _ rfl (World.ownsRow.alloc (unhide HR) _) ⟨W.heap.size, 0, none⟩ 1 1 [.int .i64 x.1.1, .int .i64 x.1.2.1, .int .i64 x.1.2.2, .int .i64 x.2.1, .int .i64 x.2.2.1, .int .i64 x.2.2.2.1, .int .i64 x.2.2.2.2] rfl rfl (cells_newTb W x.1.1 x.1.2.1 x.1.2.2 x.2.1 x.2.2.1 x.2.2.2.1 x.2.2.2.2 _) (by simp [Value.oneCell']) (by unfold maxLen; omega) (by omega) (by simp; omega) ?_); intro v' w2 hown' hgrow _; obtain ⟨g', cap', rfl⟩ := ownsRow_succ hown'; obtain ⟨hv1, hv2, hr2, hk2, hb2⟩ := Boxed.appended (unhide HV) (by decide) (unhide HR) (by omega) (Nat.le_refl _) hown' hgrow; have hkp := kpo_app (v' := .slice (some ⟨g', 0, none⟩) (pre.length + 1) cap') (unhide HV) (unhide HR) hgrow; have hcc := hv1.cell; have hff := hv1.frozen; have HV3 := hide hv2; have HR3 := hide hr2; clear hv1 hv2 hr2 hown' hgrow)
    exact ⟨hk2.from _, hkp, ⟨_, unhide HV3, by rw [List.map_append, List.length_append]; simp only [List.map_cons, List.map_nil]; rw [flatTb_snoc]; exact unhide HR3, by rw [List.length_append]; simp; omega⟩, hB.trans hb2⟩
  case done =>
    rintro D ys W hD hys ⟨⟨rv, hv, hrow, hpN⟩, hB⟩ hK
    have hcv := hv.cell
    have HR := hide hrow
    clear hrow
    gi_wp2
    refine ⟨by simp, .inl ⟨_, _, rfl, run_takeDeferred hK, ?_⟩⟩
    exact ⟨_, results_tmp rfl _ _ _, rv, ys, rfl, hys, hpN, by unfold OwnTb; rw [List.length_map]; exact ownsRow_putObj (unhide HR) _ hK rfl, hB.trans (belowK_b (w := w) (Nat.le_refl _) W D _ _ (by simp at hD; omega) hK rfl rfl)⟩
  case stop =>
    rintro D c pre W _ _ hx _
    exact hx.elim
end Go.Proofs.Ytblmhpngaccllaa
