/- Proved here: what an iterator over places tells is gathered, and sorted: slices.AppendSeq, slices.Collect, slices.SortedFunc. -/
import Derived.Test.YtflignpbboiahaaSortPl
import Derived.Test.YtflignpbboiahaaKeyP3
import Derived.Lib.SmallJoins
import Derived.RangeFuncNested
import Derived.RangeFuncBound
import Derived.RangeFuncCalls
import Derived.RangeFuncLeaves
import Derived.RangeFuncBox
import Derived.Shelf.Abstract
import Derived.Shelf.RegionOpen
import Derived.WalkKit
import Derived.OwnWalkIn
import Derived.TacticsInMore
import Derived.LoopNIn
import Derived.LoopIn
namespace Go.Proofs.Ytflignpbboiahaa
open Go.RowKit Go.Shelf
set_option linter.unusedVariables false
attribute [local go_sem] Oper.semAt_some

theorem Try.infoP3 : (Try.prog.info? 80).map (fun i => (i.zero, i.size, i.bytes)) = some (some (.agg #[.int .i64 0, .int .i64 0, .int .i64 0]), 3, 24) := by kernel_rfl
def cells3 (x : P3) : List Value := [.int .i64 x.1, .int .i64 x.2.1, .int .i64 x.2.2]
def flat3 (xs : List P3) : List Value := xs.flatMap cells3
theorem flat3_snoc (xs : List P3) (x : P3) : flat3 (xs ++ [x]) = flat3 xs ++ [.int .i64 x.1, .int .i64 x.2.1, .int .i64 x.2.2] := by simp [flat3, cells3]
theorem flat3_len (xs : List P3) : (flat3 xs).length = xs.length * 3 := by
  induction xs with
  | nil => rfl
  | cons x r ih => show (cells3 x ++ flat3 r).length = _; rw [List.length_append, ih]; simp [cells3]; omega
def Own3 (W : World) (B : Nat) (v : Value) (xs : List P3) : Prop := W.ownsRow B 80 3 v xs.length (flat3 xs)
theorem cells_new3 (w : World) (a b c : Int) (ty : Nat) : ∀ j u, ([.int .i64 a, .int .i64 b, .int .i64 c] : List Value)[j]? = some u → (w.alloc (.cells #[.int .i64 a, .int .i64 b, .int .i64 c] ty)).cell? ((⟨w.heap.size, 0, none⟩ : Addr).add j) = some u := by
  intro j u hj
  have e : ((⟨w.heap.size, 0, none⟩ : Addr).add j) = ⟨w.heap.size, j, none⟩ := by
    unfold Addr.add
    split
    · rename_i h0; rw [h0]
    · simp
  rw [e]
  simpa [go_sem] using hj
def Bx3 (W : World) (q : Nat) (x : P3) : Prop := W.heap[q]? = some (.cells #[.int .i64 x.1, .int .i64 x.2.1, .int .i64 x.2.2] 80 (0, 0))
theorem Bx3.new (W : World) (x : P3) : Bx3 (W.alloc (.cells #[.int .i64 x.1, .int .i64 x.2.1, .int .i64 x.2.2] 80)) W.heap.size x := World.alloc_heap_new W _
theorem Bx3.cells {W : World} {q : Nat} {x : P3} (h : Bx3 W q x) : W.cell? ⟨q, 0, none⟩ = some (.int .i64 x.1) ∧ W.cell? ⟨q, 1, none⟩ = some (.int .i64 x.2.1) ∧ W.cell? ⟨q, 2, none⟩ = some (.int .i64 x.2.2) := ⟨(Joins.cell_of_block h 0), (Joins.cell_of_block h 1), (Joins.cell_of_block h 2)⟩
theorem grown_of3 {W W' : World} (h : Below W.heap.size W W') : W.grownBy W' none := ⟨h.os, h.tape, h.output, h.size, fun k hk _ => h.block k hk⟩
theorem walks_app {W w1 : World} {n₀ B : Nat} {e : TypeId} {size : Nat} {v v' : Value} {q : Nat} {ys : List Value} {tmp : Obj} (hrow : W.ownsRow n₀ e size v q ys) (hgrow : (W.alloc tmp).grownBy w1 v.ownBlock) : KeepsWalks W (w1.setCell ⟨B, 0, none⟩ v') := by
  refine ((KeepsWalks.alloc W tmp).trans (KeepsWalks.of_grownBy hgrow (fun j o hj ho => ?_))).trans (KeepsWalks.setCell _ _ _)
  rcases (hrow.alloc tmp).2 with ⟨rfl, _⟩ | ⟨g, cap, cur, rfl, _, hgb, _⟩
  · simp [Value.ownBlock] at hj
  · have : g = j := by simpa [Value.ownBlock] using hj
    subst this; rw [hgb] at ho; cases ho; rfl
/-- The frame of a round. -/
def act3 (w : World) (gf : Nat) (lb : Array Value) (x : P3) (q : Nat) : Act := { tmps := #[.slice none 0 0, .func (.func gf) #[] lb, .pointer (some ⟨w.heap.size, 0, none⟩), undef, .slice none 0 0, .pointer (some ⟨q, 0, none⟩), .func (.func gf) #[] lb, .agg #[.int .i64 x.1, .int .i64 x.2.1, .int .i64 x.2.2], undef, undef, undef, undef, undef], defers := [] }

set_option maxRecDepth 100000 in
set_option maxHeartbeats 4000000 in
theorem appendseq3 (gf : Nat) (lb : Array Value) (eg : ∀ args w, (callFunc gf args).run Try.prog w = .ok (.enter gf args) w) (S Sp : List P3 → Prop) (N : Nat) (hN : N ≤ 1048577) (w : World)
    (hseq : SeqStopsK Fence.wide 5 Try.prog gf lb (fun x : P3 => #[.agg #[.int .i64 x.1, .int .i64 x.2.1, .int .i64 x.2.2]]) KeepsWalks S Sp N w) :
    Calls Try.prog 70 #[.slice none 0 0, .func (.func gf) #[] lb] w fun e' w' => ∃ v' ss, e' = .returned v' ∧ S ss ∧ ss.length ≤ N ∧ Own3 w' w.heap.size v' ss ∧ Below w.heap.size w w' := by
  obtain ⟨i0, hi, hz0', hz1', hz2'⟩ := info_parts Try.infoP3
  refine (callsIn_wide (n := 6)).1 ?_
  refine callsIn_of_wp_marks Try.func70 rfl trivial ?_ rfl
  simp only [Try.ntmps70, List.size_toArray, List.length_cons, List.length_nil, Nat.reduceAdd, Nat.reduceSub, Array.replicate_succ, Array.replicate_zero, List.push_toArray, List.append_toArray, List.nil_append, List.cons_append]
  gi_wp2
  have bS := Boxed.new w 96 (.slice none 0 0)
  have hB0 : Below w.heap.size w (w.alloc (.cells #[.slice none 0 0] 96)) := bel_one _ _
  refine wpIn_rangeFunc_ownH rfl (by omega) (gf := gf) (lb := lb) rfl trivial eg
    hseq KeepsWalks.trans walksK_b hB0 (fun _ => rfl)
    (fun pre W => (∃ v, Boxed W w.heap.size 96 v ∧ W.ownsRow w.heap.size 80 3 v pre.length (flat3 pre) ∧ pre.length ≤ N) ∧ Below w.heap.size w W)
    (fun _ _ _ => False)
    (OwnFrom.and (Own.from (holdsRow_own w.heap.size w.heap.size 96 80 3 (fun pre : List P3 => pre.length) (fun pre => flat3 pre) (fun pre _ => pre.length ≤ N)) _) (ownFrom_below (Nat.le_refl _) (by simp)))
    (fun _ _ _ _ _ hs _ _ => hs)
    ⟨⟨_, bS, World.ownsRow_nil _ _ _ _, Nat.zero_le _⟩, hB0⟩
    (fun x a' W => ∃ q, a' = act3 w gf lb x q ∧ Bx3 W q x)
    (fun x a' _ W W' row hs hg hr => by
      obtain ⟨q, e1, hq⟩ := hs
      refine ⟨q, e1, (hg.block q (Array.getElem?_eq_some_iff.1 hq).1 (fun e9 => ?_)).trans hq⟩
      obtain ⟨_, o, ho, hc⟩ := hr q e9.symm
      rw [hq] at ho
      cases ho
      cases hc) ?assign ?body ?done ?stop
  case assign =>
    rintro lb0 pre x W K ⟨⟨rv, hv, hrow, hpN⟩, hB⟩ hK
    have HK := hK (act3 w gf lb x W.heap.size) (W.alloc (.cells #[.int .i64 x.1, .int .i64 x.2.1, .int .i64 x.2.2] 80)) ((KeepsOthers.of_grownBy (grown_of3 (bel_one W _)) (fun _ _ e => by cases e)).from _) (KeepsWalks.alloc _ _) ⟨⟨rv, hv.alloc _, hrow.alloc _, hpN⟩, bel_alloc hB _⟩ ⟨_, rfl, Bx3.new W x⟩
    clear hK
    unfold act3 at HK
    gi_wp2
    exact HK
  case body =>
    rintro lb0 pre x a' W hlb _ ⟨⟨rv, hv, hrow, hpN⟩, hB⟩ ⟨q, rfl, hq⟩ hpl
    have hcv := hv.cell
    have hz1 := hv.lt
    have hfv := hv.frozen
    have HR := hide hrow
    have HV := hide hv
    obtain ⟨x0, x1, x2⟩ := hq.cells
    have hlq := (Array.getElem?_eq_some_iff.1 hq).1
    clear hB0 bS hrow hv hq
    unfold act3
    gi_wp2_with (gi_at_builtin; go_loud (refine wpListIn_append_own _ rfl _ _ 96 rfl w.heap.size 80 i0 _ 3 24 Try.underlying96 hi hz0' hz1' hz2' rfl (by decide) rv _ _ rfl (World.ownsRow.alloc (unhide HR) _) ⟨W.heap.size, 0, none⟩ 1 1 [.int .i64 x.1, .int .i64 x.2.1, .int .i64 x.2.2] rfl rfl (cells_new3 W x.1 x.2.1 x.2.2 _) (by simp [Value.oneCell']) (by unfold maxLen; omega) (by omega) (by simp; omega) ?_); intro v' w2 hown' hgrow _; obtain ⟨g', cap', rfl⟩ := ownsRow_succ hown'; obtain ⟨hv1, hv2, hr2, hk2, hb2⟩ := Boxed.appended (unhide HV) (by decide) (unhide HR) (by omega) (Nat.le_refl _) hown' hgrow; have hkp := walks_app (B := w.heap.size) (v' := .slice (some ⟨g', 0, none⟩) (pre.length + 1) cap') (unhide HR) hgrow; have hcc := hv1.cell; have hff := hv1.frozen; have HV3 := hide hv2; have HR3 := hide hr2; clear hv1 hv2 hr2 hown' hgrow)
    exact ⟨hk2.from _, hkp, ⟨_, unhide HV3, by rw [flat3_snoc, List.length_append]; exact unhide HR3, by rw [List.length_append]; simp; omega⟩, hB.trans hb2⟩
  case done =>
    rintro D ys W hD hys ⟨⟨rv, hv, hrow, hpN⟩, hB⟩ hK
    have hcv := hv.cell
    have HR := hide hrow
    clear hrow
    gi_wp2
    refine ⟨by simp, .inl ⟨_, _, rfl, run_takeDeferred hK, ?_⟩⟩
    exact ⟨_, results_tmp rfl _ _ _, rv, ys, rfl, hys, hpN, ownsRow_putObj (unhide HR) _ hK rfl, hB.trans (belowK_b (w := w) (Nat.le_refl _) W D _ _ (by simp at hD; omega) hK rfl rfl)⟩
  case stop =>
    rintro D c pre W _ _ hx _
    exact hx.elim

theorem collect3 (gf : Nat) (lb : Array Value) (eg : ∀ args w, (callFunc gf args).run Try.prog w = .ok (.enter gf args) w) (S Sp : List P3 → Prop) (N : Nat) (hN : N ≤ 1048577) (w : World)
    (hseq : SeqStopsK Fence.wide 5 Try.prog gf lb (fun x : P3 => #[.agg #[.int .i64 x.1, .int .i64 x.2.1, .int .i64 x.2.2]]) KeepsWalks S Sp N w) :
    Calls Try.prog 66 #[.func (.func gf) #[] lb] w fun e' w' => ∃ v' ss, e' = .returned v' ∧ S ss ∧ ss.length ≤ N ∧ Own3 w' w.heap.size v' ss ∧ Below w.heap.size w w' := by
  go_enter Try.func66, Try.ntmps66
  go_wp2_with fail
  refine (appendseq3 gf lb eg S Sp N hN _ hseq).mono ?_
  rintro e' w' ⟨v', ss, rfl, hS, hl, hO, hb⟩
  go_wp2_with fail
  go_ret
  exact ⟨_, ss, rfl, hS, hl, hO, hb⟩
end Go.Proofs.Ytflignpbboiahaa
