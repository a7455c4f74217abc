/- Laid together: what the claim needs of the texts that were built one by one. -/
import Derived.RangeFuncNested
import Derived.RangeFuncBound
import Derived.RangeFuncCalls
import Derived.RangeFuncLeaves
import Derived.RangeFuncBox
import Derived.Shelf.Abstract
import Derived.Shelf.RegionOpen
import Derived.WalkKit
import Derived.OwnWalkIn
import Derived.TacticsInMore
import Derived.LoopNIn
import Derived.LoopIn
import Derived.Test.YtikidpcgnmffcaaGreatPkPairS3
import Derived.Test.YtikidpcgnmffcaaGreatPkBase
namespace Go.Proofs.YtikidpcgnmffcaaGreat
open Go.RowKit Go.Shelf
set_option linter.unusedVariables false
attribute [local go_sem] Oper.semAt_some

/-- What a round leaves as it was: what is old, and every block of windows and of items. -/
def KpW (n₀ : Nat) (W W' : World) : Prop := Below n₀ W W' ∧ ∀ (b : Nat) (cs : Array Value) (ty : TypeId), (ty = 42 ∨ ty = 40) → W.heap[b]? = some (Obj.cells cs ty (0, 0)) → W'.heap[b]? = some (Obj.cells cs ty (0, 0))

theorem KpW.trans {n₀ : Nat} {A B C : World} (h : KpW n₀ A B) (k : KpW n₀ B C) : KpW n₀ A C := ⟨h.1.trans k.1, fun b cs ty ht hb => k.2 b cs ty ht (h.2 b cs ty ht hb)⟩

theorem KpW.put {n₀ : Nat} {w : World} (hn : n₀ ≤ w.heap.size) (W : World) (l : Nat) (o o' : Obj) (hl : w.heap.size ≤ l) (h : W.heap[l]? = some o) (hc : o.isCells = false) (hw : o.isWalk = false) : KpW n₀ W (W.putObj l o') := by
  refine ⟨belowK_b hn W l o o' hl h hc hw, fun b cs ty _ hb => ?_⟩
  have hne : b ≠ l := by
    rintro rfl
    rw [hb] at h
    cases h
    cases hc
  rw [World.putObj_heap_other hne]
  exact hb

theorem KpW.of_bel {n₀ : Nat} {W W' : World} (hb : Below W.heap.size W W') (hn : n₀ ≤ W.heap.size) : KpW n₀ W W' := ⟨hb.mono hn, fun b cs ty _ h => (hb.block b (Array.getElem?_eq_some_iff.1 h).1).trans h⟩

theorem ownWn_kp {n₀ B : Nat} {W W' : World} {v : Value} {ys : List WnR} (h : OwnWn W B v ys) (hk : KpW n₀ W W') : OwnWn W' B v ys := by
  rcases h with ⟨hl, h | ⟨g, cap, cur, hv, hB, hblk, r⟩⟩
  · exact ⟨hl, Or.inl h⟩
  · exact ⟨hl, Or.inr ⟨g, cap, cur, hv, hB, hk.2 g cur _ (Or.inl rfl) hblk, r⟩⟩

def BxI (W : World) (q : Nat) (x : IwR) : Prop := W.heap[q]? = some (.cells #[.int .i64 x.kd, .int .i64 x.tm, .int .i64 x.ke, .int .i64 x.va, .int .i64 x.nn] 40 (0, 0))

theorem BxI.kp {n₀ q : Nat} {W W' : World} {x : IwR} (h : BxI W q x) (hk : KpW n₀ W W') : BxI W' q x := hk.2 q _ _ (Or.inr rfl) h

theorem BxI.new (W : World) (x : IwR) : BxI (W.alloc (.cells #[.int .i64 x.kd, .int .i64 x.tm, .int .i64 x.ke, .int .i64 x.va, .int .i64 x.nn] 40)) W.heap.size x := World.alloc_heap_new W _

theorem BxI.cells {W : World} {q : Nat} {x : IwR} (h : BxI W q x) : W.cell? ⟨q, 0, none⟩ = some (.int .i64 x.kd) ∧ W.cell? ⟨q, 1, none⟩ = some (.int .i64 x.tm) ∧ W.cell? ⟨q, 2, none⟩ = some (.int .i64 x.ke) ∧ W.cell? ⟨q, 3, none⟩ = some (.int .i64 x.va) ∧ W.cell? ⟨q, 4, none⟩ = some (.int .i64 x.nn) := ⟨(Joins.cell_of_block h 0), (Joins.cell_of_block h 1), (Joins.cell_of_block h 2), (Joins.cell_of_block h 3), (Joins.cell_of_block h 4)⟩

theorem grown_of {W W' : World} (h : Below W.heap.size W W') : W.grownBy W' none := ⟨h.os, h.tape, h.output, h.size, fun k hk _ => h.block k hk⟩

/-- All pairs, as the program tells them. -/
def prsI (s t k z p l e v r : Int) (xs : List IwR) : List LpR := xs.flatMap fun x => (winsAll s t k z p l e v r x.tm).map (mkP x)

def pairsI (s t k z p l e v r : Int) (xs : List IwR) : List LpR := if recsB xs = true then prsI s t k z p l e v r xs else []

theorem prsI_snoc {s t k z p l e v r : Int} {xs : List IwR} {i : Nat} {x : IwR} (h : xs[i]? = some x) : prsI s t k z p l e v r (xs.take (i + 1)) = prsI s t k z p l e v r (xs.take i) ++ (winsAll s t k z p l e v r x.tm).map (mkP x) := by
  unfold prsI; rw [take_snocI h, List.flatMap_append]; simp

theorem prsI_len (s t k z p l e v r : Int) (xs : List IwR) : (prsI s t k z p l e v r xs).length ≤ xs.length * 61 := by
  induction xs with
  | nil => simp [prsI]
  | cons x q ih =>
    have e1 : prsI s t k z p l e v r (x :: q) = (winsAll s t k z p l e v r x.tm).map (mkP x) ++ prsI s t k z p l e v r q := by simp [prsI]
    have := winsAll_len s t k z p l e v r x.tm
    rw [e1, List.length_append, List.length_cons, List.length_map]
    omega

theorem prsI_pre (s t k z p l e v r : Int) (xs : List IwR) (i : Nat) : prsI s t k z p l e v r (xs.take i) <+: prsI s t k z p l e v r xs := by
  refine ⟨prsI s t k z p l e v r (xs.drop i), ?_⟩
  unfold prsI
  rw [← List.flatMap_append, List.take_append_drop]

theorem prsI_in {s t k z p l e v r : Int} {xs : List IwR} {i m : Nat} {x : IwR} (h : xs[i]? = some x) : prsI s t k z p l e v r (xs.take i) ++ ((winsAll s t k z p l e v r x.tm).take m).map (mkP x) <+: prsI s t k z p l e v r xs := by
  refine List.IsPrefix.trans ?_ (prsI_pre s t k z p l e v r xs (i + 1))
  rw [prsI_snoc h]
  refine List.prefix_append_right_inj _ |>.2 ?_
  rw [List.map_take]
  exact List.take_prefix _ _

theorem pairsI_eq (s t k z p l e v r : Int) (xs : List IwR) : pairsI s t k z p l e v r xs = pairsT s t k z p l e v r xs := by
  unfold pairsI pairsT
  cases hr : recsB xs
  · simp
  cases hj : okJob s t k z p l e v r
  · simp only [Bool.false_and]
    rw [if_pos trivial, if_neg (by simp)]
    unfold prsI winsAll
    simp [hj]
  · simp only [Bool.and_self]
    rw [if_pos trivial, if_pos trivial]
    have hall := (recsB_iff hr).2
    unfold prsI prsT prsOf winsAll
    have hin : ∀ x ∈ xs, inB x.tm 0 60 = true := fun x hx => inB_iff.2 (isB_tm (List.all_eq_true.1 hall x hx))
    clear hr hall
    induction xs with
    | nil => rfl
    | cons x q ih =>
      rw [List.flatMap_cons, List.flatMap_cons, ih (fun y hy => hin y (by simp [hy]))]
      simp [hj, hin x (by simp)]

theorem take_snocM {ws : List WnR} {m : Nat} {x : IwR} {y : WnR} {ys : List LpR} (h : ws[m]? = some y) : ys ++ (ws.take (m + 1)).map (mkP x) = (ys ++ (ws.take m).map (mkP x)) ++ [mkP x y] := by rw [take_snocI h]; simp
end Go.Proofs.YtikidpcgnmffcaaGreat
