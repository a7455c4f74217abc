/- Proved here: the iterator over all pairs of records and windows tells them, one behind the other. -/
import Derived.RangeFuncNested
import Derived.RangeFuncBound
import Derived.RangeFuncCalls
import Derived.RangeFuncLeaves
import Derived.RangeFuncBox
import Derived.Shelf.Abstract
import Derived.Shelf.RegionOpen
import Derived.WalkKit
import Derived.OwnWalkIn
import Derived.TacticsInMore
import Derived.LoopNIn
import Derived.LoopIn
import Derived.Test.YtmlnddbbpdijoaaPairS3
namespace Go.Proofs.Ytmlnddbbpdijoaa
open Go.RowKit Go.Shelf
set_option linter.unusedVariables false
attribute [local go_sem] Oper.semAt_some

/-- What a round leaves as it was: what is old, and every block of windows and of items. -/
def KpW (n₀ : Nat) (W W' : World) : Prop := Below n₀ W W' ∧ ∀ (b : Nat) (cs : Array Value) (ty : TypeId), (ty = 36 ∨ ty = 34) → W.heap[b]? = some (Obj.cells cs ty (0, 0)) → W'.heap[b]? = some (Obj.cells cs ty (0, 0))
theorem KpW.rfl' (n₀ : Nat) (W : World) : KpW n₀ W W := ⟨Below.refl _ _, fun _ _ _ _ h => h⟩
theorem KpW.trans {n₀ : Nat} {A B C : World} (h : KpW n₀ A B) (k : KpW n₀ B C) : KpW n₀ A C := ⟨h.1.trans k.1, fun b cs ty ht hb => k.2 b cs ty ht (h.2 b cs ty ht hb)⟩
theorem KpW.put {n₀ : Nat} {w : World} (hn : n₀ ≤ w.heap.size) (W : World) (l : Nat) (o o' : Obj) (hl : w.heap.size ≤ l) (h : W.heap[l]? = some o) (hc : o.isCells = false) (hw : o.isWalk = false) : KpW n₀ W (W.putObj l o') := by
  refine ⟨belowK_b hn W l o o' hl h hc hw, fun b cs ty _ hb => ?_⟩
  have hne : b ≠ l := by
    rintro rfl
    rw [hb] at h
    cases h
    cases hc
  rw [World.putObj_heap_other hne]
  exact hb
theorem KpW.of_bel {n₀ : Nat} {W W' : World} (hb : Below W.heap.size W W') (hn : n₀ ≤ W.heap.size) : KpW n₀ W W' := ⟨hb.mono hn, fun b cs ty _ h => (hb.block b (Array.getElem?_eq_some_iff.1 h).1).trans h⟩
theorem ownWn_kp {n₀ B : Nat} {W W' : World} {v : Value} {ys : List WnR} (h : OwnWn W B v ys) (hk : KpW n₀ W W') : OwnWn W' B v ys := by
  rcases h with ⟨hl, h | ⟨g, cap, cur, hv, hB, hblk, r⟩⟩
  · exact ⟨hl, Or.inl h⟩
  · exact ⟨hl, Or.inr ⟨g, cap, cur, hv, hB, hk.2 g cur _ (Or.inl rfl) hblk, r⟩⟩
def BxI (W : World) (q : Nat) (x : IwR) : Prop := W.heap[q]? = some (.cells #[.int .i64 x.kd, .int .i64 x.tm, .int .i64 x.ke, .int .i64 x.va, .int .i64 x.nn] 34 (0, 0))
theorem BxI.kp {n₀ q : Nat} {W W' : World} {x : IwR} (h : BxI W q x) (hk : KpW n₀ W W') : BxI W' q x := hk.2 q _ _ (Or.inr rfl) h
theorem BxI.new (W : World) (x : IwR) : BxI (W.alloc (.cells #[.int .i64 x.kd, .int .i64 x.tm, .int .i64 x.ke, .int .i64 x.va, .int .i64 x.nn] 34)) W.heap.size x := World.alloc_heap_new W _
theorem BxI.cells {W : World} {q : Nat} {x : IwR} (h : BxI W q x) : W.cell? ⟨q, 0, none⟩ = some (.int .i64 x.kd) ∧ W.cell? ⟨q, 1, none⟩ = some (.int .i64 x.tm) ∧ W.cell? ⟨q, 2, none⟩ = some (.int .i64 x.ke) ∧ W.cell? ⟨q, 3, none⟩ = some (.int .i64 x.va) ∧ W.cell? ⟨q, 4, none⟩ = some (.int .i64 x.nn) := ⟨(Joins.cell_of_block h 0), (Joins.cell_of_block h 1), (Joins.cell_of_block h 2), (Joins.cell_of_block h 3), (Joins.cell_of_block h 4)⟩
theorem grown_of {W W' : World} (h : Below W.heap.size W W') : W.grownBy W' none := ⟨h.os, h.tape, h.output, h.size, fun k hk _ => h.block k hk⟩

/-- All pairs, as the program tells them. -/
def prsI (s t k z p l e v r : Int) (xs : List IwR) : List LpR := xs.flatMap fun x => (winsAll s t k z p l e v r x.tm).map (mkP x)
def pairsI (s t k z p l e v r : Int) (xs : List IwR) : List LpR := if recsB xs = true then prsI s t k z p l e v r xs else []
theorem prsI_snoc {s t k z p l e v r : Int} {xs : List IwR} {i : Nat} {x : IwR} (h : xs[i]? = some x) : prsI s t k z p l e v r (xs.take (i + 1)) = prsI s t k z p l e v r (xs.take i) ++ (winsAll s t k z p l e v r x.tm).map (mkP x) := by
  unfold prsI; rw [take_snocI h, List.flatMap_append]; simp
theorem prsI_len (s t k z p l e v r : Int) (xs : List IwR) : (prsI s t k z p l e v r xs).length ≤ xs.length * 61 := by
  induction xs with
  | nil => simp [prsI]
  | cons x q ih =>
    have e1 : prsI s t k z p l e v r (x :: q) = (winsAll s t k z p l e v r x.tm).map (mkP x) ++ prsI s t k z p l e v r q := by simp [prsI]
    have := winsAll_len s t k z p l e v r x.tm
    rw [e1, List.length_append, List.length_cons, List.length_map]
    omega
theorem prsI_pre (s t k z p l e v r : Int) (xs : List IwR) (i : Nat) : prsI s t k z p l e v r (xs.take i) <+: prsI s t k z p l e v r xs := by
  refine ⟨prsI s t k z p l e v r (xs.drop i), ?_⟩
  unfold prsI
  rw [← List.flatMap_append, List.take_append_drop]
theorem prsI_in {s t k z p l e v r : Int} {xs : List IwR} {i m : Nat} {x : IwR} (h : xs[i]? = some x) : prsI s t k z p l e v r (xs.take i) ++ ((winsAll s t k z p l e v r x.tm).take m).map (mkP x) <+: prsI s t k z p l e v r xs := by
  refine List.IsPrefix.trans ?_ (prsI_pre s t k z p l e v r xs (i + 1))
  rw [prsI_snoc h]
  refine List.prefix_append_right_inj _ |>.2 ?_
  rw [List.map_take]
  exact List.take_prefix _ _
theorem pairsI_eq (s t k z p l e v r : Int) (xs : List IwR) : pairsI s t k z p l e v r xs = pairsT s t k z p l e v r xs := by
  unfold pairsI pairsT
  cases hr : recsB xs
  · simp
  cases hj : okJob s t k z p l e v r
  · simp only [Bool.false_and]
    rw [if_pos trivial, if_neg (by simp)]
    unfold prsI winsAll
    simp [hj]
  · simp only [Bool.and_self]
    rw [if_pos trivial, if_pos trivial]
    have hall := (recsB_iff hr).2
    unfold prsI prsT prsOf winsAll
    have hin : ∀ x ∈ xs, inB x.tm 0 60 = true := fun x hx => inB_iff.2 (isB_tm (List.all_eq_true.1 hall x hx))
    clear hr hall
    induction xs with
    | nil => rfl
    | cons x q ih =>
      rw [List.flatMap_cons, List.flatMap_cons, ih (fun y hy => hin y (by simp [hy]))]
      simp [hj, hin x (by simp)]
theorem take_snocM {ws : List WnR} {m : Nat} {x : IwR} {y : WnR} {ys : List LpR} (h : ws[m]? = some y) : ys ++ (ws.take (m + 1)).map (mkP x) = (ys ++ (ws.take m).map (mkP x)) ++ [mkP x y] := by rw [take_snocI h]; simp

set_option maxRecDepth 100000 in
set_option maxHeartbeats 4000000 in
theorem pairs1_in (n : Nat) (hn : 2 ≤ n) (lb0 Br Bj n₀ len cap : Nat) (a : Option Addr) (xs : List IwR) (s t k z p l e : Int) (b : Bool) (v r : Int) (J Jx : List LpR → World → Prop)
    (hY : ∀ pre x W, J pre W → pre.length < 10000 → YieldAt Fence.wide (n - 1) Try.prog lb0 #[.agg #[.int .i64 x.kd, .int .i64 x.tm, .int .i64 x.ke, .int .i64 x.va, .int .i64 x.nn, .int .i64 x.st, .int .i64 x.en]] W fun e W' =>
      (e = .returned (.bool true) ∧ J (pre ++ [x]) W' ∧ KpW n₀ W W') ∨ (e = .returned (.bool false) ∧ Jx (pre ++ [x]) W'))
    (W : World) (hJ : AbidesFrom W.heap.size J) (hJx : AbidesFrom W.heap.size Jx) (hnW : n₀ ≤ W.heap.size) (hBr : W.cell? ⟨Br, 0, none⟩ = some (.slice a len cap)) (hrn : Br < n₀) (hBj : W.cell? ⟨Bj, 0, none⟩ = some (.int .i64 s) ∧ W.cell? ⟨Bj, 1, none⟩ = some (.int .i64 t) ∧ W.cell? ⟨Bj, 2, none⟩ = some (.int .i64 k) ∧ W.cell? ⟨Bj, 3, none⟩ = some (.int .i64 z) ∧ W.cell? ⟨Bj, 4, none⟩ = some (.int .i64 p) ∧ W.cell? ⟨Bj, 5, none⟩ = some (.int .i64 l) ∧ W.cell? ⟨Bj, 6, none⟩ = some (.int .i64 e) ∧ W.cell? ⟨Bj, 7, none⟩ = some (.bool b) ∧ W.cell? ⟨Bj, 8, none⟩ = some (.int .i64 v) ∧ W.cell? ⟨Bj, 9, none⟩ = some (.int .i64 r)) (hjn : Bj < n₀) (hI : IwRs W a len xs) (hlow : ∀ g o, 0 < len → a = some ⟨g, o, none⟩ → g < n₀) (h0 : J [] W) :
    CallsIn Fence.wide n Try.prog 33 #[.func (.yield lb0) #[] #[], .pointer (some ⟨Br, 0, none⟩), .pointer (some ⟨Bj, 0, none⟩)] W fun e' W' => (∃ v', e' = .returned v') ∧
      ((∃ ys, ys = pairsI s t k z p l e v r xs ∧ J ys W') ∨ (∃ pre, pre <+: pairsI s t k z p l e v r xs ∧ Jx pre W')) := by
  have hm := hI.2.1
  unfold maxLen at hm
  refine callsIn_of_wp Try.func33 rfl trivial ?_ rfl
  simp only [Try.ntmps33, List.size_toArray, List.length_cons, List.length_nil, Nat.reduceAdd, Nat.reduceSub, Array.replicate_succ, Array.replicate_zero, List.push_toArray, List.append_toArray, List.nil_append, List.cons_append]
  cases hrB : recsB xs
  · have HQ : Hid (pairsI s t k z p l e v r xs = []) := hide (by unfold pairsI; rw [if_neg (by simp [hrB])])
    gi_wp2_with (refine ⟨trivial, fun _ => (by omega), ?_⟩; gi_at_call 34; refine (callsIn_wide.2 (recsok_any _ _ _ xs _ hI)).mono ?_; rintro e' w' ⟨rfl, hb⟩)
    refine bodyPost_ret (results_none rfl _ _ _) rfl ?_
    exact ⟨⟨_, rfl⟩, .inl ⟨_, (unhide HQ).symm, hJ _ W w' none h0 (grown_of hb) (fun r e => by cases e)⟩⟩
  · have HQ : Hid (pairsI s t k z p l e v r xs = prsI s t k z p l e v r xs) := hide (by unfold pairsI; rw [if_pos hrB])
    obtain ⟨h120, _⟩ := recsB_iff hrB
    have hxl := hI.1
    gi_wp2_with (refine ⟨trivial, fun _ => (by omega), ?_⟩; gi_at_call 34; refine (callsIn_wide.2 (recsok_any _ _ _ xs _ hI)).mono ?_; rintro e' w0 ⟨rfl, hb0⟩; have hBr0 := (hb0.cell (p := ⟨Br, 0, none⟩) (Nat.lt_of_lt_of_le hrn hnW)).trans hBr)
    have hJ0 := hJ _ W w0 none h0 (grown_of hb0) (fun r e => by cases e)
    gi_loopw [13] (fun iv wr => ∃ i : Nat, i ≤ len ∧ iv = .int .i64 i ∧ J (prsI s t k z p l e v r (xs.take i)) wr ∧ Below n₀ W wr) (fun iv _ => len - (intOf iv).toNat)
    case atStart => exact ⟨0, Nat.zero_le _, rfl, hJ0, hb0.mono hnW⟩
    case round =>
      obtain ⟨i, hil, rfl, hJs, hnx⟩ := hrel
      by_cases hlt : i < len
      · obtain ⟨_, _, hx⟩ := hI
        obtain ⟨g, o, rfl, hr⟩ := hx.resolve_left (by omega)
        obtain ⟨x, hxk⟩ : ∃ x, xs[i]? = some x := ⟨_, List.getElem?_eq_getElem (by omega)⟩
        have hX := hide hxk
        have hg : g < n₀ := hlow g o (by omega) rfl
        obtain ⟨c0, c1, c2, c3, c4⟩ := (hr i _ hxk).below hnx hg
        obtain ⟨q0, q1, q2, q3, q4, q5, q6, q7, q8, q9⟩ := hBj
        have z0 := (hnx.cell (p := ⟨Bj, 0, none⟩) hjn).trans q0
        have z1 := (hnx.cell (p := ⟨Bj, 1, none⟩) hjn).trans q1
        have z2 := (hnx.cell (p := ⟨Bj, 2, none⟩) hjn).trans q2
        have z3 := (hnx.cell (p := ⟨Bj, 3, none⟩) hjn).trans q3
        have z4 := (hnx.cell (p := ⟨Bj, 4, none⟩) hjn).trans q4
        have z5 := (hnx.cell (p := ⟨Bj, 5, none⟩) hjn).trans q5
        have z6 := (hnx.cell (p := ⟨Bj, 6, none⟩) hjn).trans q6
        have z7 := (hnx.cell (p := ⟨Bj, 7, none⟩) hjn).trans q7
        have z8 := (hnx.cell (p := ⟨Bj, 8, none⟩) hjn).trans q8
        have z9 := (hnx.cell (p := ⟨Bj, 9, none⟩) hjn).trans q9
        have hwj : Bj < wr.heap.size := Nat.lt_of_lt_of_le hjn (Nat.le_trans hnW hnx.size)
        have hwl := winsAll_len s t k z p l e v r x.tm
        have hpl := prsI_len s t k z p l e v r (xs.take i)
        rw [List.length_take] at hpl
        clear hx hxk hr q0 q1 q2 q3 q4 q5 q6 q7 q8 q9
        gi_wp2_with (refine ⟨trivial, fun _ => (by omega), ?_⟩; gi_at_call 8; refine (callsIn_wide.2 (implwinof_any _ _ _ _ _ _ _ _ _ _ x.tm _)).mono ?_; rintro e' wl ⟨vl, rfl, hOl, hbl⟩; obtain ⟨al, capl, rfl, HL0, _, _⟩ := holdWn hOl (Nat.le_trans hwl (by omega)))
        have hbl' : Below wr.heap.size wr wl := bel_trans (bel_one _ _) hbl
        have hJl := hJ _ wr wl none hJs (grown_of hbl') (fun r e => by cases e)
        have hBX : BxI wl wr.heap.size x := (BxI.new wr x).kp (KpW.of_bel (n₀ := n₀) hbl (by have := hnx.size; simp; omega))
        have hnl : Below n₀ W wl := hnx.trans (hbl'.mono (Nat.le_trans hnW hnx.size))
        clear HL0 hbl hbl' hJs hnx c0 c1 c2 c3 c4 z0 z1 z2 z3 z4 z5 z6 z7 z8 z9
        gi_loopw [22] (fun mv w2 => ∃ m : Nat, m ≤ (winsAll s t k z p l e v r x.tm).length ∧ mv = .int .i64 m ∧ J (prsI s t k z p l e v r (xs.take i) ++ ((winsAll s t k z p l e v r x.tm).take m).map (mkP x)) w2 ∧ Below n₀ W w2 ∧ BxI w2 wr.heap.size x ∧ OwnWn w2 (wr.alloc (.cells #[.int .i64 x.kd, .int .i64 x.tm, .int .i64 x.ke, .int .i64 x.va, .int .i64 x.nn] 34)).heap.size (.slice al (winsAll s t k z p l e v r x.tm).length capl) (winsAll s t k z p l e v r x.tm)) (fun mv _ => (winsAll s t k z p l e v r x.tm).length - (intOf mv).toNat)
        case atStart => exact ⟨0, Nat.zero_le _, rfl, by rw [List.take_zero, List.map_nil, List.append_nil]; exact hJl, hnl, hBX, hOl⟩
        case round =>
          obtain ⟨m, hml, rfl, hJm, hn2, hBX2, hO2⟩ := hrel
          by_cases hmlt : m < (winsAll s t k z p l e v r x.tm).length
          · obtain ⟨a', cap', e9, HL, _, _⟩ := holdWn hO2 (Nat.le_trans hwl (by omega))
            simp at e9
            obtain ⟨rfl, rfl⟩ := e9
            obtain ⟨_, _, hy⟩ := HL
            obtain ⟨gl, ol, rfl, hrl⟩ := hy.resolve_left (by omega)
            obtain ⟨y, hyk⟩ : ∃ y, (winsAll s t k z p l e v r x.tm)[m]? = some y := ⟨_, List.getElem?_eq_getElem hmlt⟩
            have hYk := hide hyk
            obtain ⟨b0, b1⟩ := hrl m _ hyk
            obtain ⟨x0, x1, x2, x3, x4⟩ := hBX2.cells
            have hlq := (Array.getElem?_eq_some_iff.1 hBX2).1
            have hJa := hJ _ wr (wr.alloc (.cells #[.int .i64 y.a, .int .i64 y.b] 36)) none hJm (grown_of (bel_one _ _)) (fun r e => by cases e)
            obtain ⟨fn, tmps, assign, body, hyl, hR⟩ := hY _ (mkP x y) _ hJa (by rw [List.length_append, List.length_map, List.length_take]; omega)
            dsimp only [mkP] at hyl hR
            have HB2 := hide hBX2
            have HO2 := hide hO2
            clear hy hyk hrl hJa hBX2 hO2
            gi_wp2
            refine ⟨fun _ => (by omega), hR.mono ?_⟩
            rintro e' W3 (⟨rfl, hJ3, hk3⟩ | ⟨rfl, hJx3⟩)
            · gi_wp2
              go_roundw
              case rel => exact ⟨m + 1, by omega, by go_num, by rw [take_snocM (unhide hYk)]; exact hJ3, (hn2.trans ((bel_one _ _).mono (Nat.le_trans hnW hn2.size))).trans hk3.1, ((unhide HB2).kp (KpW.of_bel (n₀ := n₀) (bel_one _ _) (Nat.le_trans hnW hn2.size))).kp hk3, ownWn_kp (ownBel (unhide HO2) (bel_one _ _)) hk3⟩
              case measure => simp [intOf]; omega
            · gi_wp2
              refine bodyPost_ret (results_none rfl _ _ _) rfl ?_
              exact ⟨⟨_, rfl⟩, .inr ⟨_, by rw [unhide HQ]; exact (take_snocM (unhide hYk)) ▸ prsI_in (unhide hX), hJx3⟩⟩
          · obtain rfl : m = (winsAll s t k z p l e v r x.tm).length := by omega
            have HQ2 : Hid (prsI s t k z p l e v r (xs.take i) ++ ((winsAll s t k z p l e v r x.tm).take (winsAll s t k z p l e v r x.tm).length).map (mkP x) = prsI s t k z p l e v r (xs.take (i + 1))) := hide (by rw [prsI_snoc (unhide hX), List.take_of_length_le (Nat.le_refl _)])
            rw [unhide HQ2] at hJm
            gi_wp2
            go_roundw
            case rel => exact ⟨i + 1, by omega, by go_num, hJm, hn2⟩
            case measure => simp [intOf]; omega
      · gi_wp2
        go_end0
        exact ⟨⟨_, rfl⟩, .inl ⟨_, by rw [unhide HQ, List.take_of_length_le (by omega)], hJs⟩⟩
end Go.Proofs.Ytmlnddbbpdijoaa
