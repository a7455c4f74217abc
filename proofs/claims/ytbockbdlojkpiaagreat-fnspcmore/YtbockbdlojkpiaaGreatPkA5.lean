/- Laid together: texts that were built one by one. -/
import Derived.Test.YtbockbdlojkpiaaGreatPkA4
import Derived.Test.YtbockbdlojkpiaaGreatPkA1
import Derived.Test.YtbockbdlojkpiaaGreatPkA3
import Derived.Test.YtbockbdlojkpiaaGreatPkA2
import Derived.Test.YtbockbdlojkpiaaGreatTabFnd
import Derived.BigQuiet
import Derived.Deep.DeepCutAuto
import Derived.Deep.RegionHeld3
/- Proved here: the iterator over all pairs tells them one behind the other, each with numbers that are ints. -/
namespace Go.Proofs.YtbockbdlojkpiaaGreat
open Go.RowKit Go.Shelf
set_option linter.unusedVariables false
attribute [local go_sem] Oper.semAt_some

/-- The key and the window of a pair are ints. -/
def PB (x : LpR) : Prop := ok3 (x.ke, x.st, x.en)

set_option maxRecDepth 100000 in
set_option maxHeartbeats 4000000 in
theorem pairs1B_in (n : Nat) (hn : 2 ≤ n) (lb0 Br Bj n₀ len cap : Nat) (a : Option Addr) (xs : List IwR) (s t k z p l e : Int) (b : Bool) (v r : Int) (J Jx : List LpR → World → Prop)
    (hPB : ∀ x ∈ pairsI s t k z p l e v r xs, PB x)
    (hY : ∀ pre x W, PB x → J pre W → pre.length < 10000 → YieldAt Fence.wide (n - 1) Tryz.prog lb0 #[.agg #[.int .i64 x.kd, .int .i64 x.tm, .int .i64 x.ke, .int .i64 x.va, .int .i64 x.nn, .int .i64 x.st, .int .i64 x.en]] W fun e W' =>
      (e = .returned (.bool true) ∧ J (pre ++ [x]) W' ∧ KpW n₀ W W') ∨ (e = .returned (.bool false) ∧ Jx (pre ++ [x]) W'))
    (W : World) (hJ : AbidesFrom W.heap.size J) (hJx : AbidesFrom W.heap.size Jx) (hnW : n₀ ≤ W.heap.size) (hBr : W.cell? ⟨Br, 0, none⟩ = some (.slice a len cap)) (hrn : Br < n₀) (hBj : W.cell? ⟨Bj, 0, none⟩ = some (.int .i64 s) ∧ W.cell? ⟨Bj, 1, none⟩ = some (.int .i64 t) ∧ W.cell? ⟨Bj, 2, none⟩ = some (.int .i64 k) ∧ W.cell? ⟨Bj, 3, none⟩ = some (.int .i64 z) ∧ W.cell? ⟨Bj, 4, none⟩ = some (.int .i64 p) ∧ W.cell? ⟨Bj, 5, none⟩ = some (.int .i64 l) ∧ W.cell? ⟨Bj, 6, none⟩ = some (.int .i64 e) ∧ W.cell? ⟨Bj, 7, none⟩ = some (.bool b) ∧ W.cell? ⟨Bj, 8, none⟩ = some (.int .i64 v) ∧ W.cell? ⟨Bj, 9, none⟩ = some (.int .i64 r)) (hjn : Bj < n₀) (hI : IwRs W a len xs) (hlow : ∀ g o, 0 < len → a = some ⟨g, o, none⟩ → g < n₀) (h0 : J [] W) :
    CallsIn Fence.wide n Tryz.prog 44 #[.func (.yield lb0) #[] #[], .pointer (some ⟨Br, 0, none⟩), .pointer (some ⟨Bj, 0, none⟩)] W fun e' W' => (∃ v', e' = .returned v') ∧
      ((∃ ys, ys = pairsI s t k z p l e v r xs ∧ J ys W') ∨ (∃ pre, pre <+: pairsI s t k z p l e v r xs ∧ Jx pre W')) := by
  have hm := hI.2.1
  unfold maxLen at hm
  refine callsIn_of_wp Tryz.func44 rfl trivial ?_ rfl
  simp only [Tryz.ntmps44, List.size_toArray, List.length_cons, List.length_nil, Nat.reduceAdd, Nat.reduceSub, Array.replicate_succ, Array.replicate_zero, List.push_toArray, List.append_toArray, List.nil_append, List.cons_append]
  cases hrB : recsB xs
  · have HQ : Hid (pairsI s t k z p l e v r xs = []) := hide (by unfold pairsI; rw [if_neg (by simp [hrB])])
    gi_wp2_with (refine ⟨trivial, fun _ => (by omega), ?_⟩; gi_at_call 45; refine (callsIn_wide.2 (recsok_any _ _ _ xs _ hI)).mono ?_; rintro e' w' ⟨rfl, hb⟩)
    refine bodyPost_ret (results_none rfl _ _ _) rfl ?_
    exact ⟨⟨_, rfl⟩, .inl ⟨_, (unhide HQ).symm, hJ _ W w' none h0 (grown_of hb) (fun r e => by cases e)⟩⟩
  · have HQ : Hid (pairsI s t k z p l e v r xs = prsI s t k z p l e v r xs) := hide (by unfold pairsI; rw [if_pos hrB])
    obtain ⟨h120, _⟩ := recsB_iff hrB
    have hxl := hI.1
    gi_wp2_with (refine ⟨trivial, fun _ => (by omega), ?_⟩; gi_at_call 45; refine (callsIn_wide.2 (recsok_any _ _ _ xs _ hI)).mono ?_; rintro e' w0 ⟨rfl, hb0⟩; have hBr0 := (hb0.cell (p := ⟨Br, 0, none⟩) (Nat.lt_of_lt_of_le hrn hnW)).trans hBr)
    have hJ0 := hJ _ W w0 none h0 (grown_of hb0) (fun r e => by cases e)
    gi_loopw [13] (fun iv wr => ∃ i : Nat, i ≤ len ∧ iv = .int .i64 i ∧ J (prsI s t k z p l e v r (xs.take i)) wr ∧ Below n₀ W wr) (fun iv _ => len - (intOf iv).toNat)
    case atStart => exact ⟨0, Nat.zero_le _, rfl, hJ0, hb0.mono hnW⟩
    case round =>
      obtain ⟨i, hil, rfl, hJs, hnx⟩ := hrel
      by_cases hlt : i < len
      · obtain ⟨_, _, hx⟩ := hI
        obtain ⟨g, o, rfl, hr⟩ := hx.resolve_left (by omega)
        obtain ⟨x, hxk⟩ : ∃ x, xs[i]? = some x := ⟨_, List.getElem?_eq_getElem (by omega)⟩
        have hX := hide hxk
        have hg : g < n₀ := hlow g o (by omega) rfl
        obtain ⟨c0, c1, c2, c3, c4⟩ := (hr i _ hxk).below hnx hg
        obtain ⟨q0, q1, q2, q3, q4, q5, q6, q7, q8, q9⟩ := hBj
        have z0 := (hnx.cell (p := ⟨Bj, 0, none⟩) hjn).trans q0
        have z1 := (hnx.cell (p := ⟨Bj, 1, none⟩) hjn).trans q1
        have z2 := (hnx.cell (p := ⟨Bj, 2, none⟩) hjn).trans q2
        have z3 := (hnx.cell (p := ⟨Bj, 3, none⟩) hjn).trans q3
        have z4 := (hnx.cell (p := ⟨Bj, 4, none⟩) hjn).trans q4
        have z5 := (hnx.cell (p := ⟨Bj, 5, none⟩) hjn).trans q5
        have z6 := (hnx.cell (p := ⟨Bj, 6, none⟩) hjn).trans q6
        have z7 := (hnx.cell (p := ⟨Bj, 7, none⟩) hjn).trans q7
        have z8 := (hnx.cell (p := ⟨Bj, 8, none⟩) hjn).trans q8
        have z9 := (hnx.cell (p := ⟨Bj, 9, none⟩) hjn).trans q9
        have hwj : Bj < wr.heap.size := Nat.lt_of_lt_of_le hjn (Nat.le_trans hnW hnx.size)
        have hwl := winsAll_len s t k z p l e v r x.tm
        have hpl := prsI_len s t k z p l e v r (xs.take i)
        rw [List.length_take] at hpl
        clear hx hxk hr q0 q1 q2 q3 q4 q5 q6 q7 q8 q9
        gi_wp2_with (refine ⟨trivial, fun _ => (by omega), ?_⟩; gi_at_call 19; refine (callsIn_wide.2 (implwinof_any _ _ _ _ _ _ _ _ _ _ x.tm _)).mono ?_; rintro e' wl ⟨vl, rfl, hOl, hbl⟩; obtain ⟨al, capl, rfl, HL0, _, _⟩ := holdWn hOl (Nat.le_trans hwl (by omega)))
        have hbl' : Below wr.heap.size wr wl := bel_trans (bel_one _ _) hbl
        have hJl := hJ _ wr wl none hJs (grown_of hbl') (fun r e => by cases e)
        have hBX : BxI wl wr.heap.size x := (BxI.new wr x).kp (KpW.of_bel (n₀ := n₀) hbl (by have := hnx.size; simp; omega))
        have hnl : Below n₀ W wl := hnx.trans (hbl'.mono (Nat.le_trans hnW hnx.size))
        clear HL0 hbl hbl' hJs hnx c0 c1 c2 c3 c4 z0 z1 z2 z3 z4 z5 z6 z7 z8 z9
        gi_loopw [22] (fun mv w2 => ∃ m : Nat, m ≤ (winsAll s t k z p l e v r x.tm).length ∧ mv = .int .i64 m ∧ J (prsI s t k z p l e v r (xs.take i) ++ ((winsAll s t k z p l e v r x.tm).take m).map (mkP x)) w2 ∧ Below n₀ W w2 ∧ BxI w2 wr.heap.size x ∧ OwnWn w2 (wr.alloc (.cells #[.int .i64 x.kd, .int .i64 x.tm, .int .i64 x.ke, .int .i64 x.va, .int .i64 x.nn] 41)).heap.size (.slice al (winsAll s t k z p l e v r x.tm).length capl) (winsAll s t k z p l e v r x.tm)) (fun mv _ => (winsAll s t k z p l e v r x.tm).length - (intOf mv).toNat)
        case atStart => exact ⟨0, Nat.zero_le _, rfl, by rw [List.take_zero, List.map_nil, List.append_nil]; exact hJl, hnl, hBX, hOl⟩
        case round =>
          obtain ⟨m, hml, rfl, hJm, hn2, hBX2, hO2⟩ := hrel
          by_cases hmlt : m < (winsAll s t k z p l e v r x.tm).length
          · obtain ⟨a', cap', e9, HL, _, _⟩ := holdWn hO2 (Nat.le_trans hwl (by omega))
            simp at e9
            obtain ⟨rfl, rfl⟩ := e9
            obtain ⟨_, _, hy⟩ := HL
            obtain ⟨gl, ol, rfl, hrl⟩ := hy.resolve_left (by omega)
            obtain ⟨y, hyk⟩ : ∃ y, (winsAll s t k z p l e v r x.tm)[m]? = some y := ⟨_, List.getElem?_eq_getElem hmlt⟩
            have hYk := hide hyk
            obtain ⟨b0, b1⟩ := hrl m _ hyk
            obtain ⟨x0, x1, x2, x3, x4⟩ := hBX2.cells
            have hlq := (Array.getElem?_eq_some_iff.1 hBX2).1
            have hJa := hJ _ wr (wr.alloc (.cells #[.int .i64 y.a, .int .i64 y.b] 35)) none hJm (grown_of (bel_one _ _)) (fun r e => by cases e)
            have hzp : PB (mkP x y) := hPB _ (by rw [unhide HQ]; exact (prsI_in (s := s) (t := t) (k := k) (z := z) (p := p) (l := l) (e := e) (v := v) (r := r) (m := m + 1) (unhide hX)).subset (by rw [take_snocM (unhide hYk)]; simp))
            obtain ⟨fn, tmps, assign, body, hyl, hR⟩ := hY _ (mkP x y) _ hzp hJa (by rw [List.length_append, List.length_map, List.length_take]; omega)
            dsimp only [mkP] at hyl hR
            have HB2 := hide hBX2
            have HO2 := hide hO2
            clear hy hyk hrl hJa hBX2 hO2
            gi_wp2
            refine ⟨fun _ => (by omega), hR.mono ?_⟩
            rintro e' W3 (⟨rfl, hJ3, hk3⟩ | ⟨rfl, hJx3⟩)
            · gi_wp2
              go_roundw
              case rel => exact ⟨m + 1, by omega, by go_num, by rw [take_snocM (unhide hYk)]; exact hJ3, (hn2.trans ((bel_one _ _).mono (Nat.le_trans hnW hn2.size))).trans hk3.1, ((unhide HB2).kp (KpW.of_bel (n₀ := n₀) (bel_one _ _) (Nat.le_trans hnW hn2.size))).kp hk3, ownWn_kp (ownBel (unhide HO2) (bel_one _ _)) hk3⟩
              case measure => simp [intOf]; omega
            · gi_wp2
              refine bodyPost_ret (results_none rfl _ _ _) rfl ?_
              exact ⟨⟨_, rfl⟩, .inr ⟨_, by rw [unhide HQ]; exact (take_snocM (unhide hYk)) ▸ prsI_in (unhide hX), hJx3⟩⟩
          · obtain rfl : m = (winsAll s t k z p l e v r x.tm).length := by omega
            have HQ2 : Hid (prsI s t k z p l e v r (xs.take i) ++ ((winsAll s t k z p l e v r x.tm).take (winsAll s t k z p l e v r x.tm).length).map (mkP x) = prsI s t k z p l e v r (xs.take (i + 1))) := hide (by rw [prsI_snoc (unhide hX), List.take_of_length_le (Nat.le_refl _)])
            rw [unhide HQ2] at hJm
            gi_wp2
            go_roundw
            case rel => exact ⟨i + 1, by omega, by go_num, hJm, hn2⟩
            case measure => simp [intOf]; omega
      · gi_wp2
        go_end0
        exact ⟨⟨_, rfl⟩, .inl ⟨_, by rw [unhide HQ, List.take_of_length_le (by omega)], hJs⟩⟩

/-- Pairs whose numbers are ints. -/
abbrev LpB := {x : LpR // PB x}
theorem lift_pb : ∀ (l : List LpR), (∀ x ∈ l, PB x) → ∃ l' : List LpB, l'.map (·.1) = l
  | [], _ => ⟨[], rfl⟩
  | x :: t, h => by
    obtain ⟨t', ht⟩ := lift_pb t (fun y hy => h y (List.mem_cons_of_mem _ hy))
    exact ⟨⟨x, h x (by simp)⟩ :: t', by simp [ht]⟩
theorem map_inj : ∀ (a b : List LpB), a.map (·.1) = b.map (·.1) → a = b
  | [], [], _ => rfl
  | [], _ :: _, h => by simp at h
  | _ :: _, [], h => by simp at h
  | x :: a, y :: b, h => by
    simp at h
    rw [Subtype.ext h.1, map_inj a b h.2]
theorem pairsB_stops (n : Nat) (hn : 2 ≤ n) (Br Bj len cap : Nat) (a : Option Addr) (xs : List IwR) (s t k z p l e : Int) (b : Bool) (v r : Int) (w : World) (n₀ : Nat) (hn₀ : n₀ ≤ w.heap.size) (hBr : w.cell? ⟨Br, 0, none⟩ = some (.slice a len cap)) (hrn : Br < n₀) (hBj : w.cell? ⟨Bj, 0, none⟩ = some (.int .i64 s) ∧ w.cell? ⟨Bj, 1, none⟩ = some (.int .i64 t) ∧ w.cell? ⟨Bj, 2, none⟩ = some (.int .i64 k) ∧ w.cell? ⟨Bj, 3, none⟩ = some (.int .i64 z) ∧ w.cell? ⟨Bj, 4, none⟩ = some (.int .i64 p) ∧ w.cell? ⟨Bj, 5, none⟩ = some (.int .i64 l) ∧ w.cell? ⟨Bj, 6, none⟩ = some (.int .i64 e) ∧ w.cell? ⟨Bj, 7, none⟩ = some (.bool b) ∧ w.cell? ⟨Bj, 8, none⟩ = some (.int .i64 v) ∧ w.cell? ⟨Bj, 9, none⟩ = some (.int .i64 r)) (hjn : Bj < n₀) (hI : IwRs w a len xs) (hlow : ∀ g o, 0 < len → a = some ⟨g, o, none⟩ → g < n₀) (PR : List LpB) (hPR : PR.map (·.1) = pairsI s t k z p l e v r xs) :
    SeqStopsK Fence.wide n Tryz.prog 44 #[.pointer (some ⟨Br, 0, none⟩), .pointer (some ⟨Bj, 0, none⟩)] (fun x : LpB => #[.agg #[.int .i64 x.1.kd, .int .i64 x.1.tm, .int .i64 x.1.ke, .int .i64 x.1.va, .int .i64 x.1.nn, .int .i64 x.1.st, .int .i64 x.1.en]]) (KpW n₀) (fun ys => ys = PR) (fun pre => True) 10000 w := fun lb0 J Jx W hW hJ hJx hY h0 => by
  obtain ⟨q0, q1, q2, q3, q4, q5, q6, q7, q8, q9⟩ := hBj
  have hB := Nat.lt_of_lt_of_le hjn hn₀
  refine (pairs1B_in n hn lb0 Br Bj n₀ len cap a xs s t k z p l e b v r (fun l W => ∃ l' : List LpB, l'.map (·.1) = l ∧ J l' W) (fun l W => ∃ l' : List LpB, l'.map (·.1) = l ∧ Jx l' W) (fun x hx => by rw [← hPR] at hx; obtain ⟨y, _, rfl⟩ := List.mem_map.1 hx; exact y.2) ?_ W ?_ ?_ (Nat.le_trans hn₀ hW.size) ((hW.cell (p := ⟨Br, 0, none⟩) (Nat.lt_of_lt_of_le hrn hn₀)).trans hBr) hrn ⟨(hW.cell (p := ⟨Bj, 0, none⟩) hB).trans q0, (hW.cell (p := ⟨Bj, 1, none⟩) hB).trans q1, (hW.cell (p := ⟨Bj, 2, none⟩) hB).trans q2, (hW.cell (p := ⟨Bj, 3, none⟩) hB).trans q3, (hW.cell (p := ⟨Bj, 4, none⟩) hB).trans q4, (hW.cell (p := ⟨Bj, 5, none⟩) hB).trans q5, (hW.cell (p := ⟨Bj, 6, none⟩) hB).trans q6, (hW.cell (p := ⟨Bj, 7, none⟩) hB).trans q7, (hW.cell (p := ⟨Bj, 8, none⟩) hB).trans q8, (hW.cell (p := ⟨Bj, 9, none⟩) hB).trans q9⟩ hjn (hI.below hW) hlow ⟨[], rfl, h0⟩).mono ?_
  · rintro pre x W1 hx ⟨pre', rfl, hj⟩ hl
    obtain ⟨fn, tmps, assign, body, hy, hR⟩ := hY pre' ⟨x, hx⟩ W1 hj (by simpa using hl)
    refine ⟨fn, tmps, assign, body, hy, hR.mono ?_⟩
    rintro e9 W' (⟨rfl, h1, h2⟩ | ⟨rfl, h1⟩)
    · exact .inl ⟨rfl, ⟨pre' ++ [⟨x, hx⟩], by simp, h1⟩, h2⟩
    · exact .inr ⟨rfl, ⟨pre' ++ [⟨x, hx⟩], by simp, h1⟩⟩
  · rintro s9 A B row ⟨l', e1, hj⟩ hg hr
    exact ⟨l', e1, hJ l' A B row hj hg hr⟩
  · rintro s9 A B row ⟨l', e1, hj⟩ hg hr
    exact ⟨l', e1, hJx l' A B row hj hg hr⟩
  · rintro e9 W' ⟨hv, ⟨ys, rfl, l', e1, hj⟩ | ⟨pre, hp, l', e1, hj⟩⟩
    · exact ⟨hv, .inl ⟨l', map_inj _ _ (e1.trans hPR.symm), hj⟩⟩
    · exact ⟨hv, .inr ⟨l', trivial, hj⟩⟩
end Go.Proofs.YtbockbdlojkpiaaGreat
/- Proved here: the table of pairs, each window by itself, in the program. -/
namespace Go.Proofs.YtbockbdlojkpiaaGreat
open Go.ChangeShapes Go.WideShapes Go.ChangeAt Go.RowKit Go.Shelf Go.Maps
set_option linter.unusedVariables false

set_option linter.unusedSimpArgs false
attribute [local go_sem] Oper.semAt_some
def pnB (x : LpB) : PnR := pnOf x.1
theorem impladd_is {n s l m v x y u t : Int} (w : World) (h : Hid (addF (n, s, l, m) v = (x, y, u, t))) : Calls Tryz.prog 13 #[.agg #[.int .i64 n, .int .i64 s, .int .i64 l, .int .i64 m], .int .i64 v] w fun e w' => e = .returned (.agg #[.int .i64 x, .int .i64 y, .int .i64 u, .int .i64 t]) ∧ Below w.heap.size w w' := by
  have h9 := impladd_any n s l m v w
  have h8 := unhide h
  simp only [addF, Prod.mk.injEq] at h8
  obtain ⟨rfl, rfl, rfl, rfl⟩ := h8
  exact h9
def actWn (w : World) (gf : Nat) (lb : Array Value) (x : LpB) (q : Nat) : Act := { tmps := #[(.func (.func gf) #[] lb), undef, .slice none 0 0, .pointer (some ⟨w.heap.size + 1, 0, none⟩), .pointer (some ⟨q, 0, none⟩), undef, .map (some w.heap.size), (.func (.func gf) #[] lb), .agg #[.int .i64 x.1.kd, .int .i64 x.1.tm, .int .i64 x.1.ke, .int .i64 x.1.va, .int .i64 x.1.nn, .int .i64 x.1.st, .int .i64 x.1.en], undef, undef, undef, undef, undef, undef, undef, undef, undef, undef, undef, undef, undef, undef, undef, undef, undef], defers := [] }
/-- What stands between two rounds. -/
def WnI (w : World) (pre : List LpB) (W : World) : Prop := OwnsV W w.heap.size pre.length (fun q => (mapF true (pre.map pnB) q).map agV) ∧ W.heap[w.heap.size + 1]? = some (.cells #[.map (some w.heap.size)] 78 (0, 0)) ∧ Below w.heap.size w W
theorem wnI_own (w : World) (B : Nat) (hB : w.heap.size + 1 < B) : OwnFrom B (WnI w) := fun s W W' row h hg hr => by
  obtain ⟨h1, h2, h3⟩ := h
  have hne : ∀ k, k < B → some k ≠ row := fun k hk e => by have := (hr k e.symm).1; omega
  refine ⟨OwnsOp.grown h1 hg (hne _ (by omega)), (hg.block _ (Array.getElem?_eq_some_iff.1 h2).1 (hne _ hB)).trans h2, h3.grown hg h3.size (fun k e => by have := (hr k e).1; omega)⟩
theorem mapF_app (pc : Bool) (ps : List PnR) (p : PnR) : mapF pc (ps ++ [p]) = stepF pc (mapF pc ps) p := by unfold mapF; rw [List.foldl_append]; rfl
set_option maxRecDepth 100000 in
set_option maxHeartbeats 8000000 in
theorem windows_any (gf : Nat) (lb : Array Value) (eg : ∀ args w, (callFunc gf args).run Tryz.prog w = .ok (.enter gf args) w) (PR : List LpB) (hPl : PR.length ≤ 10000) (w : World)
    (hseq : SeqStopsK Fence.wide 29 Tryz.prog gf lb (fun x : LpB => #[.agg #[.int .i64 x.1.kd, .int .i64 x.1.tm, .int .i64 x.1.ke, .int .i64 x.1.va, .int .i64 x.1.nn, .int .i64 x.1.st, .int .i64 x.1.en]]) (KpW w.heap.size) (fun ys => ys = PR) (fun _ => True) 10000 w) :
    Calls Tryz.prog 23 #[(.func (.func gf) #[] lb)] w fun e' w' => ∃ v', e' = .returned v' ∧ OwnTb w' w.heap.size v' (tabOfL true (PR.map pnB)) ∧ Below w.heap.size w w' := by
  refine (callsIn_wide (n := 30)).1 ?_
  refine callsIn_of_wp_marks Tryz.func23 rfl trivial ?_ rfl
  simp only [Tryz.ntmps23, List.size_toArray, List.length_cons, List.length_nil, Nat.reduceAdd, Nat.reduceSub, Array.replicate_succ, Array.replicate_zero, List.push_toArray, List.append_toArray, List.nil_append, List.cons_append]
  have hmk : (Instr.makeMap 78 none).run Tryz.prog w = .ok (.map (some w.heap.size)) (w.alloc (.map #[] 0)) := rfl
  have hB0 : Below w.heap.size w ((w.alloc (.map #[] 0)).alloc (.cells #[.map (some w.heap.size)] 78)) := bel_alloc (bel_one _ _) _
  have hI0 : WnI w [] ((w.alloc (.map #[] 0)).alloc (.cells #[.map (some w.heap.size)] 78)) := by
    refine ⟨OwnsOp.below (OwnsOp.made w Tryz.prog 64 rdV v3 ok3 DataW.held) (bel_one _ _), ?_, hB0⟩
    have h9 := World.alloc_heap_new (w.alloc (.map #[] 0)) (.cells #[.map (some w.heap.size)] 78)
    rw [World.size_alloc] at h9
    exact h9
  gi_wp2
  clear hmk
  refine wpIn_rangeFunc_ownH rfl (by omega) (gf := gf) (lb := lb) rfl trivial eg hseq KpW.trans (KpW.put (by simp; omega)) hB0 (fun _ => rfl)
    (WnI w) (fun _ _ _ => False) (wnI_own w _ (by simp)) (fun _ _ _ _ _ hs _ _ => hs) hI0
    (fun x a' W => ∃ q, a' = actWn w gf lb x q ∧ BxL W q x.1)
    (fun x a' _ W W' row hs hg hr => by
      obtain ⟨q, e1, hq⟩ := hs
      refine ⟨q, e1, (hg.block q (Array.getElem?_eq_some_iff.1 hq).1 (fun e9 => ?_)).trans hq⟩
      obtain ⟨_, o, ho, hc⟩ := hr q e9.symm
      rw [hq] at ho
      cases ho
      cases hc) ?assign ?body ?done ?stop
  case assign =>
    rintro lb0 pre x W K hI hK
    have HK := hK (actWn w gf lb x W.heap.size) (W.alloc (.cells #[.int .i64 x.1.kd, .int .i64 x.1.tm, .int .i64 x.1.ke, .int .i64 x.1.va, .int .i64 x.1.nn, .int .i64 x.1.st, .int .i64 x.1.en] 57)) ((KeepsOthers.of_grownBy (grown_of (bel_one W _)) (fun _ _ e => by cases e)).from _) (KpW.of_bel (bel_one _ _) hI.2.2.size) ⟨OwnsV.bel hI.1 (bel_one _ _), (Below.heap_alloc _ _ _ (Array.getElem?_eq_some_iff.1 hI.2.1).1).trans hI.2.1, bel_alloc hI.2.2 _⟩ ⟨_, rfl, BxL.new W x.1⟩
    clear hK
    unfold actWn at HK
    gi_wp2
    exact HK
  case body =>
    rintro lb0 pre x a' W hlb _ ⟨hO, hBx, hB⟩ ⟨q, rfl, hq⟩ hpl
    have cbx := Joins.cell_of_block hBx 0
    obtain ⟨x0, x1, x2, x3, x4, x5, x6⟩ := hq.cells
    have hlq := (Array.getElem?_eq_some_iff.1 hq).1
    have hlb : w.heap.size + 1 < W.heap.size := (Array.getElem?_eq_some_iff.1 hBx).1
    obtain ⟨xa, xb, xc, xd, hx⟩ : ∃ xa xb xc xd, (mapF true (pre.map pnB) (x.1.ke, x.1.st, x.1.en)).getD ag0 = (xa, xb, xc, xd) := ⟨_, _, _, _, rfl⟩
    obtain ⟨ya, yb, yc, yd, hy9⟩ : ∃ ya yb yc yd, addF (xa, xb, xc, xd) x.1.va = (ya, yb, yc, yd) := ⟨_, _, _, _, rfl⟩
    have HX := hide hx
    have HY := hide hy9
    have HK : Hid (ok3 (x.1.ke, x.1.st, x.1.en)) := hide x.2
    have hbA : Below W.heap.size W (W.alloc (.cells #[.int .i64 x.1.ke, .int .i64 x.1.st, .int .i64 x.1.en] 64)).drew := bel_drew (bel_one _ _)
    have hO' : OwnsV W w.heap.size pre.length (fun q => (mapF true (pre.map pnB) q).map agV) := hO
    have HO1 : Hid (OwnsV (W.alloc (.cells #[.int .i64 x.1.ke, .int .i64 x.1.st, .int .i64 x.1.en] 64)).drew w.heap.size pre.length (fun q => (mapF true (pre.map pnB) q).map agV)) := hide (OwnsV.bel hO' hbA)
    have zBx : w.heap.size + 1 < (W.alloc (.cells #[.int .i64 x.1.ke, .int .i64 x.1.st, .int .i64 x.1.en] 64)).drew.heap.size := by show w.heap.size + 1 < (W.alloc (.cells #[.int .i64 x.1.ke, .int .i64 x.1.st, .int .i64 x.1.en] 64)).heap.size; simp; omega
    have zAt : W.heap.size < (W.alloc (.cells #[.int .i64 x.1.ke, .int .i64 x.1.st, .int .i64 x.1.en] 64)).drew.heap.size := by show W.heap.size < (W.alloc (.cells #[.int .i64 x.1.ke, .int .i64 x.1.st, .int .i64 x.1.en] 64)).heap.size; simp
    have zq : q < (W.alloc (.cells #[.int .i64 x.1.ke, .int .i64 x.1.st, .int .i64 x.1.en] 64)).drew.heap.size := by show q < (W.alloc (.cells #[.int .i64 x.1.ke, .int .i64 x.1.st, .int .i64 x.1.en] 64)).heap.size; simp; omega
    have cBx : (W.alloc (.cells #[.int .i64 x.1.ke, .int .i64 x.1.st, .int .i64 x.1.en] 64)).drew.cell? ⟨w.heap.size + 1, 0, none⟩ = some (.map (some w.heap.size)) := (hbA.cell (p := ⟨w.heap.size + 1, 0, none⟩) hlb).trans cbx
    have cAt0 : (W.alloc (.cells #[.int .i64 x.1.ke, .int .i64 x.1.st, .int .i64 x.1.en] 64)).drew.cell? ⟨W.heap.size, 0, none⟩ = some (.int .i64 x.1.ke) := Joins.cell_of_block (World.alloc_heap_new W _) 0
    have cAt1 : (W.alloc (.cells #[.int .i64 x.1.ke, .int .i64 x.1.st, .int .i64 x.1.en] 64)).drew.cell? ⟨W.heap.size, 1, none⟩ = some (.int .i64 x.1.st) := Joins.cell_of_block (World.alloc_heap_new W _) 1
    have cAt2 : (W.alloc (.cells #[.int .i64 x.1.ke, .int .i64 x.1.st, .int .i64 x.1.en] 64)).drew.cell? ⟨W.heap.size, 2, none⟩ = some (.int .i64 x.1.en) := Joins.cell_of_block (World.alloc_heap_new W _) 2
    have cq3 : (W.alloc (.cells #[.int .i64 x.1.ke, .int .i64 x.1.st, .int .i64 x.1.en] 64)).drew.cell? ⟨q, 3, none⟩ = some (.int .i64 x.1.va) := (hbA.cell (p := ⟨q, 3, none⟩) hlq).trans x3
    have HBx := hide hBx
    clear hO hO' hBx hx hy9 cbx
    unfold actWn
    gi_wp2
    refine wpIn_region_last (by kernel_rfl) (by kernel_rfl) (by kernel_rfl) (fun L a' W' => ∃ V : Nat → Value, a' = ({ tmps := #[(.func (.func gf) #[] lb), undef, .slice none 0 0, .pointer (some ⟨w.heap.size + 1, 0, none⟩), .pointer (some ⟨q, 0, none⟩), .pointer (some ⟨W.heap.size, 0, none⟩), .map (some w.heap.size), (.func (.func gf) #[] lb), .agg #[.int .i64 x.1.kd, .int .i64 x.1.tm, .int .i64 x.1.ke, .int .i64 x.1.va, .int .i64 x.1.nn, .int .i64 x.1.st, .int .i64 x.1.en], .pointer (some ⟨q, 0, none⟩), .pointer (some ⟨q, 2, none⟩), .int .i64 x.1.ke, .pointer (some ⟨q, 5, none⟩), .agg #[.int .i64 x.1.st, .int .i64 x.1.en], .agg #[.int .i64 x.1.ke, .int .i64 x.1.st, .int .i64 x.1.en], V 0, V 1, V 2, V 3, V 4, V 5, V 6, V 7, V 8, undef, undef], defers := [] } : Act) ∧ ((L 0 = true → V 0 = .map (some w.heap.size)) ∧ (L 1 = true → V 1 = .agg #[.int .i64 x.1.ke, .int .i64 x.1.st, .int .i64 x.1.en]) ∧ (L 2 = true → V 2 = .map (some w.heap.size)) ∧ (L 3 = true → V 3 = .agg #[.int .i64 x.1.ke, .int .i64 x.1.st, .int .i64 x.1.en]) ∧ (L 4 = true → V 4 = .agg #[.int .i64 xa, .int .i64 xb, .int .i64 xc, .int .i64 xd]) ∧ (L 5 = true → V 5 = .pointer (some ⟨q, 0, none⟩)) ∧ (L 6 = true → V 6 = .pointer (some ⟨q, 3, none⟩)) ∧ (L 7 = true → V 7 = .int .i64 x.1.va) ∧ (L 8 = true → V 8 = .agg #[.int .i64 ya, .int .i64 yb, .int .i64 yc, .int .i64 yd])) ∧ Below (W.alloc (.cells #[.int .i64 x.1.ke, .int .i64 x.1.st, .int .i64 x.1.en] 64)).drew.heap.size (W.alloc (.cells #[.int .i64 x.1.ke, .int .i64 x.1.st, .int .i64 x.1.en] 64)).drew W') ?_ ?_
    · exact ⟨fun _ => undef, rfl, ⟨(fun h9 => (by cases h9)), (fun h9 => (by cases h9)), (fun h9 => (by cases h9)), (fun h9 => (by cases h9)), (fun h9 => (by cases h9)), (fun h9 => (by cases h9)), (fun h9 => (by cases h9)), (fun h9 => (by cases h9)), (fun h9 => (by cases h9))⟩, Below.refl _ _⟩
    refine ⟨?_, ?_, ?_, ?_, ?_, ?_, ?_, ?_, ?_, ?_⟩
    · intro L a' W' hI hLj hE K' hK
      obtain ⟨V, rfl, ⟨hv0, hv1, hv2, hv3, hv4, hv5, hv6, hv7, hv8⟩, hbW⟩ := hI
      have k0 : W'.cell? ⟨w.heap.size + 1, 0, none⟩ = some (.map (some w.heap.size)) := (hbW.cell (p := ⟨w.heap.size + 1, 0, none⟩) zBx).trans cBx
      have k1 : W'.cell? ⟨W.heap.size, 0, none⟩ = some (.int .i64 x.1.ke) := (hbW.cell (p := ⟨W.heap.size, 0, none⟩) zAt).trans cAt0
      have k2 : W'.cell? ⟨W.heap.size, 1, none⟩ = some (.int .i64 x.1.st) := (hbW.cell (p := ⟨W.heap.size, 1, none⟩) zAt).trans cAt1
      have k3 : W'.cell? ⟨W.heap.size, 2, none⟩ = some (.int .i64 x.1.en) := (hbW.cell (p := ⟨W.heap.size, 2, none⟩) zAt).trans cAt2
      have k4 : W'.cell? ⟨q, 3, none⟩ = some (.int .i64 x.1.va) := (hbW.cell (p := ⟨q, 3, none⟩) zq).trans cq3
      go_simp
      refine hK.out _ _ ⟨fun m => if m = 0 then .map (some w.heap.size) else V m, rfl, ⟨fun _ => rfl, fun h9 => hv1 (by simpa [more] using h9), fun h9 => hv2 (by simpa [more] using h9), fun h9 => hv3 (by simpa [more] using h9), fun h9 => hv4 (by simpa [more] using h9), fun h9 => hv5 (by simpa [more] using h9), fun h9 => hv6 (by simpa [more] using h9), fun h9 => hv7 (by simpa [more] using h9), fun h9 => hv8 (by simpa [more] using h9)⟩, hbW⟩
    · intro L a' W' hI hLj hE K' hK
      obtain ⟨V, rfl, ⟨hv0, hv1, hv2, hv3, hv4, hv5, hv6, hv7, hv8⟩, hbW⟩ := hI
      have k0 : W'.cell? ⟨w.heap.size + 1, 0, none⟩ = some (.map (some w.heap.size)) := (hbW.cell (p := ⟨w.heap.size + 1, 0, none⟩) zBx).trans cBx
      have k1 : W'.cell? ⟨W.heap.size, 0, none⟩ = some (.int .i64 x.1.ke) := (hbW.cell (p := ⟨W.heap.size, 0, none⟩) zAt).trans cAt0
      have k2 : W'.cell? ⟨W.heap.size, 1, none⟩ = some (.int .i64 x.1.st) := (hbW.cell (p := ⟨W.heap.size, 1, none⟩) zAt).trans cAt1
      have k3 : W'.cell? ⟨W.heap.size, 2, none⟩ = some (.int .i64 x.1.en) := (hbW.cell (p := ⟨W.heap.size, 2, none⟩) zAt).trans cAt2
      have k4 : W'.cell? ⟨q, 3, none⟩ = some (.int .i64 x.1.va) := (hbW.cell (p := ⟨q, 3, none⟩) zq).trans cq3
      go_simp
      refine hK.out _ _ ⟨fun m => if m = 1 then .agg #[.int .i64 x.1.ke, .int .i64 x.1.st, .int .i64 x.1.en] else V m, rfl, ⟨fun h9 => hv0 (by simpa [more] using h9), fun _ => rfl, fun h9 => hv2 (by simpa [more] using h9), fun h9 => hv3 (by simpa [more] using h9), fun h9 => hv4 (by simpa [more] using h9), fun h9 => hv5 (by simpa [more] using h9), fun h9 => hv6 (by simpa [more] using h9), fun h9 => hv7 (by simpa [more] using h9), fun h9 => hv8 (by simpa [more] using h9)⟩, hbW⟩
    · intro L a' W' hI hLj hE K' hK
      obtain ⟨V, rfl, ⟨hv0, hv1, hv2, hv3, hv4, hv5, hv6, hv7, hv8⟩, hbW⟩ := hI
      have k0 : W'.cell? ⟨w.heap.size + 1, 0, none⟩ = some (.map (some w.heap.size)) := (hbW.cell (p := ⟨w.heap.size + 1, 0, none⟩) zBx).trans cBx
      have k1 : W'.cell? ⟨W.heap.size, 0, none⟩ = some (.int .i64 x.1.ke) := (hbW.cell (p := ⟨W.heap.size, 0, none⟩) zAt).trans cAt0
      have k2 : W'.cell? ⟨W.heap.size, 1, none⟩ = some (.int .i64 x.1.st) := (hbW.cell (p := ⟨W.heap.size, 1, none⟩) zAt).trans cAt1
      have k3 : W'.cell? ⟨W.heap.size, 2, none⟩ = some (.int .i64 x.1.en) := (hbW.cell (p := ⟨W.heap.size, 2, none⟩) zAt).trans cAt2
      have k4 : W'.cell? ⟨q, 3, none⟩ = some (.int .i64 x.1.va) := (hbW.cell (p := ⟨q, 3, none⟩) zq).trans cq3
      go_simp
      refine hK.out _ _ ⟨fun m => if m = 2 then .map (some w.heap.size) else V m, rfl, ⟨fun h9 => hv0 (by simpa [more] using h9), fun h9 => hv1 (by simpa [more] using h9), fun _ => rfl, fun h9 => hv3 (by simpa [more] using h9), fun h9 => hv4 (by simpa [more] using h9), fun h9 => hv5 (by simpa [more] using h9), fun h9 => hv6 (by simpa [more] using h9), fun h9 => hv7 (by simpa [more] using h9), fun h9 => hv8 (by simpa [more] using h9)⟩, hbW⟩
    · intro L a' W' hI hLj hE K' hK
      obtain ⟨V, rfl, ⟨hv0, hv1, hv2, hv3, hv4, hv5, hv6, hv7, hv8⟩, hbW⟩ := hI
      have k0 : W'.cell? ⟨w.heap.size + 1, 0, none⟩ = some (.map (some w.heap.size)) := (hbW.cell (p := ⟨w.heap.size + 1, 0, none⟩) zBx).trans cBx
      have k1 : W'.cell? ⟨W.heap.size, 0, none⟩ = some (.int .i64 x.1.ke) := (hbW.cell (p := ⟨W.heap.size, 0, none⟩) zAt).trans cAt0
      have k2 : W'.cell? ⟨W.heap.size, 1, none⟩ = some (.int .i64 x.1.st) := (hbW.cell (p := ⟨W.heap.size, 1, none⟩) zAt).trans cAt1
      have k3 : W'.cell? ⟨W.heap.size, 2, none⟩ = some (.int .i64 x.1.en) := (hbW.cell (p := ⟨W.heap.size, 2, none⟩) zAt).trans cAt2
      have k4 : W'.cell? ⟨q, 3, none⟩ = some (.int .i64 x.1.va) := (hbW.cell (p := ⟨q, 3, none⟩) zq).trans cq3
      go_simp
      refine hK.out _ _ ⟨fun m => if m = 3 then .agg #[.int .i64 x.1.ke, .int .i64 x.1.st, .int .i64 x.1.en] else V m, rfl, ⟨fun h9 => hv0 (by simpa [more] using h9), fun h9 => hv1 (by simpa [more] using h9), fun h9 => hv2 (by simpa [more] using h9), fun _ => rfl, fun h9 => hv4 (by simpa [more] using h9), fun h9 => hv5 (by simpa [more] using h9), fun h9 => hv6 (by simpa [more] using h9), fun h9 => hv7 (by simpa [more] using h9), fun h9 => hv8 (by simpa [more] using h9)⟩, hbW⟩
    · intro L a' W' hI hLj hE K' hK
      obtain ⟨V, rfl, ⟨hv0, hv1, hv2, hv3, hv4, hv5, hv6, hv7, hv8⟩, hbW⟩ := hI
      have ev2 := hv2 (hE ⟨2, .data⟩ (by simp) rfl)
      have ev3 := hv3 (hE ⟨3, .data⟩ (by simp) rfl)
      have k0 : W'.cell? ⟨w.heap.size + 1, 0, none⟩ = some (.map (some w.heap.size)) := (hbW.cell (p := ⟨w.heap.size + 1, 0, none⟩) zBx).trans cBx
      have k1 : W'.cell? ⟨W.heap.size, 0, none⟩ = some (.int .i64 x.1.ke) := (hbW.cell (p := ⟨W.heap.size, 0, none⟩) zAt).trans cAt0
      have k2 : W'.cell? ⟨W.heap.size, 1, none⟩ = some (.int .i64 x.1.st) := (hbW.cell (p := ⟨W.heap.size, 1, none⟩) zAt).trans cAt1
      have k3 : W'.cell? ⟨W.heap.size, 2, none⟩ = some (.int .i64 x.1.en) := (hbW.cell (p := ⟨W.heap.size, 2, none⟩) zAt).trans cAt2
      have k4 : W'.cell? ⟨q, 3, none⟩ = some (.int .i64 x.1.va) := (hbW.cell (p := ⟨q, 3, none⟩) zq).trans cq3
      have hlk := ((unhide HO1).bel hbW).look (zeroAg _) (x.1.ke, x.1.st, x.1.en) (unhide HK)
      dsimp only at hlk
      rw [val_get (unhide HX)] at hlk
      rw [ev2]
      rw [ev3]
      go_simp
      refine hK.out _ _ ⟨fun m => if m = 4 then .agg #[.int .i64 xa, .int .i64 xb, .int .i64 xc, .int .i64 xd] else V m, (by simp [ev2, ev3]), ⟨fun h9 => hv0 (by simpa [more] using h9), fun h9 => hv1 (by simpa [more] using h9), fun h9 => hv2 (by simpa [more] using h9), fun h9 => hv3 (by simpa [more] using h9), fun _ => rfl, fun h9 => hv5 (by simpa [more] using h9), fun h9 => hv6 (by simpa [more] using h9), fun h9 => hv7 (by simpa [more] using h9), fun h9 => hv8 (by simpa [more] using h9)⟩, hbW⟩
    · intro L a' W' hI hLj hE K' hK
      obtain ⟨V, rfl, ⟨hv0, hv1, hv2, hv3, hv4, hv5, hv6, hv7, hv8⟩, hbW⟩ := hI
      have k0 : W'.cell? ⟨w.heap.size + 1, 0, none⟩ = some (.map (some w.heap.size)) := (hbW.cell (p := ⟨w.heap.size + 1, 0, none⟩) zBx).trans cBx
      have k1 : W'.cell? ⟨W.heap.size, 0, none⟩ = some (.int .i64 x.1.ke) := (hbW.cell (p := ⟨W.heap.size, 0, none⟩) zAt).trans cAt0
      have k2 : W'.cell? ⟨W.heap.size, 1, none⟩ = some (.int .i64 x.1.st) := (hbW.cell (p := ⟨W.heap.size, 1, none⟩) zAt).trans cAt1
      have k3 : W'.cell? ⟨W.heap.size, 2, none⟩ = some (.int .i64 x.1.en) := (hbW.cell (p := ⟨W.heap.size, 2, none⟩) zAt).trans cAt2
      have k4 : W'.cell? ⟨q, 3, none⟩ = some (.int .i64 x.1.va) := (hbW.cell (p := ⟨q, 3, none⟩) zq).trans cq3
      go_simp
      refine hK.out _ _ ⟨fun m => if m = 5 then .pointer (some ⟨q, 0, none⟩) else V m, rfl, ⟨fun h9 => hv0 (by simpa [more] using h9), fun h9 => hv1 (by simpa [more] using h9), fun h9 => hv2 (by simpa [more] using h9), fun h9 => hv3 (by simpa [more] using h9), fun h9 => hv4 (by simpa [more] using h9), fun _ => rfl, fun h9 => hv6 (by simpa [more] using h9), fun h9 => hv7 (by simpa [more] using h9), fun h9 => hv8 (by simpa [more] using h9)⟩, hbW⟩
    · intro L a' W' hI hLj hE K' hK
      obtain ⟨V, rfl, ⟨hv0, hv1, hv2, hv3, hv4, hv5, hv6, hv7, hv8⟩, hbW⟩ := hI
      have ev5 := hv5 (hE ⟨5, .data⟩ (by simp) rfl)
      have k0 : W'.cell? ⟨w.heap.size + 1, 0, none⟩ = some (.map (some w.heap.size)) := (hbW.cell (p := ⟨w.heap.size + 1, 0, none⟩) zBx).trans cBx
      have k1 : W'.cell? ⟨W.heap.size, 0, none⟩ = some (.int .i64 x.1.ke) := (hbW.cell (p := ⟨W.heap.size, 0, none⟩) zAt).trans cAt0
      have k2 : W'.cell? ⟨W.heap.size, 1, none⟩ = some (.int .i64 x.1.st) := (hbW.cell (p := ⟨W.heap.size, 1, none⟩) zAt).trans cAt1
      have k3 : W'.cell? ⟨W.heap.size, 2, none⟩ = some (.int .i64 x.1.en) := (hbW.cell (p := ⟨W.heap.size, 2, none⟩) zAt).trans cAt2
      have k4 : W'.cell? ⟨q, 3, none⟩ = some (.int .i64 x.1.va) := (hbW.cell (p := ⟨q, 3, none⟩) zq).trans cq3
      rw [ev5]
      go_simp
      refine hK.out _ _ ⟨fun m => if m = 6 then .pointer (some ⟨q, 3, none⟩) else V m, (by simp [ev5]), ⟨fun h9 => hv0 (by simpa [more] using h9), fun h9 => hv1 (by simpa [more] using h9), fun h9 => hv2 (by simpa [more] using h9), fun h9 => hv3 (by simpa [more] using h9), fun h9 => hv4 (by simpa [more] using h9), fun h9 => hv5 (by simpa [more] using h9), fun _ => rfl, fun h9 => hv7 (by simpa [more] using h9), fun h9 => hv8 (by simpa [more] using h9)⟩, hbW⟩
    · intro L a' W' hI hLj hE K' hK
      obtain ⟨V, rfl, ⟨hv0, hv1, hv2, hv3, hv4, hv5, hv6, hv7, hv8⟩, hbW⟩ := hI
      have ev6 := hv6 (hE ⟨6, .data⟩ (by simp) rfl)
      have k0 : W'.cell? ⟨w.heap.size + 1, 0, none⟩ = some (.map (some w.heap.size)) := (hbW.cell (p := ⟨w.heap.size + 1, 0, none⟩) zBx).trans cBx
      have k1 : W'.cell? ⟨W.heap.size, 0, none⟩ = some (.int .i64 x.1.ke) := (hbW.cell (p := ⟨W.heap.size, 0, none⟩) zAt).trans cAt0
      have k2 : W'.cell? ⟨W.heap.size, 1, none⟩ = some (.int .i64 x.1.st) := (hbW.cell (p := ⟨W.heap.size, 1, none⟩) zAt).trans cAt1
      have k3 : W'.cell? ⟨W.heap.size, 2, none⟩ = some (.int .i64 x.1.en) := (hbW.cell (p := ⟨W.heap.size, 2, none⟩) zAt).trans cAt2
      have k4 : W'.cell? ⟨q, 3, none⟩ = some (.int .i64 x.1.va) := (hbW.cell (p := ⟨q, 3, none⟩) zq).trans cq3
      rw [ev6]
      go_simp
      refine hK.out _ _ ⟨fun m => if m = 7 then .int .i64 x.1.va else V m, (by simp [ev6]), ⟨fun h9 => hv0 (by simpa [more] using h9), fun h9 => hv1 (by simpa [more] using h9), fun h9 => hv2 (by simpa [more] using h9), fun h9 => hv3 (by simpa [more] using h9), fun h9 => hv4 (by simpa [more] using h9), fun h9 => hv5 (by simpa [more] using h9), fun h9 => hv6 (by simpa [more] using h9), fun _ => rfl, fun h9 => hv8 (by simpa [more] using h9)⟩, hbW⟩
    · intro L a' W' hI hLj hE K' hK
      obtain ⟨V, rfl, ⟨hv0, hv1, hv2, hv3, hv4, hv5, hv6, hv7, hv8⟩, hbW⟩ := hI
      have ev4 := hv4 (hE ⟨4, .data⟩ (by simp) rfl)
      have ev7 := hv7 (hE ⟨7, .data⟩ (by simp) rfl)
      have k0 : W'.cell? ⟨w.heap.size + 1, 0, none⟩ = some (.map (some w.heap.size)) := (hbW.cell (p := ⟨w.heap.size + 1, 0, none⟩) zBx).trans cBx
      have k1 : W'.cell? ⟨W.heap.size, 0, none⟩ = some (.int .i64 x.1.ke) := (hbW.cell (p := ⟨W.heap.size, 0, none⟩) zAt).trans cAt0
      have k2 : W'.cell? ⟨W.heap.size, 1, none⟩ = some (.int .i64 x.1.st) := (hbW.cell (p := ⟨W.heap.size, 1, none⟩) zAt).trans cAt1
      have k3 : W'.cell? ⟨W.heap.size, 2, none⟩ = some (.int .i64 x.1.en) := (hbW.cell (p := ⟨W.heap.size, 2, none⟩) zAt).trans cAt2
      have k4 : W'.cell? ⟨q, 3, none⟩ = some (.int .i64 x.1.va) := (hbW.cell (p := ⟨q, 3, none⟩) zq).trans cq3
      rw [ev4]
      rw [ev7]
      go_simp
      (first | (gi_at_call 13) | (refine ⟨trivial, ?_⟩; gi_at_call 13) | (refine ⟨trivial, fun _ => (by omega), ?_⟩; gi_at_call 13))
      (refine (callsIn_wide.2 (impladd_is _ HY)).mono ?_; rintro e9 Wf ⟨rfl, hbf⟩)
      (try gi_wp2_with fail)
      refine hK.out _ _ ⟨fun m => if m = 8 then .agg #[.int .i64 ya, .int .i64 yb, .int .i64 yc, .int .i64 yd] else V m, (by simp [ev4, ev7]), ⟨fun h9 => hv0 (by simpa [more] using h9), fun h9 => hv1 (by simpa [more] using h9), fun h9 => hv2 (by simpa [more] using h9), fun h9 => hv3 (by simpa [more] using h9), fun h9 => hv4 (by simpa [more] using h9), fun h9 => hv5 (by simpa [more] using h9), fun h9 => hv6 (by simpa [more] using h9), fun h9 => hv7 (by simpa [more] using h9), fun _ => rfl⟩, hbW.trans (hbf.mono hbW.size)⟩
    · intro L a' W' hI hA K' hK
      obtain ⟨V, rfl, ⟨hv0, hv1, hv2, hv3, hv4, hv5, hv6, hv7, hv8⟩, hbW⟩ := hI
      have ev0 := hv0 (hA 0 (by decide))
      rw [ev0]
      have ev1 := hv1 (hA 1 (by decide))
      rw [ev1]
      have ev8 := hv8 (hA 8 (by decide))
      rw [ev8]
      obtain ⟨w2, hst, hO3, hg3⟩ := ((unhide HO1).bel hbW).store (by unfold maxLen; omega) (x.1.ke, x.1.st, x.1.en) (unhide HK) (.agg #[.int .i64 ya, .int .i64 yb, .int .i64 yc, .int .i64 yd])
      dsimp only at hst
      go_simp
      refine hK.out _ _ ?_
      have hbM : ∃ es ck, W'.heap[w.heap.size]? = some (.map es ck) := by
        obtain ⟨D, ⟨es, ck, h1, _⟩, _⟩ := (unhide HO1).bel hbW
        exact ⟨es, ck, h1⟩
      have hbWW : Below W.heap.size W W' := bel_trans hbA hbW
      have zW : w.heap.size ≤ W.heap.size := hB.size
      have hb2 : Below w.heap.size W w2 := (hbWW.mono zW).grown hg3 (Nat.le_trans zW hbWW.size) (fun k e => by cases e; exact Nat.le_refl _)
      have hOE : (fun y => if y = (x.1.ke, x.1.st, x.1.en) then some (.agg #[.int .i64 ya, .int .i64 yb, .int .i64 yc, .int .i64 yd]) else (mapF true (pre.map pnB) y).map agV) = fun y => (mapF true ((pre ++ [x]).map pnB) y).map agV := by
        rw [List.map_append]
        simp only [List.map_cons, List.map_nil]
        rw [mapF_app]
        refine step_both (p := pnB x) (by show ¬ (1 : Int) = 3; decide) ?_
        show bothF ((mapF true (pre.map pnB) (x.1.ke, x.1.st, x.1.en)).getD ag0) 1 x.1.va x.1.va x.1.va = _
        rw [unhide HX, ← addF_both]
        exact unhide HY
      rw [hOE] at hO3
      refine ⟨⟨Nat.le_trans hbWW.size hg3.size, fun k o hk h0 ho => ?_⟩, ⟨hb2, fun bl cs ty _ hbl => ?_⟩, ⟨by rw [List.length_append]; exact hO3, ?_, hB.trans hb2⟩⟩
      · have hlt := (Array.getElem?_eq_some_iff.1 h0).1
        exact (hg3.block k (Nat.lt_of_lt_of_le hlt hbWW.size) (fun e => by cases e; simp at hk; omega)).trans ((hbWW.block k hlt).trans h0)
      · have hlt := (Array.getElem?_eq_some_iff.1 hbl).1
        have h8 := (hbWW.block bl hlt).trans hbl
        refine (hg3.block bl (Nat.lt_of_lt_of_le hlt hbWW.size) (fun e => ?_)).trans h8
        cases e
        obtain ⟨es, ck, h1⟩ := hbM
        rw [h8] at h1
        cases h1
      · exact (hg3.block _ (Nat.lt_of_lt_of_le hlb hbWW.size) (fun e => by simp at e)).trans ((hbWW.block _ hlb).trans (unhide HBx))
  case done =>
    rintro D ys W hD hys ⟨hO, hBx, hB⟩ hK
    obtain rfl := hys.symm
    have hO' : OwnsV W w.heap.size PR.length (fun q => (mapF true (PR.map pnB) q).map agV) := hO
    have cbx := Joins.cell_of_block hBx 0
    have hlb : w.heap.size + 1 < W.heap.size := (Array.getElem?_eq_some_iff.1 hBx).1
    clear hO hseq
    gi_wp2_with (refine ⟨trivial, ?_⟩; gi_at_call 46; refine (callsIn_wide.2 (rowsof_any w.heap.size PR.length (mapF true (PR.map pnB)) _ (by omega) hO')).mono ?_; rintro e9 Wf ⟨v', zs, rfl, hIO, hzl, hOT, hbf⟩)
    rw [rows_eq hIO (fun p hp => by obtain ⟨y, _, rfl⟩ := List.mem_map.1 hp; exact y.2)] at hOT
    have hDf : D < W.heap.size := (Array.getElem?_eq_some_iff.1 hK).1
    have hKf := (hbf.block D hDf).trans hK
    refine ⟨by simp, .inl ⟨_, _, rfl, run_takeDeferred hKf, ?_⟩⟩
    exact ⟨_, results_tmp rfl _ _ _, v', rfl, ownsRow_putObj (World.ownsRow.mono hOT hB.size) _ hKf rfl, (hB.trans (hbf.mono hB.size)).trans (belowK_b (w := w) (Nat.le_refl _) Wf D _ _ (by simp at hD; omega) hKf rfl rfl)⟩
  case stop =>
    rintro D c pre W _ _ hx _
    exact hx.elim
end Go.Proofs.YtbockbdlojkpiaaGreat
/- Proved here: the table of pairs, in sessions, in the program. -/
namespace Go.Proofs.YtbockbdlojkpiaaGreat
open Go.ChangeShapes Go.WideShapes Go.ChangeAt Go.RowKit Go.Shelf
set_option linter.unusedVariables false

set_option linter.unusedSimpArgs false
attribute [local go_sem] Oper.semAt_some
def actSo (w : World) (gf : Nat) (lb : Array Value) (x : LpB) (q : Nat) : Act := { tmps := #[(.func (.func gf) #[] lb), undef, .slice none 0 0, .pointer (some ⟨w.heap.size, 0, none⟩), .pointer (some ⟨q, 0, none⟩), (.func (.func gf) #[] lb), .agg #[.int .i64 x.1.kd, .int .i64 x.1.tm, .int .i64 x.1.ke, .int .i64 x.1.va, .int .i64 x.1.nn, .int .i64 x.1.st, .int .i64 x.1.en], undef, undef, undef, undef, undef, undef, undef, undef, undef, undef, undef, undef, undef, undef], defers := [] }
/-- What stands between two rounds. -/
def SoI (w : World) (pre : List LpB) (W : World) : Prop := ∃ v, Boxed W w.heap.size 74 v ∧ OwnTb W w.heap.size v (tabP 3 (pre.map (·.1))) ∧ pre.length ≤ 10000 ∧ Below w.heap.size w W
theorem soI_own (w : World) (B : Nat) (hB : w.heap.size < B) : OwnFrom B (SoI w) := fun s W W' row h hg hr => by
  obtain ⟨v, h1, h2, h3, h4⟩ := h
  have hne : ∀ k, k < B → some k ≠ row := fun k hk e => by have := (hr k e.symm).1; omega
  refine ⟨v, h1.kept hg (hne _ hB), World.ownsRow.kept h2 hg ?_, h3, h4.grown hg h4.size (fun k e => by have := (hr k e).1; omega)⟩
  rcases h2.2 with ⟨rfl, _⟩ | ⟨g, cap, cur, rfl, _, hgb, _⟩
  · exact .inl rfl
  · refine .inr (fun e9 => ?_)
    obtain ⟨_, o, ho, hc⟩ := hr g (by simpa [Value.ownBlock] using e9.symm)
    rw [hgb] at ho
    cases ho
    cases hc
set_option maxRecDepth 100000 in
set_option maxHeartbeats 8000000 in
theorem sessionsof_any (gf : Nat) (lb : Array Value) (eg : ∀ args w, (callFunc gf args).run Tryz.prog w = .ok (.enter gf args) w) (PR : List LpB) (hPl : PR.length ≤ 10000) (w : World)
    (hseq : SeqStopsK Fence.wide 29 Tryz.prog gf lb (fun x : LpB => #[.agg #[.int .i64 x.1.kd, .int .i64 x.1.tm, .int .i64 x.1.ke, .int .i64 x.1.va, .int .i64 x.1.nn, .int .i64 x.1.st, .int .i64 x.1.en]]) (KpW w.heap.size) (fun ys => ys = PR) (fun _ => True) 10000 w) :
    Calls Tryz.prog 21 #[(.func (.func gf) #[] lb)] w fun e' w' => ∃ v', e' = .returned v' ∧ OwnTb w' w.heap.size v' (tabP 3 (PR.map (·.1))) ∧ Below w.heap.size w w' := by
  refine (callsIn_wide (n := 30)).1 ?_
  refine callsIn_of_wp_marks Tryz.func21 rfl trivial ?_ rfl
  simp only [Tryz.ntmps21, List.size_toArray, List.length_cons, List.length_nil, Nat.reduceAdd, Nat.reduceSub, Array.replicate_succ, Array.replicate_zero, List.push_toArray, List.append_toArray, List.nil_append, List.cons_append]
  have hB0 : Below w.heap.size w (w.alloc (.cells #[.slice none 0 0] 74)) := bel_one _ _
  have hI0 : SoI w [] (w.alloc (.cells #[.slice none 0 0] 74)) := ⟨_, Boxed.new w 74 (.slice none 0 0), World.ownsRow_nil _ _ _ _, Nat.zero_le _, hB0⟩
  gi_wp2
  refine wpIn_rangeFunc_ownH rfl (by omega) (gf := gf) (lb := lb) rfl trivial eg hseq KpW.trans (KpW.put (by simp)) hB0 (fun _ => rfl)
    (SoI w) (fun _ _ _ => False) (soI_own w _ (by simp)) (fun _ _ _ _ _ hs _ _ => hs) hI0
    (fun x a' W => ∃ q, a' = actSo w gf lb x q ∧ BxL W q x.1)
    (fun x a' _ W W' row hs hg hr => by
      obtain ⟨q, e1, hq⟩ := hs
      refine ⟨q, e1, (hg.block q (Array.getElem?_eq_some_iff.1 hq).1 (fun e9 => ?_)).trans hq⟩
      obtain ⟨_, o, ho, hc⟩ := hr q e9.symm
      rw [hq] at ho
      cases ho
      cases hc) ?assign ?body ?done ?stop
  case assign =>
    rintro lb0 pre x W K ⟨rv, hv, hrow, hpN, hB⟩ hK
    have HK := hK (actSo w gf lb x W.heap.size) (W.alloc (.cells #[.int .i64 x.1.kd, .int .i64 x.1.tm, .int .i64 x.1.ke, .int .i64 x.1.va, .int .i64 x.1.nn, .int .i64 x.1.st, .int .i64 x.1.en] 57)) ((KeepsOthers.of_grownBy (grown_of (bel_one W _)) (fun _ _ e => by cases e)).from _) (KpW.of_bel (bel_one _ _) hB.size) ⟨rv, hv.alloc _, World.ownsRow.alloc hrow _, hpN, bel_alloc hB _⟩ ⟨_, rfl, BxL.new W x.1⟩
    clear hK
    unfold actSo at HK
    gi_wp2
    exact HK
  case body =>
    rintro lb0 pre x a' W hlb _ ⟨rv, hv, hrow, hpN, hB⟩ ⟨q, rfl, hq⟩ hpl
    obtain ⟨RS, hRS⟩ : ∃ RS, tabP 3 (pre.map (·.1)) = RS := ⟨_, rfl⟩
    rw [hRS] at hrow
    have hRl : RS.length ≤ 10000 := by rw [← hRS]; refine Nat.le_trans (tabP_len _ _) ?_; simpa using hpN
    obtain ⟨ar, cr, rfl, hT, _, _⟩ := holdTb hrow (by omega)
    obtain ⟨x0, x1, x2, x3, x4, x5, x6⟩ := hq.cells
    have hlq : q < W.drew.heap.size := (Array.getElem?_eq_some_iff.1 hq).1
    obtain ⟨na, nb, nc, nd, hy9⟩ : ∃ na nb nc nd, addF ag0 x.1.va = (na, nb, nc, nd) := ⟨_, _, _, _, rfl⟩
    have HY : Hid (addF (0, 0, 0, 0) x.1.va = (na, nb, nc, nd)) := hide hy9
    have HST : Hid (stepP 3 RS x.1 = (sesPut x.1.ke x.1.st x.1.en (na, nb, nc, nd) RS)) := hide (by unfold stepP; rw [if_pos rfl, hy9])
    have HRS := hide hRS
    have HT := hide hT
    have zBx : w.heap.size < W.drew.heap.size := hv.lt
    have cBx : W.drew.cell? ⟨w.heap.size, 0, none⟩ = some (.slice ar RS.length cr) := hv.cell
    have HBx := hide hv
    clear hRS hT hrow hv hy9 x0 x1 x4 hseq hI0 hB0
    unfold actSo
    gi_wp2
    refine wpIn_region_last (by kernel_rfl) (by kernel_rfl) (by kernel_rfl) (fun L a' W' => ∃ V : Nat → Value, a' = ({ tmps := #[(.func (.func gf) #[] lb), undef, .slice none 0 0, .pointer (some ⟨w.heap.size, 0, none⟩), .pointer (some ⟨q, 0, none⟩), (.func (.func gf) #[] lb), .agg #[.int .i64 x.1.kd, .int .i64 x.1.tm, .int .i64 x.1.ke, .int .i64 x.1.va, .int .i64 x.1.nn, .int .i64 x.1.st, .int .i64 x.1.en], V 0, V 1, V 2, V 3, V 4, V 5, V 6, V 7, V 8, V 9, V 10, V 11, V 12, undef], defers := [] } : Act) ∧ ((L 0 = true → V 0 = .slice ar RS.length cr) ∧ (L 1 = true → V 1 = .pointer (some ⟨q, 0, none⟩)) ∧ (L 2 = true → V 2 = .pointer (some ⟨q, 2, none⟩)) ∧ (L 3 = true → V 3 = .int .i64 x.1.ke) ∧ (L 4 = true → V 4 = .pointer (some ⟨q, 5, none⟩)) ∧ (L 5 = true → V 5 = .agg #[.int .i64 x.1.st, .int .i64 x.1.en]) ∧ (L 6 = true → V 6 = .agg #[.int .i64 0, .int .i64 0, .int .i64 0, .int .i64 0]) ∧ (L 7 = true → V 7 = .pointer (some ⟨q, 0, none⟩)) ∧ (L 8 = true → V 8 = .pointer (some ⟨q, 3, none⟩)) ∧ (L 9 = true → V 9 = .int .i64 x.1.va) ∧ (L 10 = true → V 10 = .agg #[.int .i64 na, .int .i64 nb, .int .i64 nc, .int .i64 nd]) ∧ (L 11 = true → V 11 = .agg #[.int .i64 x.1.ke, .int .i64 x.1.st, .int .i64 x.1.en, .int .i64 na, .int .i64 nb, .int .i64 nc, .int .i64 nd])) ∧ (L 12 = true → OwnTb W' w.heap.size (V 12) (sesPut x.1.ke x.1.st x.1.en (na, nb, nc, nd) RS)) ∧ Below W.drew.heap.size W.drew W') ?_ ?_
    · exact ⟨fun _ => undef, rfl, ⟨(fun h9 => (by cases h9)), (fun h9 => (by cases h9)), (fun h9 => (by cases h9)), (fun h9 => (by cases h9)), (fun h9 => (by cases h9)), (fun h9 => (by cases h9)), (fun h9 => (by cases h9)), (fun h9 => (by cases h9)), (fun h9 => (by cases h9)), (fun h9 => (by cases h9)), (fun h9 => (by cases h9)), (fun h9 => (by cases h9))⟩, (fun h9 => (by cases h9)), Below.refl _ _⟩
    refine ⟨?_, ?_, ?_, ?_, ?_, ?_, ?_, ?_, ?_, ?_, ?_, ?_, ?_, ?_⟩
    · intro L a' W' hI hLj hE K' hK
      obtain ⟨V, rfl, ⟨hv0, hv1, hv2, hv3, hv4, hv5, hv6, hv7, hv8, hv9, hv10, hv11⟩, hw12, hbW⟩ := hI
      have k0 : W'.cell? ⟨w.heap.size, 0, none⟩ = some (.slice ar RS.length cr) := (hbW.cell (p := ⟨w.heap.size, 0, none⟩) zBx).trans cBx
      have k2 : W'.cell? ⟨q, 2, none⟩ = some (.int .i64 x.1.ke) := (hbW.cell (p := ⟨q, 2, none⟩) hlq).trans x2
      have k3 : W'.cell? ⟨q, 3, none⟩ = some (.int .i64 x.1.va) := (hbW.cell (p := ⟨q, 3, none⟩) hlq).trans x3
      have k5 : W'.cell? ⟨q, 5, none⟩ = some (.int .i64 x.1.st) := (hbW.cell (p := ⟨q, 5, none⟩) hlq).trans x5
      have k6 : W'.cell? ⟨q, 6, none⟩ = some (.int .i64 x.1.en) := (hbW.cell (p := ⟨q, 6, none⟩) hlq).trans x6
      go_simp
      refine hK.out _ _ ⟨fun m => if m = 0 then .slice ar RS.length cr else V m, rfl, ⟨fun _ => rfl, fun h9 => hv1 (by simpa [more] using h9), fun h9 => hv2 (by simpa [more] using h9), fun h9 => hv3 (by simpa [more] using h9), fun h9 => hv4 (by simpa [more] using h9), fun h9 => hv5 (by simpa [more] using h9), fun h9 => hv6 (by simpa [more] using h9), fun h9 => hv7 (by simpa [more] using h9), fun h9 => hv8 (by simpa [more] using h9), fun h9 => hv9 (by simpa [more] using h9), fun h9 => hv10 (by simpa [more] using h9), fun h9 => hv11 (by simpa [more] using h9)⟩, fun h9 => hw12 (by simpa [more] using h9), hbW⟩
    · intro L a' W' hI hLj hE K' hK
      obtain ⟨V, rfl, ⟨hv0, hv1, hv2, hv3, hv4, hv5, hv6, hv7, hv8, hv9, hv10, hv11⟩, hw12, hbW⟩ := hI
      have k0 : W'.cell? ⟨w.heap.size, 0, none⟩ = some (.slice ar RS.length cr) := (hbW.cell (p := ⟨w.heap.size, 0, none⟩) zBx).trans cBx
      have k2 : W'.cell? ⟨q, 2, none⟩ = some (.int .i64 x.1.ke) := (hbW.cell (p := ⟨q, 2, none⟩) hlq).trans x2
      have k3 : W'.cell? ⟨q, 3, none⟩ = some (.int .i64 x.1.va) := (hbW.cell (p := ⟨q, 3, none⟩) hlq).trans x3
      have k5 : W'.cell? ⟨q, 5, none⟩ = some (.int .i64 x.1.st) := (hbW.cell (p := ⟨q, 5, none⟩) hlq).trans x5
      have k6 : W'.cell? ⟨q, 6, none⟩ = some (.int .i64 x.1.en) := (hbW.cell (p := ⟨q, 6, none⟩) hlq).trans x6
      go_simp
      refine hK.out _ _ ⟨fun m => if m = 1 then .pointer (some ⟨q, 0, none⟩) else V m, rfl, ⟨fun h9 => hv0 (by simpa [more] using h9), fun _ => rfl, fun h9 => hv2 (by simpa [more] using h9), fun h9 => hv3 (by simpa [more] using h9), fun h9 => hv4 (by simpa [more] using h9), fun h9 => hv5 (by simpa [more] using h9), fun h9 => hv6 (by simpa [more] using h9), fun h9 => hv7 (by simpa [more] using h9), fun h9 => hv8 (by simpa [more] using h9), fun h9 => hv9 (by simpa [more] using h9), fun h9 => hv10 (by simpa [more] using h9), fun h9 => hv11 (by simpa [more] using h9)⟩, fun h9 => hw12 (by simpa [more] using h9), hbW⟩
    · intro L a' W' hI hLj hE K' hK
      obtain ⟨V, rfl, ⟨hv0, hv1, hv2, hv3, hv4, hv5, hv6, hv7, hv8, hv9, hv10, hv11⟩, hw12, hbW⟩ := hI
      have ev1 := hv1 (hE ⟨1, .data⟩ (by simp) rfl)
      have k0 : W'.cell? ⟨w.heap.size, 0, none⟩ = some (.slice ar RS.length cr) := (hbW.cell (p := ⟨w.heap.size, 0, none⟩) zBx).trans cBx
      have k2 : W'.cell? ⟨q, 2, none⟩ = some (.int .i64 x.1.ke) := (hbW.cell (p := ⟨q, 2, none⟩) hlq).trans x2
      have k3 : W'.cell? ⟨q, 3, none⟩ = some (.int .i64 x.1.va) := (hbW.cell (p := ⟨q, 3, none⟩) hlq).trans x3
      have k5 : W'.cell? ⟨q, 5, none⟩ = some (.int .i64 x.1.st) := (hbW.cell (p := ⟨q, 5, none⟩) hlq).trans x5
      have k6 : W'.cell? ⟨q, 6, none⟩ = some (.int .i64 x.1.en) := (hbW.cell (p := ⟨q, 6, none⟩) hlq).trans x6
      rw [ev1]
      go_simp
      refine hK.out _ _ ⟨fun m => if m = 2 then .pointer (some ⟨q, 2, none⟩) else V m, (by simp [ev1]), ⟨fun h9 => hv0 (by simpa [more] using h9), fun h9 => hv1 (by simpa [more] using h9), fun _ => rfl, fun h9 => hv3 (by simpa [more] using h9), fun h9 => hv4 (by simpa [more] using h9), fun h9 => hv5 (by simpa [more] using h9), fun h9 => hv6 (by simpa [more] using h9), fun h9 => hv7 (by simpa [more] using h9), fun h9 => hv8 (by simpa [more] using h9), fun h9 => hv9 (by simpa [more] using h9), fun h9 => hv10 (by simpa [more] using h9), fun h9 => hv11 (by simpa [more] using h9)⟩, fun h9 => hw12 (by simpa [more] using h9), hbW⟩
    · intro L a' W' hI hLj hE K' hK
      obtain ⟨V, rfl, ⟨hv0, hv1, hv2, hv3, hv4, hv5, hv6, hv7, hv8, hv9, hv10, hv11⟩, hw12, hbW⟩ := hI
      have ev2 := hv2 (hE ⟨2, .data⟩ (by simp) rfl)
      have k0 : W'.cell? ⟨w.heap.size, 0, none⟩ = some (.slice ar RS.length cr) := (hbW.cell (p := ⟨w.heap.size, 0, none⟩) zBx).trans cBx
      have k2 : W'.cell? ⟨q, 2, none⟩ = some (.int .i64 x.1.ke) := (hbW.cell (p := ⟨q, 2, none⟩) hlq).trans x2
      have k3 : W'.cell? ⟨q, 3, none⟩ = some (.int .i64 x.1.va) := (hbW.cell (p := ⟨q, 3, none⟩) hlq).trans x3
      have k5 : W'.cell? ⟨q, 5, none⟩ = some (.int .i64 x.1.st) := (hbW.cell (p := ⟨q, 5, none⟩) hlq).trans x5
      have k6 : W'.cell? ⟨q, 6, none⟩ = some (.int .i64 x.1.en) := (hbW.cell (p := ⟨q, 6, none⟩) hlq).trans x6
      rw [ev2]
      go_simp
      refine hK.out _ _ ⟨fun m => if m = 3 then .int .i64 x.1.ke else V m, (by simp [ev2]), ⟨fun h9 => hv0 (by simpa [more] using h9), fun h9 => hv1 (by simpa [more] using h9), fun h9 => hv2 (by simpa [more] using h9), fun _ => rfl, fun h9 => hv4 (by simpa [more] using h9), fun h9 => hv5 (by simpa [more] using h9), fun h9 => hv6 (by simpa [more] using h9), fun h9 => hv7 (by simpa [more] using h9), fun h9 => hv8 (by simpa [more] using h9), fun h9 => hv9 (by simpa [more] using h9), fun h9 => hv10 (by simpa [more] using h9), fun h9 => hv11 (by simpa [more] using h9)⟩, fun h9 => hw12 (by simpa [more] using h9), hbW⟩
    · intro L a' W' hI hLj hE K' hK
      obtain ⟨V, rfl, ⟨hv0, hv1, hv2, hv3, hv4, hv5, hv6, hv7, hv8, hv9, hv10, hv11⟩, hw12, hbW⟩ := hI
      have k0 : W'.cell? ⟨w.heap.size, 0, none⟩ = some (.slice ar RS.length cr) := (hbW.cell (p := ⟨w.heap.size, 0, none⟩) zBx).trans cBx
      have k2 : W'.cell? ⟨q, 2, none⟩ = some (.int .i64 x.1.ke) := (hbW.cell (p := ⟨q, 2, none⟩) hlq).trans x2
      have k3 : W'.cell? ⟨q, 3, none⟩ = some (.int .i64 x.1.va) := (hbW.cell (p := ⟨q, 3, none⟩) hlq).trans x3
      have k5 : W'.cell? ⟨q, 5, none⟩ = some (.int .i64 x.1.st) := (hbW.cell (p := ⟨q, 5, none⟩) hlq).trans x5
      have k6 : W'.cell? ⟨q, 6, none⟩ = some (.int .i64 x.1.en) := (hbW.cell (p := ⟨q, 6, none⟩) hlq).trans x6
      go_simp
      refine hK.out _ _ ⟨fun m => if m = 4 then .pointer (some ⟨q, 5, none⟩) else V m, rfl, ⟨fun h9 => hv0 (by simpa [more] using h9), fun h9 => hv1 (by simpa [more] using h9), fun h9 => hv2 (by simpa [more] using h9), fun h9 => hv3 (by simpa [more] using h9), fun _ => rfl, fun h9 => hv5 (by simpa [more] using h9), fun h9 => hv6 (by simpa [more] using h9), fun h9 => hv7 (by simpa [more] using h9), fun h9 => hv8 (by simpa [more] using h9), fun h9 => hv9 (by simpa [more] using h9), fun h9 => hv10 (by simpa [more] using h9), fun h9 => hv11 (by simpa [more] using h9)⟩, fun h9 => hw12 (by simpa [more] using h9), hbW⟩
    · intro L a' W' hI hLj hE K' hK
      obtain ⟨V, rfl, ⟨hv0, hv1, hv2, hv3, hv4, hv5, hv6, hv7, hv8, hv9, hv10, hv11⟩, hw12, hbW⟩ := hI
      have ev4 := hv4 (hE ⟨4, .data⟩ (by simp) rfl)
      have k0 : W'.cell? ⟨w.heap.size, 0, none⟩ = some (.slice ar RS.length cr) := (hbW.cell (p := ⟨w.heap.size, 0, none⟩) zBx).trans cBx
      have k2 : W'.cell? ⟨q, 2, none⟩ = some (.int .i64 x.1.ke) := (hbW.cell (p := ⟨q, 2, none⟩) hlq).trans x2
      have k3 : W'.cell? ⟨q, 3, none⟩ = some (.int .i64 x.1.va) := (hbW.cell (p := ⟨q, 3, none⟩) hlq).trans x3
      have k5 : W'.cell? ⟨q, 5, none⟩ = some (.int .i64 x.1.st) := (hbW.cell (p := ⟨q, 5, none⟩) hlq).trans x5
      have k6 : W'.cell? ⟨q, 6, none⟩ = some (.int .i64 x.1.en) := (hbW.cell (p := ⟨q, 6, none⟩) hlq).trans x6
      rw [ev4]
      go_simp
      refine hK.out _ _ ⟨fun m => if m = 5 then .agg #[.int .i64 x.1.st, .int .i64 x.1.en] else V m, (by simp [ev4]), ⟨fun h9 => hv0 (by simpa [more] using h9), fun h9 => hv1 (by simpa [more] using h9), fun h9 => hv2 (by simpa [more] using h9), fun h9 => hv3 (by simpa [more] using h9), fun h9 => hv4 (by simpa [more] using h9), fun _ => rfl, fun h9 => hv6 (by simpa [more] using h9), fun h9 => hv7 (by simpa [more] using h9), fun h9 => hv8 (by simpa [more] using h9), fun h9 => hv9 (by simpa [more] using h9), fun h9 => hv10 (by simpa [more] using h9), fun h9 => hv11 (by simpa [more] using h9)⟩, fun h9 => hw12 (by simpa [more] using h9), hbW⟩
    · intro L a' W' hI hLj hE K' hK
      obtain ⟨V, rfl, ⟨hv0, hv1, hv2, hv3, hv4, hv5, hv6, hv7, hv8, hv9, hv10, hv11⟩, hw12, hbW⟩ := hI
      have k0 : W'.cell? ⟨w.heap.size, 0, none⟩ = some (.slice ar RS.length cr) := (hbW.cell (p := ⟨w.heap.size, 0, none⟩) zBx).trans cBx
      have k2 : W'.cell? ⟨q, 2, none⟩ = some (.int .i64 x.1.ke) := (hbW.cell (p := ⟨q, 2, none⟩) hlq).trans x2
      have k3 : W'.cell? ⟨q, 3, none⟩ = some (.int .i64 x.1.va) := (hbW.cell (p := ⟨q, 3, none⟩) hlq).trans x3
      have k5 : W'.cell? ⟨q, 5, none⟩ = some (.int .i64 x.1.st) := (hbW.cell (p := ⟨q, 5, none⟩) hlq).trans x5
      have k6 : W'.cell? ⟨q, 6, none⟩ = some (.int .i64 x.1.en) := (hbW.cell (p := ⟨q, 6, none⟩) hlq).trans x6
      go_simp
      refine hK.out _ _ ⟨fun m => if m = 6 then .agg #[.int .i64 0, .int .i64 0, .int .i64 0, .int .i64 0] else V m, rfl, ⟨fun h9 => hv0 (by simpa [more] using h9), fun h9 => hv1 (by simpa [more] using h9), fun h9 => hv2 (by simpa [more] using h9), fun h9 => hv3 (by simpa [more] using h9), fun h9 => hv4 (by simpa [more] using h9), fun h9 => hv5 (by simpa [more] using h9), fun _ => rfl, fun h9 => hv7 (by simpa [more] using h9), fun h9 => hv8 (by simpa [more] using h9), fun h9 => hv9 (by simpa [more] using h9), fun h9 => hv10 (by simpa [more] using h9), fun h9 => hv11 (by simpa [more] using h9)⟩, fun h9 => hw12 (by simpa [more] using h9), hbW⟩
    · intro L a' W' hI hLj hE K' hK
      obtain ⟨V, rfl, ⟨hv0, hv1, hv2, hv3, hv4, hv5, hv6, hv7, hv8, hv9, hv10, hv11⟩, hw12, hbW⟩ := hI
      have k0 : W'.cell? ⟨w.heap.size, 0, none⟩ = some (.slice ar RS.length cr) := (hbW.cell (p := ⟨w.heap.size, 0, none⟩) zBx).trans cBx
      have k2 : W'.cell? ⟨q, 2, none⟩ = some (.int .i64 x.1.ke) := (hbW.cell (p := ⟨q, 2, none⟩) hlq).trans x2
      have k3 : W'.cell? ⟨q, 3, none⟩ = some (.int .i64 x.1.va) := (hbW.cell (p := ⟨q, 3, none⟩) hlq).trans x3
      have k5 : W'.cell? ⟨q, 5, none⟩ = some (.int .i64 x.1.st) := (hbW.cell (p := ⟨q, 5, none⟩) hlq).trans x5
      have k6 : W'.cell? ⟨q, 6, none⟩ = some (.int .i64 x.1.en) := (hbW.cell (p := ⟨q, 6, none⟩) hlq).trans x6
      go_simp
      refine hK.out _ _ ⟨fun m => if m = 7 then .pointer (some ⟨q, 0, none⟩) else V m, rfl, ⟨fun h9 => hv0 (by simpa [more] using h9), fun h9 => hv1 (by simpa [more] using h9), fun h9 => hv2 (by simpa [more] using h9), fun h9 => hv3 (by simpa [more] using h9), fun h9 => hv4 (by simpa [more] using h9), fun h9 => hv5 (by simpa [more] using h9), fun h9 => hv6 (by simpa [more] using h9), fun _ => rfl, fun h9 => hv8 (by simpa [more] using h9), fun h9 => hv9 (by simpa [more] using h9), fun h9 => hv10 (by simpa [more] using h9), fun h9 => hv11 (by simpa [more] using h9)⟩, fun h9 => hw12 (by simpa [more] using h9), hbW⟩
    · intro L a' W' hI hLj hE K' hK
      obtain ⟨V, rfl, ⟨hv0, hv1, hv2, hv3, hv4, hv5, hv6, hv7, hv8, hv9, hv10, hv11⟩, hw12, hbW⟩ := hI
      have ev7 := hv7 (hE ⟨7, .data⟩ (by simp) rfl)
      have k0 : W'.cell? ⟨w.heap.size, 0, none⟩ = some (.slice ar RS.length cr) := (hbW.cell (p := ⟨w.heap.size, 0, none⟩) zBx).trans cBx
      have k2 : W'.cell? ⟨q, 2, none⟩ = some (.int .i64 x.1.ke) := (hbW.cell (p := ⟨q, 2, none⟩) hlq).trans x2
      have k3 : W'.cell? ⟨q, 3, none⟩ = some (.int .i64 x.1.va) := (hbW.cell (p := ⟨q, 3, none⟩) hlq).trans x3
      have k5 : W'.cell? ⟨q, 5, none⟩ = some (.int .i64 x.1.st) := (hbW.cell (p := ⟨q, 5, none⟩) hlq).trans x5
      have k6 : W'.cell? ⟨q, 6, none⟩ = some (.int .i64 x.1.en) := (hbW.cell (p := ⟨q, 6, none⟩) hlq).trans x6
      rw [ev7]
      go_simp
      refine hK.out _ _ ⟨fun m => if m = 8 then .pointer (some ⟨q, 3, none⟩) else V m, (by simp [ev7]), ⟨fun h9 => hv0 (by simpa [more] using h9), fun h9 => hv1 (by simpa [more] using h9), fun h9 => hv2 (by simpa [more] using h9), fun h9 => hv3 (by simpa [more] using h9), fun h9 => hv4 (by simpa [more] using h9), fun h9 => hv5 (by simpa [more] using h9), fun h9 => hv6 (by simpa [more] using h9), fun h9 => hv7 (by simpa [more] using h9), fun _ => rfl, fun h9 => hv9 (by simpa [more] using h9), fun h9 => hv10 (by simpa [more] using h9), fun h9 => hv11 (by simpa [more] using h9)⟩, fun h9 => hw12 (by simpa [more] using h9), hbW⟩
    · intro L a' W' hI hLj hE K' hK
      obtain ⟨V, rfl, ⟨hv0, hv1, hv2, hv3, hv4, hv5, hv6, hv7, hv8, hv9, hv10, hv11⟩, hw12, hbW⟩ := hI
      have ev8 := hv8 (hE ⟨8, .data⟩ (by simp) rfl)
      have k0 : W'.cell? ⟨w.heap.size, 0, none⟩ = some (.slice ar RS.length cr) := (hbW.cell (p := ⟨w.heap.size, 0, none⟩) zBx).trans cBx
      have k2 : W'.cell? ⟨q, 2, none⟩ = some (.int .i64 x.1.ke) := (hbW.cell (p := ⟨q, 2, none⟩) hlq).trans x2
      have k3 : W'.cell? ⟨q, 3, none⟩ = some (.int .i64 x.1.va) := (hbW.cell (p := ⟨q, 3, none⟩) hlq).trans x3
      have k5 : W'.cell? ⟨q, 5, none⟩ = some (.int .i64 x.1.st) := (hbW.cell (p := ⟨q, 5, none⟩) hlq).trans x5
      have k6 : W'.cell? ⟨q, 6, none⟩ = some (.int .i64 x.1.en) := (hbW.cell (p := ⟨q, 6, none⟩) hlq).trans x6
      rw [ev8]
      go_simp
      refine hK.out _ _ ⟨fun m => if m = 9 then .int .i64 x.1.va else V m, (by simp [ev8]), ⟨fun h9 => hv0 (by simpa [more] using h9), fun h9 => hv1 (by simpa [more] using h9), fun h9 => hv2 (by simpa [more] using h9), fun h9 => hv3 (by simpa [more] using h9), fun h9 => hv4 (by simpa [more] using h9), fun h9 => hv5 (by simpa [more] using h9), fun h9 => hv6 (by simpa [more] using h9), fun h9 => hv7 (by simpa [more] using h9), fun h9 => hv8 (by simpa [more] using h9), fun _ => rfl, fun h9 => hv10 (by simpa [more] using h9), fun h9 => hv11 (by simpa [more] using h9)⟩, fun h9 => hw12 (by simpa [more] using h9), hbW⟩
    · intro L a' W' hI hLj hE K' hK
      obtain ⟨V, rfl, ⟨hv0, hv1, hv2, hv3, hv4, hv5, hv6, hv7, hv8, hv9, hv10, hv11⟩, hw12, hbW⟩ := hI
      have ev6 := hv6 (hE ⟨6, .data⟩ (by simp) rfl)
      have ev9 := hv9 (hE ⟨9, .data⟩ (by simp) rfl)
      have k0 : W'.cell? ⟨w.heap.size, 0, none⟩ = some (.slice ar RS.length cr) := (hbW.cell (p := ⟨w.heap.size, 0, none⟩) zBx).trans cBx
      have k2 : W'.cell? ⟨q, 2, none⟩ = some (.int .i64 x.1.ke) := (hbW.cell (p := ⟨q, 2, none⟩) hlq).trans x2
      have k3 : W'.cell? ⟨q, 3, none⟩ = some (.int .i64 x.1.va) := (hbW.cell (p := ⟨q, 3, none⟩) hlq).trans x3
      have k5 : W'.cell? ⟨q, 5, none⟩ = some (.int .i64 x.1.st) := (hbW.cell (p := ⟨q, 5, none⟩) hlq).trans x5
      have k6 : W'.cell? ⟨q, 6, none⟩ = some (.int .i64 x.1.en) := (hbW.cell (p := ⟨q, 6, none⟩) hlq).trans x6
      rw [ev6]
      rw [ev9]
      go_simp
      (first | (gi_at_call 13) | (refine ⟨trivial, ?_⟩; gi_at_call 13) | (refine ⟨trivial, fun _ => (by omega), ?_⟩; gi_at_call 13))
      (refine (callsIn_wide.2 (impladd_is _ HY)).mono ?_; rintro e9 Wf ⟨rfl, hbf⟩)
      (try gi_wp2_with fail)
      refine hK.out _ _ ⟨fun m => if m = 10 then .agg #[.int .i64 na, .int .i64 nb, .int .i64 nc, .int .i64 nd] else V m, (by simp [ev6, ev9]), ⟨fun h9 => hv0 (by simpa [more] using h9), fun h9 => hv1 (by simpa [more] using h9), fun h9 => hv2 (by simpa [more] using h9), fun h9 => hv3 (by simpa [more] using h9), fun h9 => hv4 (by simpa [more] using h9), fun h9 => hv5 (by simpa [more] using h9), fun h9 => hv6 (by simpa [more] using h9), fun h9 => hv7 (by simpa [more] using h9), fun h9 => hv8 (by simpa [more] using h9), fun h9 => hv9 (by simpa [more] using h9), fun _ => rfl, fun h9 => hv11 (by simpa [more] using h9)⟩, fun h9 => ownTb_bel (hw12 (by simpa [more] using h9)) hbf, hbW.trans (hbf.mono hbW.size)⟩
    · intro L a' W' hI hLj hE K' hK
      obtain ⟨V, rfl, ⟨hv0, hv1, hv2, hv3, hv4, hv5, hv6, hv7, hv8, hv9, hv10, hv11⟩, hw12, hbW⟩ := hI
      have ev3 := hv3 (hE ⟨3, .data⟩ (by simp) rfl)
      have ev5 := hv5 (hE ⟨5, .data⟩ (by simp) rfl)
      have ev10 := hv10 (hE ⟨10, .data⟩ (by simp) rfl)
      have k0 : W'.cell? ⟨w.heap.size, 0, none⟩ = some (.slice ar RS.length cr) := (hbW.cell (p := ⟨w.heap.size, 0, none⟩) zBx).trans cBx
      have k2 : W'.cell? ⟨q, 2, none⟩ = some (.int .i64 x.1.ke) := (hbW.cell (p := ⟨q, 2, none⟩) hlq).trans x2
      have k3 : W'.cell? ⟨q, 3, none⟩ = some (.int .i64 x.1.va) := (hbW.cell (p := ⟨q, 3, none⟩) hlq).trans x3
      have k5 : W'.cell? ⟨q, 5, none⟩ = some (.int .i64 x.1.st) := (hbW.cell (p := ⟨q, 5, none⟩) hlq).trans x5
      have k6 : W'.cell? ⟨q, 6, none⟩ = some (.int .i64 x.1.en) := (hbW.cell (p := ⟨q, 6, none⟩) hlq).trans x6
      rw [ev3]
      rw [ev5]
      rw [ev10]
      go_simp
      refine hK.out _ _ ⟨fun m => if m = 11 then .agg #[.int .i64 x.1.ke, .int .i64 x.1.st, .int .i64 x.1.en, .int .i64 na, .int .i64 nb, .int .i64 nc, .int .i64 nd] else V m, (by simp [ev3, ev5, ev10]), ⟨fun h9 => hv0 (by simpa [more] using h9), fun h9 => hv1 (by simpa [more] using h9), fun h9 => hv2 (by simpa [more] using h9), fun h9 => hv3 (by simpa [more] using h9), fun h9 => hv4 (by simpa [more] using h9), fun h9 => hv5 (by simpa [more] using h9), fun h9 => hv6 (by simpa [more] using h9), fun h9 => hv7 (by simpa [more] using h9), fun h9 => hv8 (by simpa [more] using h9), fun h9 => hv9 (by simpa [more] using h9), fun h9 => hv10 (by simpa [more] using h9), fun _ => rfl⟩, fun h9 => hw12 (by simpa [more] using h9), hbW⟩
    · intro L a' W' hI hLj hE K' hK
      obtain ⟨V, rfl, ⟨hv0, hv1, hv2, hv3, hv4, hv5, hv6, hv7, hv8, hv9, hv10, hv11⟩, hw12, hbW⟩ := hI
      have ev0 := hv0 (hE ⟨0, .data⟩ (by simp) rfl)
      have ev11 := hv11 (hE ⟨11, .data⟩ (by simp) rfl)
      have k0 : W'.cell? ⟨w.heap.size, 0, none⟩ = some (.slice ar RS.length cr) := (hbW.cell (p := ⟨w.heap.size, 0, none⟩) zBx).trans cBx
      have k2 : W'.cell? ⟨q, 2, none⟩ = some (.int .i64 x.1.ke) := (hbW.cell (p := ⟨q, 2, none⟩) hlq).trans x2
      have k3 : W'.cell? ⟨q, 3, none⟩ = some (.int .i64 x.1.va) := (hbW.cell (p := ⟨q, 3, none⟩) hlq).trans x3
      have k5 : W'.cell? ⟨q, 5, none⟩ = some (.int .i64 x.1.st) := (hbW.cell (p := ⟨q, 5, none⟩) hlq).trans x5
      have k6 : W'.cell? ⟨q, 6, none⟩ = some (.int .i64 x.1.en) := (hbW.cell (p := ⟨q, 6, none⟩) hlq).trans x6
      rw [ev0]
      rw [ev11]
      go_simp
      (first | (gi_at_call 43) | (refine ⟨trivial, ?_⟩; gi_at_call 43) | (refine ⟨trivial, fun _ => (by omega), ?_⟩; gi_at_call 43))
      (refine (callsIn_wide.2 (seswith_any x.1.ke x.1.st x.1.en na nb nc nd ar RS.length cr RS _ (((unhide HT).below (bel_drew (Below.refl _ _))).below hbW) (by omega))).mono ?_; rintro e9 Wf ⟨v9, rfl, hO9, hbf⟩)
      (try gi_wp2_with fail)
      refine hK.out _ _ ⟨fun m => if m = 12 then v9 else V m, (by simp [ev0, ev11]), ⟨fun h9 => hv0 (by simpa [more] using h9), fun h9 => hv1 (by simpa [more] using h9), fun h9 => hv2 (by simpa [more] using h9), fun h9 => hv3 (by simpa [more] using h9), fun h9 => hv4 (by simpa [more] using h9), fun h9 => hv5 (by simpa [more] using h9), fun h9 => hv6 (by simpa [more] using h9), fun h9 => hv7 (by simpa [more] using h9), fun h9 => hv8 (by simpa [more] using h9), fun h9 => hv9 (by simpa [more] using h9), fun h9 => hv10 (by simpa [more] using h9), fun h9 => hv11 (by simpa [more] using h9)⟩, fun _ => World.ownsRow.mono hO9 (Nat.le_trans hB.size hbW.size), hbW.trans (hbf.mono hbW.size)⟩
    · intro L a' W' hI hA K' hK
      obtain ⟨V, rfl, ⟨hv0, hv1, hv2, hv3, hv4, hv5, hv6, hv7, hv8, hv9, hv10, hv11⟩, hw12, hbW⟩ := hI
      have hO12 := hw12 (hA 12 (by decide))
      obtain ⟨v9, hv9⟩ : ∃ v9, V 12 = v9 := ⟨_, rfl⟩
      rw [hv9] at hO12 ⊢
      obtain ⟨ar9, n9, cr9, e9⟩ : ∃ a n c, v9 = .slice a n c := by
        rcases hO12.2 with ⟨h, _⟩ | ⟨g, cap, cur, h, _⟩
        · exact ⟨_, _, _, h⟩
        · exact ⟨_, _, _, h⟩
      subst e9
      have hBx' : Boxed W' w.heap.size 74 (.slice ar RS.length cr) := (hbW.block w.heap.size zBx).trans (unhide HBx)
      have k0 := hBx'.cell
      have f0 := hBx'.frozen
      have hbWW : Below W.heap.size W W' := bel_trans (bel_drew (Below.refl _ _)) hbW
      have zW : w.heap.size ≤ W.heap.size := hB.size
      have hnb : (Value.slice ar9 n9 cr9).ownBlock ≠ some w.heap.size := fun e9 => hBx'.not_row (by decide) hO12 e9.symm
      have hb2 : Below w.heap.size W (W'.setCell ⟨w.heap.size, 0, none⟩ (.slice ar9 n9 cr9)) := (hbWW.mono zW).setCell (Nat.le_refl _) _
      go_simp
      refine hK.out _ _ ?_
      refine ⟨⟨Nat.le_trans hbWW.size (by simp [World.setCell]), fun k o hk h0 ho => ?_⟩, ⟨hb2, fun bl cs ty hty hbl => ?_⟩, ⟨_, hBx'.set _, ?_, by rw [List.length_append]; simp; omega, hB.trans hb2⟩⟩
      · have hlt := (Array.getElem?_eq_some_iff.1 h0).1
        exact (Below.heap_setCell _ _ _ _ (fun e => by simp at e hk; omega)).trans ((hbWW.block k hlt).trans h0)
      · have hlt := (Array.getElem?_eq_some_iff.1 hbl).1
        have h8 := (hbWW.block bl hlt).trans hbl
        refine (Below.heap_setCell _ _ _ _ (fun e => ?_)).trans h8
        simp at e
        subst e
        have h7 := hBx'
        unfold Boxed at h7
        rw [h8] at h7
        simp only [Option.some.injEq, Obj.cells.injEq] at h7
        rcases hty with rfl | rfl
        · exact absurd h7.2.1 (by decide)
        · exact absurd h7.2.1 (by decide)
      · rw [List.map_append]
        simp only [List.map_cons, List.map_nil]
        rw [tabP_app, unhide HRS, unhide HST]
        exact ownTb_set hO12 hnb
  case done =>
    rintro D ys W hD hys ⟨rv, hv, hrow, hpN, hB⟩ hK
    obtain rfl := hys.symm
    have hcv := hv.cell
    have HR := hide hrow
    clear hrow
    gi_wp2
    refine ⟨by simp, .inl ⟨_, _, rfl, run_takeDeferred hK, ?_⟩⟩
    exact ⟨_, results_tmp rfl _ _ _, rv, rfl, ownsRow_putObj (unhide HR) _ hK rfl, hB.trans (belowK_b (w := w) (Nat.le_refl _) W D _ _ (by simp at hD; omega) hK rfl rfl)⟩
  case stop =>
    rintro D c pre W _ _ hx _
    exact hx.elim
end Go.Proofs.YtbockbdlojkpiaaGreat
/- Proved here: what is known of all windows of all keys, in the specification. -/
namespace Go.Proofs.YtbockbdlojkpiaaGreat
open Go.ChangeShapes Go.WideShapes Go.ChangeAt Go.RowKit
set_option linter.unusedVariables false

set_option linter.unusedSimpArgs false
theorem pairsT_le (s t k z p l e v r : Int) (xs : List IwR) : (pairsT s t k z p l e v r xs).length ≤ 7320 := by
  unfold pairsT
  split
  · rename_i hc
    have h1 := (recsB_iff (by simp only [Bool.and_eq_true] at hc; exact hc.2)).1
    have h2 := prsT_len k z p xs
    omega
  · simp
theorem spc3 {W W' : World} {B g p1 p2 : Nat} {v0 v1 v2 : Value} (h : (W.cell? ⟨B, 2, none⟩ = some v0 ∧ W.cell? ⟨g, p1, none⟩ = some v1 ∧ W.cell? ⟨g, p2, none⟩ = some v2) ∧ B < W.heap.size ∧ g < W.heap.size) (hb : Below W.heap.size W W') : (W'.cell? ⟨B, 2, none⟩ = some v0 ∧ W'.cell? ⟨g, p1, none⟩ = some v1 ∧ W'.cell? ⟨g, p2, none⟩ = some v2) ∧ B < W'.heap.size ∧ g < W'.heap.size := by
  obtain ⟨⟨h0, h1, h2⟩, z1, z2⟩ := h
  exact ⟨⟨(hb.cell (p := ⟨B, 2, none⟩) z1).trans h0, (hb.cell (p := ⟨g, p1, none⟩) z2).trans h1, (hb.cell (p := ⟨g, p2, none⟩) z2).trans h2⟩, Nat.lt_of_lt_of_le z1 hb.size, Nat.lt_of_lt_of_le z2 hb.size⟩
theorem spc8 {W W' : World} {R g B p1 p2 : Nat} {v0 v1 v2 v3 v4 v5 v6 v7 : Value} (h : ((W.cell? ⟨R, 2, none⟩ = some v0 ∧ W.cell? ⟨R, 3, none⟩ = some v1) ∧ (W.cell? ⟨g, p1, none⟩ = some v2 ∧ W.cell? ⟨g, p2, none⟩ = some v3) ∧ W.cell? ⟨B, 0, none⟩ = some v4 ∧ W.cell? ⟨B, 1, none⟩ = some v5 ∧ W.cell? ⟨B, 2, none⟩ = some v6 ∧ W.cell? ⟨B, 3, none⟩ = some v7) ∧ R < W.heap.size ∧ g < W.heap.size ∧ B < W.heap.size) (hb : Below W.heap.size W W') : ((W'.cell? ⟨R, 2, none⟩ = some v0 ∧ W'.cell? ⟨R, 3, none⟩ = some v1) ∧ (W'.cell? ⟨g, p1, none⟩ = some v2 ∧ W'.cell? ⟨g, p2, none⟩ = some v3) ∧ W'.cell? ⟨B, 0, none⟩ = some v4 ∧ W'.cell? ⟨B, 1, none⟩ = some v5 ∧ W'.cell? ⟨B, 2, none⟩ = some v6 ∧ W'.cell? ⟨B, 3, none⟩ = some v7) ∧ R < W'.heap.size ∧ g < W'.heap.size ∧ B < W'.heap.size := by
  obtain ⟨⟨⟨h0, h1⟩, ⟨h2, h3⟩, h4, h5, h6, h7⟩, z1, z2, z3⟩ := h
  exact ⟨⟨⟨(hb.cell (p := ⟨R, 2, none⟩) z1).trans h0, (hb.cell (p := ⟨R, 3, none⟩) z1).trans h1⟩, ⟨(hb.cell (p := ⟨g, p1, none⟩) z2).trans h2, (hb.cell (p := ⟨g, p2, none⟩) z2).trans h3⟩, (hb.cell (p := ⟨B, 0, none⟩) z3).trans h4, (hb.cell (p := ⟨B, 1, none⟩) z3).trans h5, (hb.cell (p := ⟨B, 2, none⟩) z3).trans h6, (hb.cell (p := ⟨B, 3, none⟩) z3).trans h7⟩, Nat.lt_of_lt_of_le z1 hb.size, Nat.lt_of_lt_of_le z2 hb.size, Nat.lt_of_lt_of_le z3 hb.size⟩
theorem specfind_r (a : Option Addr) (len cap : Nat) (xs : List TbR) (ky st en : Int) (w : World) {n s l m : Int} (h : TbRs w a len xs) (hV : Hid (aggF (findT ky st en xs) = (n, s, l, m))) : Calls Tryz.prog 26 #[.slice a len cap, .int .i64 ky, .agg #[.int .i64 st, .int .i64 en]] w fun e w' => ∃ b, e = .returned (.tuple #[.agg #[.int .i64 n, .int .i64 s, .int .i64 l, .int .i64 m], .bool b]) ∧ Below w.heap.size w w' := by
  obtain ⟨b, hb⟩ := foundV_is _ (unhide hV)
  have h9 := specfind_any a len cap xs ky st en w h
  rw [hb] at h9
  refine h9.mono ?_
  rintro e w' ⟨rfl, h8⟩
  exact ⟨b, rfl, h8⟩
set_option maxRecDepth 20000 in
set_option maxHeartbeats 8000000 in
theorem spectable_any (s t k z p l e : Int) (b : Bool) (v r : Int) (a : Option Addr) (len cap : Nat) (xs : List IwR) (w : World) (h : IwRs w a len xs) : Calls Tryz.prog 10 #[.agg #[.int .i64 s, .int .i64 t, .int .i64 k, .int .i64 z, .int .i64 p, .int .i64 l, .int .i64 e, .bool b, .int .i64 v, .int .i64 r], .slice a len cap] w fun e' w' => ∃ v', e' = .returned v' ∧ OwnTb w' w.heap.size v' (tabP k (pairsT s t k z p l e v r xs)) ∧ Below w.heap.size w w' := by
  have hbJ : Below w.heap.size w ((w.alloc (.cells #[.int .i64 s, .int .i64 t, .int .i64 k, .int .i64 z, .int .i64 p, .int .i64 l, .int .i64 e, .bool b, .int .i64 v, .int .i64 r] 24)).alloc (.cells #[] 39)) := bel_alloc (bel_one _ _) _
  have hPl := pairsT_le s t k z p l e v r xs
  obtain ⟨PR, hPR⟩ : ∃ PR, pairsT s t k z p l e v r xs = PR := ⟨_, rfl⟩
  rw [hPR] at hPl
  have HPR := hide hPR
  rw [hPR]
  clear hPR
  go_enter Tryz.func10, Tryz.ntmps10
  go_wp2_with fail
  refine (specpairs_any s t k z p l e b v r a len cap xs _ (h.below hbJ)).mono ?_
  rw [unhide HPR]
  rintro e' w1 ⟨vp, rfl, hOp, hb1⟩
  obtain ⟨ap, cp, rfl, HP0, _, _⟩ := holdLp hOp (by omega)
  have z1 : w.heap.size + 1 < w1.heap.size := by have := hb1.size; simp at this; omega
  have bJ : w1.heap[w.heap.size]? = some (.cells #[.int .i64 s, .int .i64 t, .int .i64 k, .int .i64 z, .int .i64 p, .int .i64 l, .int .i64 e, .bool b, .int .i64 v, .int .i64 r] 24 (0, 0)) := (hb1.block w.heap.size (by simp; omega)).trans ((Below.heap_alloc _ _ _ (by simp)).trans (World.alloc_heap_new w _))
  have O1 : OwnTb w1 (w.heap.size + 1) (.slice (some ⟨w.heap.size + 1, 0, none⟩) 0 0) [] := by
    refine ownTb_bel ?_ hb1
    have h9 := World.ownsRow_lit (base := w.heap.size + 1) (size := 7) (e := 39) (w.alloc (.cells #[.int .i64 s, .int .i64 t, .int .i64 k, .int .i64 z, .int .i64 p, .int .i64 l, .int .i64 e, .bool b, .int .i64 v, .int .i64 r] 24)) #[] 0 (by simp) (by decide) (by simp)
    rw [World.size_alloc] at h9
    exact h9
  have hbw1 : Below w.heap.size w w1 := bel_trans hbJ hb1
  have HP := hide HP0
  clear hOp HP0 hb1 hbJ
  go_wp2
  go_loopw [5, 7] (fun lv iv wr => ∃ i : Nat, i ≤ PR.length ∧ iv = .int .i64 i ∧ Hid (OwnTb wr (w.heap.size + 1) lv (tabP k (PR.take i))) ∧ Hid (PR.length = 0 ∨ LpRs wr ap PR.length PR) ∧ Hid (wr.heap[w.heap.size]? = some (.cells #[.int .i64 s, .int .i64 t, .int .i64 k, .int .i64 z, .int .i64 p, .int .i64 l, .int .i64 e, .bool b, .int .i64 v, .int .i64 r] 24 (0, 0))) ∧ Below w.heap.size w wr) (fun _ iv _ => PR.length - (intOf iv).toNat)
  case atStart => exact ⟨0, Nat.zero_le _, rfl, hide O1, hide (Or.inr (unhide HP)), hide bJ, hbw1⟩
  case round =>
    clear O1 HP bJ hbw1
    obtain ⟨i, hil, rfl, HO, HL, HJ, hbw⟩ := hrel
    have hTl : (tabP k (PR.take i)).length ≤ i := by refine Nat.le_trans (tabP_len _ _) ?_; rw [List.length_take]; omega
    by_cases hlt : i < PR.length
    · obtain ⟨RS, hRS⟩ : ∃ RS, tabP k (PR.take i) = RS := ⟨_, rfl⟩
      rw [hRS] at HO hTl
      obtain ⟨x, hxk⟩ : ∃ x, PR[i]? = some x := ⟨_, List.getElem?_eq_getElem hlt⟩
      have HS : Hid (tabP k (PR.take (i + 1)) = stepP k RS x) := hide (by rw [tabP_snoc hxk, hRS])
      obtain ⟨_, _, hy⟩ := (unhide HL).resolve_left (by omega)
      obtain ⟨gp, op, rfl, hr⟩ := hy.resolve_left (by omega)
      have hgp : gp < wr.heap.size := hr.lt (by omega)
      obtain ⟨c0, c1, c2, c3, c4, c5, c6⟩ := hr i _ hxk
      obtain ⟨ar, cr, rfl, HT0, _, _⟩ := holdTb (unhide HO) (by omega)
      clear hr hy hxk hRS
      obtain ⟨kd, tm, ke, va, nn, st, en⟩ := x
      dsimp only at c0 c1 c2 c3 c4 c5 c6
      have zw : w.heap.size < wr.heap.size := (Array.getElem?_eq_some_iff.1 (unhide HJ)).1
      have j2 := Joins.cell_of_block (unhide HJ) 2
      simp only [List.getElem?_toArray, List.getElem?_cons_zero, List.getElem?_cons_succ] at j2
      have hbQ : Below wr.heap.size wr (wr.alloc (.cells #[.int .i64 kd, .int .i64 tm, .int .i64 ke, .int .i64 va, .int .i64 nn] 41)) := bel_one _ _
      have HT := hide (HT0.below hbQ)
      have hS0 : ((wr.alloc (.cells #[.int .i64 kd, .int .i64 tm, .int .i64 ke, .int .i64 va, .int .i64 nn] 41)).drew.cell? ⟨wr.heap.size, 2, none⟩ = some (.int .i64 ke) ∧ (wr.alloc (.cells #[.int .i64 kd, .int .i64 tm, .int .i64 ke, .int .i64 va, .int .i64 nn] 41)).drew.cell? ⟨gp, op + i * 7 + 5, none⟩ = some (.int .i64 st) ∧ (wr.alloc (.cells #[.int .i64 kd, .int .i64 tm, .int .i64 ke, .int .i64 va, .int .i64 nn] 41)).drew.cell? ⟨gp, op + i * 7 + 5 + 1, none⟩ = some (.int .i64 en)) ∧ wr.heap.size < (wr.alloc (.cells #[.int .i64 kd, .int .i64 tm, .int .i64 ke, .int .i64 va, .int .i64 nn] 41)).drew.heap.size ∧ gp < (wr.alloc (.cells #[.int .i64 kd, .int .i64 tm, .int .i64 ke, .int .i64 va, .int .i64 nn] 41)).drew.heap.size := ⟨⟨by simp [go_sem], by simpa [go_sem, hgp] using c5, by simpa [go_sem, hgp] using c6⟩, by simp, by simp; omega⟩
      clear HT0
      by_cases hk : k = 3
      · have hk1 : (k == 3) = true := by simp [hk]
        have HS2 : Hid (stepP k RS ⟨kd, tm, ke, va, nn, st, en⟩ = sesPut ke st en (addF ag0 va) RS) := hide (by unfold stepP; rw [if_pos hk])
        clear hk
        go_wp2_with fail
        go_region_with (go_at_call 25; refine (specses_any kd tm ke va nn st en _ _ _ RS _ ((unhide HT).below (bel_drew (Below.refl _ _))) (by omega)).mono ?_; rintro e9 wf ⟨vf, rfl, hOf, hbf⟩)
        all_goals
          go_wp2
          refine ⟨⟨i + 1, by omega, by go_num, hide ?_, hide ?_, hide ?_, bel_trans (bel_drew (bel_alloc hbw _)) hbf⟩, by simp [intOf]; omega⟩
          · rw [unhide HS, unhide HS2]; exact World.ownsRow.mono hOf (by simp; omega)
          · exact Or.inr (((((unhide HL).resolve_left (by omega)).below hbQ).below (bel_drew (Below.refl _ _))).below hbf)
          · exact (hbf.block w.heap.size (by simp; omega)).trans ((Below.heap_alloc _ _ _ zw).trans (unhide HJ))
      · have hk1 : (k == 3) = false := by simp [hk]
        obtain ⟨xa, xb, xc, xd, hx⟩ : ∃ xa xb xc xd, aggF (findT ke st en RS) = (xa, xb, xc, xd) := ⟨_, _, _, _, rfl⟩
        have HX := hide hx
        clear hx
        go_wp2_with fail
        go_cut [9] (fun pv W => ∃ B : Nat, pv = .pointer (some ⟨B, 0, none⟩) ∧ (wr.alloc (.cells #[.int .i64 kd, .int .i64 tm, .int .i64 ke, .int .i64 va, .int .i64 nn] 41)).heap.size ≤ B ∧ W.heap[B]? = some (.cells #[.int .i64 xa, .int .i64 xb, .int .i64 xc, .int .i64 xd] 37 (0, 0)) ∧ Below (wr.alloc (.cells #[.int .i64 kd, .int .i64 tm, .int .i64 ke, .int .i64 va, .int .i64 nn] 41)).heap.size (wr.alloc (.cells #[.int .i64 kd, .int .i64 tm, .int .i64 ke, .int .i64 va, .int .i64 nn] 41)) W)
        case first =>
          refine wp_region_held_drew (S := (fun W => (W.cell? ⟨wr.heap.size, 2, none⟩ = some (.int .i64 ke) ∧ W.cell? ⟨gp, op + i * 7 + 5, none⟩ = some (.int .i64 st) ∧ W.cell? ⟨gp, op + i * 7 + 5 + 1, none⟩ = some (.int .i64 en)) ∧ wr.heap.size < W.heap.size ∧ gp < W.heap.size)) (by kernel_rfl) ?_ (fun hHeld => ?_)
          · (try dsimp only); exact hS0
          refine wpAnyH_take (i := 0) (v := ?_) (by simp only [List.getElem?_toArray, List.getElem?_cons_zero, List.getElem?_cons_succ]; rfl) (by kernel_rfl) (by kernel_rfl) (by kernel_rfl) (by intro _ _ _ h; exact h) (Or.inl ⟨by rfl, ?_⟩) (by assumption) ?_
          rotate_left
          · (intro w9 hSw; (try dsimp only at hSw); go_simp <;> with_reducible rfl)
          try simp only [Act.put, List.setIfInBounds_toArray, List.set_cons_zero, List.set_cons_succ]
          refine wpAnyH_take (i := 1) (v := ?_) (by simp only [List.getElem?_toArray, List.getElem?_cons_zero, List.getElem?_cons_succ]; rfl) (by kernel_rfl) (by kernel_rfl) (by kernel_rfl) (by intro _ _ _ h; exact h) (Or.inl ⟨by rfl, ?_⟩) (by assumption) ?_
          rotate_left
          · (intro w9 hSw; (try dsimp only at hSw); go_simp <;> with_reducible rfl)
          try simp only [Act.put, List.setIfInBounds_toArray, List.set_cons_zero, List.set_cons_succ]
          refine wpAnyH_take (i := 2) (v := ?_) (by simp only [List.getElem?_toArray, List.getElem?_cons_zero, List.getElem?_cons_succ]; rfl) (by kernel_rfl) (by kernel_rfl) (by kernel_rfl) (by intro _ _ _ h; exact h) (Or.inl ⟨by rfl, ?_⟩) (by assumption) ?_
          rotate_left
          · (intro w9 hSw; (try dsimp only at hSw); go_simp <;> with_reducible rfl)
          try simp only [Act.put, List.setIfInBounds_toArray, List.set_cons_zero, List.set_cons_succ]
          refine wpAnyH_take (i := 3) (v := ?_) (by simp only [List.getElem?_toArray, List.getElem?_cons_zero, List.getElem?_cons_succ]; rfl) (by kernel_rfl) (by kernel_rfl) (by kernel_rfl) (by intro _ _ _ h; exact h) (Or.inl ⟨by rfl, ?_⟩) (by assumption) ?_
          rotate_left
          · (intro w9 hSw; (try dsimp only at hSw); go_simp <;> with_reducible rfl)
          try simp only [Act.put, List.setIfInBounds_toArray, List.set_cons_zero, List.set_cons_succ]
          refine wpAnyH_take (i := 4) (v := ?_) (by simp only [List.getElem?_toArray, List.getElem?_cons_zero, List.getElem?_cons_succ]; rfl) (by kernel_rfl) (by kernel_rfl) (by kernel_rfl) (by intro _ _ _ h; exact h) (Or.inl ⟨by rfl, ?_⟩) (by assumption) ?_
          rotate_left
          · (intro w9 hSw; (try dsimp only at hSw); go_simp <;> with_reducible rfl)
          try simp only [Act.put, List.setIfInBounds_toArray, List.set_cons_zero, List.set_cons_succ]
          refine wpAnyH_take (i := 5) (v := ?_) (by simp only [List.getElem?_toArray, List.getElem?_cons_zero, List.getElem?_cons_succ]; rfl) (by kernel_rfl) (by kernel_rfl) (by kernel_rfl) (by intro _ _ _ h; exact h) (Or.inl ⟨by rfl, ?_⟩) (by assumption) ?_
          rotate_left
          · (intro w9 hSw; (try dsimp only at hSw); go_simp <;> with_reducible rfl)
          try simp only [Act.put, List.setIfInBounds_toArray, List.set_cons_zero, List.set_cons_succ]
          refine wpAnyH_take (i := 6) (v := ?_) (by simp only [List.getElem?_toArray, List.getElem?_cons_zero, List.getElem?_cons_succ]; rfl) (by kernel_rfl) (by kernel_rfl) (by kernel_rfl) (by intro _ _ _ h; exact h) (Or.inl ⟨by rfl, ?_⟩) (by assumption) ?_
          rotate_left
          · (intro w9 hSw; (try dsimp only at hSw); go_simp <;> with_reducible rfl)
          try simp only [Act.put, List.setIfInBounds_toArray, List.set_cons_zero, List.set_cons_succ]
          refine wpAnyH_take (i := 7) (v := ?_) (by simp only [List.getElem?_toArray, List.getElem?_cons_zero, List.getElem?_cons_succ]; rfl) (by kernel_rfl) (by kernel_rfl) (by kernel_rfl) (by intro _ _ _ h; exact h) (Or.inl ⟨by rfl, ?_⟩) (by assumption) ?_
          rotate_left
          · (intro w9 hSw; (try dsimp only at hSw); go_simp <;> with_reducible rfl)
          try simp only [Act.put, List.setIfInBounds_toArray, List.set_cons_zero, List.set_cons_succ]
          refine wpAnyH_ready (rs := [8, 12]) (by kernel_rfl) (by simp) ?_
          refine AllReadyH.cons (by simp only [List.getElem?_toArray, List.getElem?_cons_zero, List.getElem?_cons_succ]; rfl) (fun K hK => ?_) ?_
          · go_simp
            (go_at_call 26; refine (specfind_r _ _ _ RS ke st en _ ((unhide HT).below (bel_drew (Below.refl _ _))) HX).mono ?_; rintro e9 wf ⟨fb, rfl, hbf⟩)
            (try go_wp2_with fail)
            refine hK.out _ _ ?_ (fun hHeld2 => ?_)
            · (try dsimp only); first | (with_reducible assumption) | exact spc3 hS0 (by repeat (first | (with_reducible exact Below.refl _ _) | (with_reducible assumption) | (with_reducible refine bel_set ?_ (by first | (simp; done) | (simp; omega) | omega) _) | (with_reducible refine bel_alloc ?_ _) | (with_reducible refine bel_drew ?_) | (with_reducible refine bel_drewN ?_ _) | (with_reducible refine bel_trans ?_ (by with_reducible assumption))))
            clear hK K hHeld
            have hHeld := hHeld2
            clear hHeld2
            try simp only [Act.put, List.setIfInBounds_toArray, List.set_cons_zero, List.set_cons_succ]
            refine wpAnyH_take (i := 9) (v := ?_) (by simp only [List.getElem?_toArray, List.getElem?_cons_zero, List.getElem?_cons_succ]; rfl) (by kernel_rfl) (by kernel_rfl) (by kernel_rfl) (by intro _ _ _ h; exact h) (Or.inl ⟨by rfl, ?_⟩) (by assumption) ?_
            rotate_left
            · (intro w9 hSw; (try dsimp only at hSw); go_simp <;> with_reducible rfl)
            try simp only [Act.put, List.setIfInBounds_toArray, List.set_cons_zero, List.set_cons_succ]
            refine wpAnyH_take (i := 10) (v := ?_) (by simp only [List.getElem?_toArray, List.getElem?_cons_zero, List.getElem?_cons_succ]; rfl) (by kernel_rfl) (by kernel_rfl) (by kernel_rfl) (by intro _ _ _ h; exact h) (Or.inl ⟨by rfl, ?_⟩) (by assumption) ?_
            rotate_left
            · (intro w9 hSw; (try dsimp only at hSw); go_simp <;> with_reducible rfl)
            try simp only [Act.put, List.setIfInBounds_toArray, List.set_cons_zero, List.set_cons_succ]
            refine wpAnyH_take (i := 11) (v := ?_) (by simp only [List.getElem?_toArray, List.getElem?_cons_zero, List.getElem?_cons_succ]; rfl) (by kernel_rfl) (by kernel_rfl) (by kernel_rfl) (by intro _ _ _ h; exact h) (Or.inl ⟨by rfl, ?_⟩) (by assumption) ?_
            rotate_left
            · (intro w9 hSw; (try dsimp only at hSw); go_simp <;> with_reducible rfl)
            try simp only [Act.put, List.setIfInBounds_toArray, List.set_cons_zero, List.set_cons_succ]
            refine wpAnyH_ready (rs := [12]) (by kernel_rfl) (by simp) ?_
            refine AllReadyH.cons (by simp only [List.getElem?_toArray, List.getElem?_cons_zero, List.getElem?_cons_succ]; rfl) (fun K hK => ?_) AllReadyH.nil
            go_simp
            refine hK.out _ _ ?_ (fun hHeld2 => ?_)
            · (try dsimp only); first | (with_reducible assumption) | exact spc3 hS0 (by repeat (first | (with_reducible exact Below.refl _ _) | (with_reducible assumption) | (with_reducible refine bel_set ?_ (by first | (simp; done) | (simp; omega) | omega) _) | (with_reducible refine bel_alloc ?_ _) | (with_reducible refine bel_drew ?_) | (with_reducible refine bel_drewN ?_ _) | (with_reducible refine bel_trans ?_ (by with_reducible assumption))))
            clear hK K hHeld
            have hHeld := hHeld2
            clear hHeld2
            try simp only [Act.put, List.setIfInBounds_toArray, List.set_cons_zero, List.set_cons_succ]
            refine wpAnyH_ready (rs := [13]) (by kernel_rfl) (by simp) ?_
            refine AllReadyH.cons (by simp only [List.getElem?_toArray, List.getElem?_cons_zero, List.getElem?_cons_succ]; rfl) (fun K hK => ?_) AllReadyH.nil
            go_simp
            refine hK.out _ _ ?_ (fun hHeld2 => ?_)
            · (try dsimp only); first | (with_reducible assumption) | exact spc3 hS0 (by repeat (first | (with_reducible exact Below.refl _ _) | (with_reducible assumption) | (with_reducible refine bel_set ?_ (by first | (simp; done) | (simp; omega) | omega) _) | (with_reducible refine bel_alloc ?_ _) | (with_reducible refine bel_drew ?_) | (with_reducible refine bel_drewN ?_ _) | (with_reducible refine bel_trans ?_ (by with_reducible assumption))))
            clear hK K hHeld
            have hHeld := hHeld2
            clear hHeld2
            try simp only [Act.put, List.setIfInBounds_toArray, List.set_cons_zero, List.set_cons_succ]
            refine wpAnyH_take (i := 14) (v := ?_) (by simp only [List.getElem?_toArray, List.getElem?_cons_zero, List.getElem?_cons_succ]; rfl) (by kernel_rfl) (by kernel_rfl) (by kernel_rfl) (by intro _ _ _ h; exact h) (Or.inl ⟨by rfl, ?_⟩) (by assumption) ?_
            rotate_left
            · (intro w9 hSw; (try dsimp only at hSw); go_simp <;> with_reducible rfl)
            try simp only [Act.put, List.setIfInBounds_toArray, List.set_cons_zero, List.set_cons_succ]
            refine wpAnyH_done (by kernel_rfl) ?_ _
            go_wp2
            go_meet
            exact ⟨_, rfl, by have := hbf.size; simp at this; (try simp); omega, by first | exact World.alloc_heap_new _ _ | (simp; done), (by repeat (first | (with_reducible exact Below.refl _ _) | (with_reducible assumption) | (with_reducible refine bel_set ?_ (by first | (simp; done) | (simp; omega) | omega) _) | (with_reducible refine bel_alloc ?_ _) | (with_reducible refine bel_drew ?_) | (with_reducible refine bel_drewN ?_ _) | (with_reducible refine bel_trans ?_ (by with_reducible assumption))))⟩
          refine AllReadyH.cons (by simp only [List.getElem?_toArray, List.getElem?_cons_zero, List.getElem?_cons_succ]; rfl) (fun K hK => ?_) AllReadyH.nil
          go_simp
          refine hK.out _ _ ?_ (fun hHeld2 => ?_)
          · (try dsimp only); exact spc3 hS0 (bel_one _ _)
          clear hK K hHeld
          have hHeld := hHeld2
          clear hHeld2
          try simp only [Act.put, List.setIfInBounds_toArray, List.set_cons_zero, List.set_cons_succ]
          refine wpAnyH_ready (rs := [8]) (by kernel_rfl) (by simp) ?_
          refine AllReadyH.cons (by simp only [List.getElem?_toArray, List.getElem?_cons_zero, List.getElem?_cons_succ]; rfl) (fun K hK => ?_) AllReadyH.nil
          go_simp
          (go_at_call 26; refine (specfind_r _ _ _ RS ke st en _ ((unhide HT).below (bel_trans (bel_drew (Below.refl _ _)) (bel_one _ _))) HX).mono ?_; rintro e9 wf ⟨fb, rfl, hbf⟩)
          (try go_wp2_with fail)
          have zf := hbf.size
          (try simp at zf)
          have bZ : wf.heap[wr.heap.size + 1]? = some (.cells #[.int .i64 0, .int .i64 0, .int .i64 0, .int .i64 0] 37 (0, 0)) := (hbf.block (wr.heap.size + 1) (by simp)).trans (by have h9 := World.alloc_heap_new (wr.alloc (.cells #[.int .i64 kd, .int .i64 tm, .int .i64 ke, .int .i64 va, .int .i64 nn] 41)).drew (.cells #[.int .i64 0, .int .i64 0, .int .i64 0, .int .i64 0] 37); simpa using h9)
          have y0 : wf.cell? ⟨wr.heap.size + 1, 0, none⟩ = some (.int .i64 0) := Joins.cell_of_block bZ 0
          have x0 : wf.frozen? ⟨wr.heap.size + 1, 0, none⟩ = false := by simp [World.frozen?, bZ]
          have y1 : wf.cell? ⟨wr.heap.size + 1, 1, none⟩ = some (.int .i64 0) := Joins.cell_of_block bZ 1
          have x1 : wf.frozen? ⟨wr.heap.size + 1, 1, none⟩ = false := by simp [World.frozen?, bZ]
          have y2 : wf.cell? ⟨wr.heap.size + 1, 2, none⟩ = some (.int .i64 0) := Joins.cell_of_block bZ 2
          have x2 : wf.frozen? ⟨wr.heap.size + 1, 2, none⟩ = false := by simp [World.frozen?, bZ]
          have y3 : wf.cell? ⟨wr.heap.size + 1, 3, none⟩ = some (.int .i64 0) := Joins.cell_of_block bZ 3
          have x3 : wf.frozen? ⟨wr.heap.size + 1, 3, none⟩ = false := by simp [World.frozen?, bZ]
          refine hK.out _ _ ?_ (fun hHeld2 => ?_)
          · (try dsimp only); exact spc3 (spc3 hS0 (bel_one _ _)) hbf
          clear hK K hHeld
          have hHeld := hHeld2
          clear hHeld2
          try simp only [Act.put, List.setIfInBounds_toArray, List.set_cons_zero, List.set_cons_succ]
          refine wpAnyH_take (i := 9) (v := ?_) (by simp only [List.getElem?_toArray, List.getElem?_cons_zero, List.getElem?_cons_succ]; rfl) (by kernel_rfl) (by kernel_rfl) (by kernel_rfl) (by intro _ _ _ h; exact h) (Or.inl ⟨by rfl, ?_⟩) (by assumption) ?_
          rotate_left
          · (intro w9 hSw; (try dsimp only at hSw); go_simp <;> with_reducible rfl)
          try simp only [Act.put, List.setIfInBounds_toArray, List.set_cons_zero, List.set_cons_succ]
          refine wpAnyH_take (i := 10) (v := ?_) (by simp only [List.getElem?_toArray, List.getElem?_cons_zero, List.getElem?_cons_succ]; rfl) (by kernel_rfl) (by kernel_rfl) (by kernel_rfl) (by intro _ _ _ h; exact h) (Or.inl ⟨by rfl, ?_⟩) (by assumption) ?_
          rotate_left
          · (intro w9 hSw; (try dsimp only at hSw); go_simp <;> with_reducible rfl)
          try simp only [Act.put, List.setIfInBounds_toArray, List.set_cons_zero, List.set_cons_succ]
          refine wpAnyH_take (i := 11) (v := ?_) (by simp only [List.getElem?_toArray, List.getElem?_cons_zero, List.getElem?_cons_succ]; rfl) (by kernel_rfl) (by kernel_rfl) (by kernel_rfl) (by intro _ _ _ h; exact h) (Or.inl ⟨by rfl, ?_⟩) (by assumption) ?_
          rotate_left
          · (intro w9 hSw; (try dsimp only at hSw); go_simp <;> with_reducible rfl)
          try simp only [Act.put, List.setIfInBounds_toArray, List.set_cons_zero, List.set_cons_succ]
          refine wpAnyH_ready (rs := [13]) (by kernel_rfl) (by simp) ?_
          refine AllReadyH.cons (by simp only [List.getElem?_toArray, List.getElem?_cons_zero, List.getElem?_cons_succ]; rfl) (fun K hK => ?_) AllReadyH.nil
          go_simp
          refine hK.out _ _ ?_ (fun hHeld2 => ?_)
          · (try dsimp only); exact spc3 hS0 (bel_set (bel_set (bel_set (bel_set (bel_trans (bel_one _ _) hbf) (by simp) _) (by simp) _) (by simp) _) (by simp) _)
          clear hK K hHeld
          have hHeld := hHeld2
          clear hHeld2
          try simp only [Act.put, List.setIfInBounds_toArray, List.set_cons_zero, List.set_cons_succ]
          refine wpAnyH_take (i := 14) (v := ?_) (by simp only [List.getElem?_toArray, List.getElem?_cons_zero, List.getElem?_cons_succ]; rfl) (by kernel_rfl) (by kernel_rfl) (by kernel_rfl) (by intro _ _ _ h; exact h) (Or.inl ⟨by rfl, ?_⟩) (by assumption) ?_
          rotate_left
          · (intro w9 hSw; (try dsimp only at hSw); go_simp <;> with_reducible rfl)
          try simp only [Act.put, List.setIfInBounds_toArray, List.set_cons_zero, List.set_cons_succ]
          refine wpAnyH_done (by kernel_rfl) ?_ _
          go_wp2
          go_meet
          exact ⟨_, rfl, by simp, Joins.block_setCell (Joins.block_setCell (Joins.block_setCell (Joins.block_setCell bZ _) _) _) _, bel_set (bel_set (bel_set (bel_set (bel_trans (bel_trans (bel_drew (Below.refl _ _)) (bel_one _ _)) hbf) (by simp) _) (by simp) _) (by simp) _) (by simp) _⟩
        case rest =>
          rename World => wx
          obtain ⟨B, rfl, hBq, bB, hbX⟩ := hcut
          have zx : wr.heap.size < wx.heap.size := by have := hbX.size; simp at this; omega
          have zB : B < wx.heap.size := (Array.getElem?_eq_some_iff.1 bB).1
          obtain ⟨ya, yb, yc, yd, hy9⟩ : ∃ ya yb yc yd, addF (xa, xb, xc, xd) va = (ya, yb, yc, yd) := ⟨_, _, _, _, rfl⟩
          have HS3 : Hid (stepP k RS ⟨kd, tm, ke, va, nn, st, en⟩ = insR (⟨ke, st, en, ya, yb, yc, yd⟩ : TbR) (kpTb ke st en RS)) := hide (by rw [stepP_row hk]; dsimp only; rw [unhide HX, hy9])
          have HY := hide hy9
          have hS8 : ((wx.drew.cell? ⟨wr.heap.size, 2, none⟩ = some (.int .i64 ke) ∧ wx.drew.cell? ⟨wr.heap.size, 3, none⟩ = some (.int .i64 va)) ∧ (wx.drew.cell? ⟨gp, op + i * 7 + 5, none⟩ = some (.int .i64 st) ∧ wx.drew.cell? ⟨gp, op + i * 7 + 5 + 1, none⟩ = some (.int .i64 en)) ∧ wx.drew.cell? ⟨B, 0, none⟩ = some (.int .i64 xa) ∧ wx.drew.cell? ⟨B, 1, none⟩ = some (.int .i64 xb) ∧ wx.drew.cell? ⟨B, 2, none⟩ = some (.int .i64 xc) ∧ wx.drew.cell? ⟨B, 3, none⟩ = some (.int .i64 xd)) ∧ wr.heap.size < wx.drew.heap.size ∧ gp < wx.drew.heap.size ∧ B < wx.drew.heap.size := ⟨⟨⟨(hbX.cell (p := ⟨wr.heap.size, 2, none⟩) (by simp)).trans (by simp [go_sem]), (hbX.cell (p := ⟨wr.heap.size, 3, none⟩) (by simp)).trans (by simp [go_sem])⟩, ⟨(hbX.cell (p := ⟨gp, op + i * 7 + 5, none⟩) (by simp; omega)).trans hS0.1.2.1, (hbX.cell (p := ⟨gp, op + i * 7 + 5 + 1, none⟩) (by simp; omega)).trans hS0.1.2.2⟩, Joins.cell_of_block bB 0, Joins.cell_of_block bB 1, Joins.cell_of_block bB 2, Joins.cell_of_block bB 3⟩, zx, (by show gp < wx.heap.size; omega), zB⟩
          have HTX := hide ((unhide HT).below hbX)
          have HLX := hide ((((unhide HL).resolve_left (by omega)).below hbQ).below hbX)
          have hbWX : Below w.heap.size w wx := bel_trans (bel_alloc hbw _) hbX
          have bJX : wx.heap[w.heap.size]? = some (.cells #[.int .i64 s, .int .i64 t, .int .i64 k, .int .i64 z, .int .i64 p, .int .i64 l, .int .i64 e, .bool b, .int .i64 v, .int .i64 r] 24 (0, 0)) := (hbX.block w.heap.size (by simp; omega)).trans ((Below.heap_alloc _ _ _ zw).trans (unhide HJ))
          clear hy9 hk HX HT hS0 hbX c0 c1 c2 c3 c4 c5 c6 j2 HO HL HJ hbQ
          go_wp2_with fail
          refine wp_region_held_drew (S := (fun W => ((W.cell? ⟨wr.heap.size, 2, none⟩ = some (.int .i64 ke) ∧ W.cell? ⟨wr.heap.size, 3, none⟩ = some (.int .i64 va)) ∧ (W.cell? ⟨gp, op + i * 7 + 5, none⟩ = some (.int .i64 st) ∧ W.cell? ⟨gp, op + i * 7 + 5 + 1, none⟩ = some (.int .i64 en)) ∧ W.cell? ⟨B, 0, none⟩ = some (.int .i64 xa) ∧ W.cell? ⟨B, 1, none⟩ = some (.int .i64 xb) ∧ W.cell? ⟨B, 2, none⟩ = some (.int .i64 xc) ∧ W.cell? ⟨B, 3, none⟩ = some (.int .i64 xd)) ∧ wr.heap.size < W.heap.size ∧ gp < W.heap.size ∧ B < W.heap.size)) (by kernel_rfl) ?_ (fun hHeld => ?_)
          · (try dsimp only); first | (with_reducible assumption) | (exact spc8 (by with_reducible assumption) (by with_reducible assumption))
          refine wpAnyH_take (i := 0) (v := ?_) (by simp only [List.getElem?_toArray, List.getElem?_cons_zero, List.getElem?_cons_succ]; rfl) (by kernel_rfl) (by kernel_rfl) (by kernel_rfl) (by intro _ _ _ h; exact h) (Or.inl ⟨by rfl, ?_⟩) (by assumption) ?_
          rotate_left
          · (intro w9 hSw; (try dsimp only at hSw); go_simp <;> with_reducible rfl)
          try simp only [Act.put, List.setIfInBounds_toArray, List.set_cons_zero, List.set_cons_succ]
          refine wpAnyH_take (i := 1) (v := ?_) (by simp only [List.getElem?_toArray, List.getElem?_cons_zero, List.getElem?_cons_succ]; rfl) (by kernel_rfl) (by kernel_rfl) (by kernel_rfl) (by intro _ _ _ h; exact h) (Or.inl ⟨by rfl, ?_⟩) (by assumption) ?_
          rotate_left
          · (intro w9 hSw; (try dsimp only at hSw); go_simp <;> with_reducible rfl)
          try simp only [Act.put, List.setIfInBounds_toArray, List.set_cons_zero, List.set_cons_succ]
          refine wpAnyH_take (i := 2) (v := ?_) (by simp only [List.getElem?_toArray, List.getElem?_cons_zero, List.getElem?_cons_succ]; rfl) (by kernel_rfl) (by kernel_rfl) (by kernel_rfl) (by intro _ _ _ h; exact h) (Or.inl ⟨by rfl, ?_⟩) (by assumption) ?_
          rotate_left
          · (intro w9 hSw; (try dsimp only at hSw); go_simp <;> with_reducible rfl)
          try simp only [Act.put, List.setIfInBounds_toArray, List.set_cons_zero, List.set_cons_succ]
          refine wpAnyH_take (i := 3) (v := ?_) (by simp only [List.getElem?_toArray, List.getElem?_cons_zero, List.getElem?_cons_succ]; rfl) (by kernel_rfl) (by kernel_rfl) (by kernel_rfl) (by intro _ _ _ h; exact h) (Or.inl ⟨by rfl, ?_⟩) (by assumption) ?_
          rotate_left
          · (intro w9 hSw; (try dsimp only at hSw); go_simp <;> with_reducible rfl)
          try simp only [Act.put, List.setIfInBounds_toArray, List.set_cons_zero, List.set_cons_succ]
          refine wpAnyH_take (i := 4) (v := ?_) (by simp only [List.getElem?_toArray, List.getElem?_cons_zero, List.getElem?_cons_succ]; rfl) (by kernel_rfl) (by kernel_rfl) (by kernel_rfl) (by intro _ _ _ h; exact h) (Or.inl ⟨by rfl, ?_⟩) (by assumption) ?_
          rotate_left
          · (intro w9 hSw; (try dsimp only at hSw); go_simp <;> with_reducible rfl)
          try simp only [Act.put, List.setIfInBounds_toArray, List.set_cons_zero, List.set_cons_succ]
          refine wpAnyH_take (i := 5) (v := ?_) (by simp only [List.getElem?_toArray, List.getElem?_cons_zero, List.getElem?_cons_succ]; rfl) (by kernel_rfl) (by kernel_rfl) (by kernel_rfl) (by intro _ _ _ h; exact h) (Or.inl ⟨by rfl, ?_⟩) (by assumption) ?_
          rotate_left
          · (intro w9 hSw; (try dsimp only at hSw); go_simp <;> with_reducible rfl)
          try simp only [Act.put, List.setIfInBounds_toArray, List.set_cons_zero, List.set_cons_succ]
          refine wpAnyH_take (i := 6) (v := ?_) (by simp only [List.getElem?_toArray, List.getElem?_cons_zero, List.getElem?_cons_succ]; rfl) (by kernel_rfl) (by kernel_rfl) (by kernel_rfl) (by intro _ _ _ h; exact h) (Or.inl ⟨by rfl, ?_⟩) (by assumption) ?_
          rotate_left
          · (intro w9 hSw; (try dsimp only at hSw); go_simp <;> with_reducible rfl)
          try simp only [Act.put, List.setIfInBounds_toArray, List.set_cons_zero, List.set_cons_succ]
          refine wpAnyH_take (i := 7) (v := ?_) (by simp only [List.getElem?_toArray, List.getElem?_cons_zero, List.getElem?_cons_succ]; rfl) (by kernel_rfl) (by kernel_rfl) (by kernel_rfl) (by intro _ _ _ h; exact h) (Or.inl ⟨by rfl, ?_⟩) (by assumption) ?_
          rotate_left
          · (intro w9 hSw; (try dsimp only at hSw); go_simp <;> with_reducible rfl)
          try simp only [Act.put, List.setIfInBounds_toArray, List.set_cons_zero, List.set_cons_succ]
          refine wpAnyH_take (i := 8) (v := ?_) (by simp only [List.getElem?_toArray, List.getElem?_cons_zero, List.getElem?_cons_succ]; rfl) (by kernel_rfl) (by kernel_rfl) (by kernel_rfl) (by intro _ _ _ h; exact h) (Or.inl ⟨by rfl, ?_⟩) (by assumption) ?_
          rotate_left
          · (intro w9 hSw; (try dsimp only at hSw); go_simp <;> with_reducible rfl)
          try simp only [Act.put, List.setIfInBounds_toArray, List.set_cons_zero, List.set_cons_succ]
          refine wpAnyH_take (i := 9) (v := ?_) (by simp only [List.getElem?_toArray, List.getElem?_cons_zero, List.getElem?_cons_succ]; rfl) (by kernel_rfl) (by kernel_rfl) (by kernel_rfl) (by intro _ _ _ h; exact h) (Or.inl ⟨by rfl, ?_⟩) (by assumption) ?_
          rotate_left
          · (intro w9 hSw; (try dsimp only at hSw); go_simp <;> with_reducible rfl)
          try simp only [Act.put, List.setIfInBounds_toArray, List.set_cons_zero, List.set_cons_succ]
          refine wpAnyH_take (i := 10) (v := ?_) (by simp only [List.getElem?_toArray, List.getElem?_cons_zero, List.getElem?_cons_succ]; rfl) (by kernel_rfl) (by kernel_rfl) (by kernel_rfl) (by intro _ _ _ h; exact h) (Or.inl ⟨by rfl, ?_⟩) (by assumption) ?_
          rotate_left
          · (intro w9 hSw; (try dsimp only at hSw); go_simp <;> with_reducible rfl)
          try simp only [Act.put, List.setIfInBounds_toArray, List.set_cons_zero, List.set_cons_succ]
          refine wpAnyH_ready (rs := [11]) (by kernel_rfl) (by simp) ?_
          refine AllReadyH.cons (by simp only [List.getElem?_toArray, List.getElem?_cons_zero, List.getElem?_cons_succ]; rfl) (fun K hK => ?_) AllReadyH.nil
          go_simp
          (go_at_call 28; refine (specadd_is _ HY).mono ?_; rintro e9 wf ⟨rfl, hbf⟩; have hS9 := spc8 hS8 hbf)
          (try go_wp2_with fail)
          refine hK.out _ _ ?_ (fun hHeld2 => ?_)
          · (try dsimp only); first | (with_reducible assumption) | (exact spc8 (by with_reducible assumption) (by with_reducible assumption))
          clear hK K hHeld
          have hHeld := hHeld2
          clear hHeld2
          try simp only [Act.put, List.setIfInBounds_toArray, List.set_cons_zero, List.set_cons_succ]
          refine wpAnyH_take (i := 12) (v := ?_) (by simp only [List.getElem?_toArray, List.getElem?_cons_zero, List.getElem?_cons_succ]; rfl) (by kernel_rfl) (by kernel_rfl) (by kernel_rfl) (by intro _ _ _ h; exact h) (Or.inl ⟨by rfl, ?_⟩) (by assumption) ?_
          rotate_left
          · (intro w9 hSw; (try dsimp only at hSw); go_simp <;> with_reducible rfl)
          try simp only [Act.put, List.setIfInBounds_toArray, List.set_cons_zero, List.set_cons_succ]
          refine wpAnyH_ready (rs := [13]) (by kernel_rfl) (by simp) ?_
          refine AllReadyH.cons (by simp only [List.getElem?_toArray, List.getElem?_cons_zero, List.getElem?_cons_succ]; rfl) (fun K hK => ?_) AllReadyH.nil
          go_simp
          (go_at_call 27; refine (specput_any ⟨ke, st, en, ya, yb, yc, yd⟩ _ _ _ RS _ (((unhide HTX).below (bel_drew (Below.refl _ _))).below hbf) (by omega)).mono ?_; rintro e9 wh ⟨vh, rfl, hOh, hbh⟩; have hSa := spc8 hS9 hbh)
          (try go_wp2_with fail)
          refine hK.out _ _ ?_ (fun hHeld2 => ?_)
          · (try dsimp only); first | (with_reducible assumption) | (exact spc8 (by with_reducible assumption) (by with_reducible assumption))
          clear hK K hHeld
          have hHeld := hHeld2
          clear hHeld2
          try simp only [Act.put, List.setIfInBounds_toArray, List.set_cons_zero, List.set_cons_succ]
          refine wpAnyH_take (i := 14) (v := ?_) (by simp only [List.getElem?_toArray, List.getElem?_cons_zero, List.getElem?_cons_succ]; rfl) (by kernel_rfl) (by kernel_rfl) (by kernel_rfl) (by intro _ _ _ h; exact h) (Or.inl ⟨by rfl, ?_⟩) (by assumption) ?_
          rotate_left
          · (intro w9 hSw; (try dsimp only at hSw); go_simp <;> with_reducible rfl)
          try simp only [Act.put, List.setIfInBounds_toArray, List.set_cons_zero, List.set_cons_succ]
          refine wpAnyH_done (by kernel_rfl) ?_ _
          go_wp2
          refine ⟨⟨i + 1, by omega, by go_num, hide ?_, hide ?_, hide ?_, bel_trans (bel_trans (bel_drew hbWX) hbf) hbh⟩, by simp [intOf]; omega⟩
          · rw [unhide HS, unhide HS3]; exact World.ownsRow.mono hOh (by have := hbf.size; have h9 : wx.heap.size ≤ wf.heap.size := this; omega)
          · exact Or.inr ((((unhide HLX).below (bel_drew (Below.refl _ _))).below hbf).below hbh)
          · have z9 : wx.heap.size ≤ wf.heap.size := hbf.size
            exact (hbh.block w.heap.size (by omega)).trans ((hbf.block w.heap.size (by show _ < wx.heap.size; omega)).trans bJX)
    · obtain rfl : i = PR.length := by omega
      have HOf : Hid (OwnTb wr (w.heap.size + 1) u5 (tabP k PR)) := hide (by have h9 := unhide HO; rw [List.take_of_length_le (by omega)] at h9; exact h9)
      clear HO
      go_wp2
      go_ret
      exact ⟨_, rfl, World.ownsRow.mono (unhide HOf) (by omega), hbw⟩
end Go.Proofs.YtbockbdlojkpiaaGreat
