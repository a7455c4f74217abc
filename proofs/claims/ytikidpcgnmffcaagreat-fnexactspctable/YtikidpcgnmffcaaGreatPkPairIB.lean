/- Laid together: what the claim needs of the texts that were built one by one. -/
import Derived.Test.YtikidpcgnmffcaaGreatPkPairI
import Derived.Test.YtikidpcgnmffcaaGreatPkSesM
import Derived.Test.YtikidpcgnmffcaaGreatPkBase
namespace Go.Proofs.YtikidpcgnmffcaaGreat
open Go.RowKit Go.Shelf
set_option linter.unusedVariables false
attribute [local go_sem] Oper.semAt_some

/-- The key and the window of a pair are ints. -/
def PB (x : LpR) : Prop := ok3 (x.ke, x.st, x.en)

set_option maxRecDepth 100000 in
set_option maxHeartbeats 4000000 in
theorem pairs1B_in (n : Nat) (hn : 2 ≤ n) (lb0 Br Bj n₀ len cap : Nat) (a : Option Addr) (xs : List IwR) (s t k z p l e : Int) (b : Bool) (v r : Int) (J Jx : List LpR → World → Prop)
    (hPB : ∀ x ∈ pairsI s t k z p l e v r xs, PB x)
    (hY : ∀ pre x W, PB x → J pre W → pre.length < 10000 → YieldAt Fence.wide (n - 1) Tryz.prog lb0 #[.agg #[.int .i64 x.kd, .int .i64 x.tm, .int .i64 x.ke, .int .i64 x.va, .int .i64 x.nn, .int .i64 x.st, .int .i64 x.en]] W fun e W' =>
      (e = .returned (.bool true) ∧ J (pre ++ [x]) W' ∧ KpW n₀ W W') ∨ (e = .returned (.bool false) ∧ Jx (pre ++ [x]) W'))
    (W : World) (hJ : AbidesFrom W.heap.size J) (hJx : AbidesFrom W.heap.size Jx) (hnW : n₀ ≤ W.heap.size) (hBr : W.cell? ⟨Br, 0, none⟩ = some (.slice a len cap)) (hrn : Br < n₀) (hBj : W.cell? ⟨Bj, 0, none⟩ = some (.int .i64 s) ∧ W.cell? ⟨Bj, 1, none⟩ = some (.int .i64 t) ∧ W.cell? ⟨Bj, 2, none⟩ = some (.int .i64 k) ∧ W.cell? ⟨Bj, 3, none⟩ = some (.int .i64 z) ∧ W.cell? ⟨Bj, 4, none⟩ = some (.int .i64 p) ∧ W.cell? ⟨Bj, 5, none⟩ = some (.int .i64 l) ∧ W.cell? ⟨Bj, 6, none⟩ = some (.int .i64 e) ∧ W.cell? ⟨Bj, 7, none⟩ = some (.bool b) ∧ W.cell? ⟨Bj, 8, none⟩ = some (.int .i64 v) ∧ W.cell? ⟨Bj, 9, none⟩ = some (.int .i64 r)) (hjn : Bj < n₀) (hI : IwRs W a len xs) (hlow : ∀ g o, 0 < len → a = some ⟨g, o, none⟩ → g < n₀) (h0 : J [] W) :
    CallsIn Fence.wide n Tryz.prog 35 #[.func (.yield lb0) #[] #[], .pointer (some ⟨Br, 0, none⟩), .pointer (some ⟨Bj, 0, none⟩)] W fun e' W' => (∃ v', e' = .returned v') ∧
      ((∃ ys, ys = pairsI s t k z p l e v r xs ∧ J ys W') ∨ (∃ pre, pre <+: pairsI s t k z p l e v r xs ∧ Jx pre W')) := by
  have hm := hI.2.1
  unfold maxLen at hm
  refine callsIn_of_wp Tryz.func35 rfl trivial ?_ rfl
  simp only [Tryz.ntmps35, List.size_toArray, List.length_cons, List.length_nil, Nat.reduceAdd, Nat.reduceSub, Array.replicate_succ, Array.replicate_zero, List.push_toArray, List.append_toArray, List.nil_append, List.cons_append]
  cases hrB : recsB xs
  · have HQ : Hid (pairsI s t k z p l e v r xs = []) := hide (by unfold pairsI; rw [if_neg (by simp [hrB])])
    gi_wp2_with (refine ⟨trivial, fun _ => (by omega), ?_⟩; gi_at_call 36; refine (callsIn_wide.2 (recsok_any _ _ _ xs _ hI)).mono ?_; rintro e' w' ⟨rfl, hb⟩)
    refine bodyPost_ret (results_none rfl _ _ _) rfl ?_
    exact ⟨⟨_, rfl⟩, .inl ⟨_, (unhide HQ).symm, hJ _ W w' none h0 (grown_of hb) (fun r e => by cases e)⟩⟩
  · have HQ : Hid (pairsI s t k z p l e v r xs = prsI s t k z p l e v r xs) := hide (by unfold pairsI; rw [if_pos hrB])
    obtain ⟨h120, _⟩ := recsB_iff hrB
    have hxl := hI.1
    gi_wp2_with (refine ⟨trivial, fun _ => (by omega), ?_⟩; gi_at_call 36; refine (callsIn_wide.2 (recsok_any _ _ _ xs _ hI)).mono ?_; rintro e' w0 ⟨rfl, hb0⟩; have hBr0 := (hb0.cell (p := ⟨Br, 0, none⟩) (Nat.lt_of_lt_of_le hrn hnW)).trans hBr)
    have hJ0 := hJ _ W w0 none h0 (grown_of hb0) (fun r e => by cases e)
    gi_loopw [13] (fun iv wr => ∃ i : Nat, i ≤ len ∧ iv = .int .i64 i ∧ J (prsI s t k z p l e v r (xs.take i)) wr ∧ Below n₀ W wr) (fun iv _ => len - (intOf iv).toNat)
    case atStart => exact ⟨0, Nat.zero_le _, rfl, hJ0, hb0.mono hnW⟩
    case round =>
      obtain ⟨i, hil, rfl, hJs, hnx⟩ := hrel
      by_cases hlt : i < len
      · obtain ⟨_, _, hx⟩ := hI
        obtain ⟨g, o, rfl, hr⟩ := hx.resolve_left (by omega)
        obtain ⟨x, hxk⟩ : ∃ x, xs[i]? = some x := ⟨_, List.getElem?_eq_getElem (by omega)⟩
        have hX := hide hxk
        have hg : g < n₀ := hlow g o (by omega) rfl
        obtain ⟨c0, c1, c2, c3, c4⟩ := (hr i _ hxk).below hnx hg
        obtain ⟨q0, q1, q2, q3, q4, q5, q6, q7, q8, q9⟩ := hBj
        have z0 := (hnx.cell (p := ⟨Bj, 0, none⟩) hjn).trans q0
        have z1 := (hnx.cell (p := ⟨Bj, 1, none⟩) hjn).trans q1
        have z2 := (hnx.cell (p := ⟨Bj, 2, none⟩) hjn).trans q2
        have z3 := (hnx.cell (p := ⟨Bj, 3, none⟩) hjn).trans q3
        have z4 := (hnx.cell (p := ⟨Bj, 4, none⟩) hjn).trans q4
        have z5 := (hnx.cell (p := ⟨Bj, 5, none⟩) hjn).trans q5
        have z6 := (hnx.cell (p := ⟨Bj, 6, none⟩) hjn).trans q6
        have z7 := (hnx.cell (p := ⟨Bj, 7, none⟩) hjn).trans q7
        have z8 := (hnx.cell (p := ⟨Bj, 8, none⟩) hjn).trans q8
        have z9 := (hnx.cell (p := ⟨Bj, 9, none⟩) hjn).trans q9
        have hwj : Bj < wr.heap.size := Nat.lt_of_lt_of_le hjn (Nat.le_trans hnW hnx.size)
        have hwl := winsAll_len s t k z p l e v r x.tm
        have hpl := prsI_len s t k z p l e v r (xs.take i)
        rw [List.length_take] at hpl
        clear hx hxk hr q0 q1 q2 q3 q4 q5 q6 q7 q8 q9
        gi_wp2_with (refine ⟨trivial, fun _ => (by omega), ?_⟩; gi_at_call 37; refine (callsIn_wide.2 (implwinof_any _ _ _ _ _ _ _ _ _ _ x.tm _)).mono ?_; rintro e' wl ⟨vl, rfl, hOl, hbl⟩; obtain ⟨al, capl, rfl, HL0, _, _⟩ := holdWn hOl (Nat.le_trans hwl (by omega)))
        have hbl' : Below wr.heap.size wr wl := bel_trans (bel_one _ _) hbl
        have hJl := hJ _ wr wl none hJs (grown_of hbl') (fun r e => by cases e)
        have hBX : BxI wl wr.heap.size x := (BxI.new wr x).kp (KpW.of_bel (n₀ := n₀) hbl (by have := hnx.size; simp; omega))
        have hnl : Below n₀ W wl := hnx.trans (hbl'.mono (Nat.le_trans hnW hnx.size))
        clear HL0 hbl hbl' hJs hnx c0 c1 c2 c3 c4 z0 z1 z2 z3 z4 z5 z6 z7 z8 z9
        gi_loopw [22] (fun mv w2 => ∃ m : Nat, m ≤ (winsAll s t k z p l e v r x.tm).length ∧ mv = .int .i64 m ∧ J (prsI s t k z p l e v r (xs.take i) ++ ((winsAll s t k z p l e v r x.tm).take m).map (mkP x)) w2 ∧ Below n₀ W w2 ∧ BxI w2 wr.heap.size x ∧ OwnWn w2 (wr.alloc (.cells #[.int .i64 x.kd, .int .i64 x.tm, .int .i64 x.ke, .int .i64 x.va, .int .i64 x.nn] 40)).heap.size (.slice al (winsAll s t k z p l e v r x.tm).length capl) (winsAll s t k z p l e v r x.tm)) (fun mv _ => (winsAll s t k z p l e v r x.tm).length - (intOf mv).toNat)
        case atStart => exact ⟨0, Nat.zero_le _, rfl, by rw [List.take_zero, List.map_nil, List.append_nil]; exact hJl, hnl, hBX, hOl⟩
        case round =>
          obtain ⟨m, hml, rfl, hJm, hn2, hBX2, hO2⟩ := hrel
          by_cases hmlt : m < (winsAll s t k z p l e v r x.tm).length
          · obtain ⟨a', cap', e9, HL, _, _⟩ := holdWn hO2 (Nat.le_trans hwl (by omega))
            simp at e9
            obtain ⟨rfl, rfl⟩ := e9
            obtain ⟨_, _, hy⟩ := HL
            obtain ⟨gl, ol, rfl, hrl⟩ := hy.resolve_left (by omega)
            obtain ⟨y, hyk⟩ : ∃ y, (winsAll s t k z p l e v r x.tm)[m]? = some y := ⟨_, List.getElem?_eq_getElem hmlt⟩
            have hYk := hide hyk
            obtain ⟨b0, b1⟩ := hrl m _ hyk
            obtain ⟨x0, x1, x2, x3, x4⟩ := hBX2.cells
            have hlq := (Array.getElem?_eq_some_iff.1 hBX2).1
            have hJa := hJ _ wr (wr.alloc (.cells #[.int .i64 y.a, .int .i64 y.b] 42)) none hJm (grown_of (bel_one _ _)) (fun r e => by cases e)
            have hzp : PB (mkP x y) := hPB _ (by rw [unhide HQ]; exact (prsI_in (s := s) (t := t) (k := k) (z := z) (p := p) (l := l) (e := e) (v := v) (r := r) (m := m + 1) (unhide hX)).subset (by rw [take_snocM (unhide hYk)]; simp))
            obtain ⟨fn, tmps, assign, body, hyl, hR⟩ := hY _ (mkP x y) _ hzp hJa (by rw [List.length_append, List.length_map, List.length_take]; omega)
            dsimp only [mkP] at hyl hR
            have HB2 := hide hBX2
            have HO2 := hide hO2
            clear hy hyk hrl hJa hBX2 hO2
            gi_wp2
            refine ⟨fun _ => (by omega), hR.mono ?_⟩
            rintro e' W3 (⟨rfl, hJ3, hk3⟩ | ⟨rfl, hJx3⟩)
            · gi_wp2
              go_roundw
              case rel => exact ⟨m + 1, by omega, by go_num, by rw [take_snocM (unhide hYk)]; exact hJ3, (hn2.trans ((bel_one _ _).mono (Nat.le_trans hnW hn2.size))).trans hk3.1, ((unhide HB2).kp (KpW.of_bel (n₀ := n₀) (bel_one _ _) (Nat.le_trans hnW hn2.size))).kp hk3, ownWn_kp (ownBel (unhide HO2) (bel_one _ _)) hk3⟩
              case measure => simp [intOf]; omega
            · gi_wp2
              refine bodyPost_ret (results_none rfl _ _ _) rfl ?_
              exact ⟨⟨_, rfl⟩, .inr ⟨_, by rw [unhide HQ]; exact (take_snocM (unhide hYk)) ▸ prsI_in (unhide hX), hJx3⟩⟩
          · obtain rfl : m = (winsAll s t k z p l e v r x.tm).length := by omega
            have HQ2 : Hid (prsI s t k z p l e v r (xs.take i) ++ ((winsAll s t k z p l e v r x.tm).take (winsAll s t k z p l e v r x.tm).length).map (mkP x) = prsI s t k z p l e v r (xs.take (i + 1))) := hide (by rw [prsI_snoc (unhide hX), List.take_of_length_le (Nat.le_refl _)])
            rw [unhide HQ2] at hJm
            gi_wp2
            go_roundw
            case rel => exact ⟨i + 1, by omega, by go_num, hJm, hn2⟩
            case measure => simp [intOf]; omega
      · gi_wp2
        go_end0
        exact ⟨⟨_, rfl⟩, .inl ⟨_, by rw [unhide HQ, List.take_of_length_le (by omega)], hJs⟩⟩

/-- Pairs whose numbers are ints. -/
abbrev LpB := {x : LpR // PB x}

theorem lift_pb : ∀ (l : List LpR), (∀ x ∈ l, PB x) → ∃ l' : List LpB, l'.map (·.1) = l
  | [], _ => ⟨[], rfl⟩
  | x :: t, h => by
    obtain ⟨t', ht⟩ := lift_pb t (fun y hy => h y (List.mem_cons_of_mem _ hy))
    exact ⟨⟨x, h x (by simp)⟩ :: t', by simp [ht]⟩

theorem map_inj : ∀ (a b : List LpB), a.map (·.1) = b.map (·.1) → a = b
  | [], [], _ => rfl
  | [], _ :: _, h => by simp at h
  | _ :: _, [], h => by simp at h
  | x :: a, y :: b, h => by
    simp at h
    rw [Subtype.ext h.1, map_inj a b h.2]

theorem pairsB_stops (n : Nat) (hn : 2 ≤ n) (Br Bj len cap : Nat) (a : Option Addr) (xs : List IwR) (s t k z p l e : Int) (b : Bool) (v r : Int) (w : World) (n₀ : Nat) (hn₀ : n₀ ≤ w.heap.size) (hBr : w.cell? ⟨Br, 0, none⟩ = some (.slice a len cap)) (hrn : Br < n₀) (hBj : w.cell? ⟨Bj, 0, none⟩ = some (.int .i64 s) ∧ w.cell? ⟨Bj, 1, none⟩ = some (.int .i64 t) ∧ w.cell? ⟨Bj, 2, none⟩ = some (.int .i64 k) ∧ w.cell? ⟨Bj, 3, none⟩ = some (.int .i64 z) ∧ w.cell? ⟨Bj, 4, none⟩ = some (.int .i64 p) ∧ w.cell? ⟨Bj, 5, none⟩ = some (.int .i64 l) ∧ w.cell? ⟨Bj, 6, none⟩ = some (.int .i64 e) ∧ w.cell? ⟨Bj, 7, none⟩ = some (.bool b) ∧ w.cell? ⟨Bj, 8, none⟩ = some (.int .i64 v) ∧ w.cell? ⟨Bj, 9, none⟩ = some (.int .i64 r)) (hjn : Bj < n₀) (hI : IwRs w a len xs) (hlow : ∀ g o, 0 < len → a = some ⟨g, o, none⟩ → g < n₀) (PR : List LpB) (hPR : PR.map (·.1) = pairsI s t k z p l e v r xs) :
    SeqStopsK Fence.wide n Tryz.prog 35 #[.pointer (some ⟨Br, 0, none⟩), .pointer (some ⟨Bj, 0, none⟩)] (fun x : LpB => #[.agg #[.int .i64 x.1.kd, .int .i64 x.1.tm, .int .i64 x.1.ke, .int .i64 x.1.va, .int .i64 x.1.nn, .int .i64 x.1.st, .int .i64 x.1.en]]) (KpW n₀) (fun ys => ys = PR) (fun pre => True) 10000 w := fun lb0 J Jx W hW hJ hJx hY h0 => by
  obtain ⟨q0, q1, q2, q3, q4, q5, q6, q7, q8, q9⟩ := hBj
  have hB := Nat.lt_of_lt_of_le hjn hn₀
  refine (pairs1B_in n hn lb0 Br Bj n₀ len cap a xs s t k z p l e b v r (fun l W => ∃ l' : List LpB, l'.map (·.1) = l ∧ J l' W) (fun l W => ∃ l' : List LpB, l'.map (·.1) = l ∧ Jx l' W) (fun x hx => by rw [← hPR] at hx; obtain ⟨y, _, rfl⟩ := List.mem_map.1 hx; exact y.2) ?_ W ?_ ?_ (Nat.le_trans hn₀ hW.size) ((hW.cell (p := ⟨Br, 0, none⟩) (Nat.lt_of_lt_of_le hrn hn₀)).trans hBr) hrn ⟨(hW.cell (p := ⟨Bj, 0, none⟩) hB).trans q0, (hW.cell (p := ⟨Bj, 1, none⟩) hB).trans q1, (hW.cell (p := ⟨Bj, 2, none⟩) hB).trans q2, (hW.cell (p := ⟨Bj, 3, none⟩) hB).trans q3, (hW.cell (p := ⟨Bj, 4, none⟩) hB).trans q4, (hW.cell (p := ⟨Bj, 5, none⟩) hB).trans q5, (hW.cell (p := ⟨Bj, 6, none⟩) hB).trans q6, (hW.cell (p := ⟨Bj, 7, none⟩) hB).trans q7, (hW.cell (p := ⟨Bj, 8, none⟩) hB).trans q8, (hW.cell (p := ⟨Bj, 9, none⟩) hB).trans q9⟩ hjn (hI.below hW) hlow ⟨[], rfl, h0⟩).mono ?_
  · rintro pre x W1 hx ⟨pre', rfl, hj⟩ hl
    obtain ⟨fn, tmps, assign, body, hy, hR⟩ := hY pre' ⟨x, hx⟩ W1 hj (by simpa using hl)
    refine ⟨fn, tmps, assign, body, hy, hR.mono ?_⟩
    rintro e9 W' (⟨rfl, h1, h2⟩ | ⟨rfl, h1⟩)
    · exact .inl ⟨rfl, ⟨pre' ++ [⟨x, hx⟩], by simp, h1⟩, h2⟩
    · exact .inr ⟨rfl, ⟨pre' ++ [⟨x, hx⟩], by simp, h1⟩⟩
  · rintro s9 A B row ⟨l', e1, hj⟩ hg hr
    exact ⟨l', e1, hJ l' A B row hj hg hr⟩
  · rintro s9 A B row ⟨l', e1, hj⟩ hg hr
    exact ⟨l', e1, hJx l' A B row hj hg hr⟩
  · rintro e9 W' ⟨hv, ⟨ys, rfl, l', e1, hj⟩ | ⟨pre, hp, l', e1, hj⟩⟩
    · exact ⟨hv, .inl ⟨l', map_inj _ _ (e1.trans hPR.symm), hj⟩⟩
    · exact ⟨hv, .inr ⟨l', trivial, hj⟩⟩
end Go.Proofs.YtikidpcgnmffcaaGreat
