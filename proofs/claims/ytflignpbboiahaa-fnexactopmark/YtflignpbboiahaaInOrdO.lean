/- Proved here: what stands in a map of places is told in the order of its places. -/
import Derived.Test.YtflignpbboiahaaKeysO
import Derived.Test.YtflignpbboiahaaSrtT
import Derived.Stop.RegionWithIn
namespace Go.Proofs.Ytflignpbboiahaa
open Go.RowKit Go.Shelf Go.Maps
set_option linter.unusedVariables false
attribute [local go_sem] Oper.semAt_some

/-- A map's values, read as they are. -/
def rdV (v : Value) : Option (DataW Value × List MemPlace) := some (.held v, [])
/-- Block b is a map of at most n places that holds what m says. -/
def OwnsV (w : World) (b n : Nat) (m : P3 → Option Value) : Prop := OwnsOp w Try.prog 80 rdV b n v3 ok3 DataW.held m
theorem OwnsV.look {w : World} {b n : Nat} {m : P3 → Option Value} (h : OwnsV w b n m) {z : Value} (hz : (zeroValue 78).run Try.prog w = .ok z w) (q : P3) (hq : ok3 q) :
    (Instr.lookup 51 (.map (some b)) (.agg #[.int .i64 q.1, .int .i64 q.2.1, .int .i64 q.2.2]) false).run Try.prog w = .ok ((m q).getD z) w := by
  obtain ⟨v, ps, h1, h2⟩ := OwnsOp.look h key3 Try.underlying51 hz (zd := .held z) (zp := []) rfl some3 q hq
  have e : v = (m q).getD z := by
    cases hm : m q with
    | none => rw [hm] at h2; simp [rdV] at h2; exact h2.1
    | some a => rw [hm] at h2; simp [rdV] at h2; exact h2.1
  rw [← e]
  exact h1
/-- The keys of a map, each once. -/
def KeysOf {V : Type} (m : P3 → Option V) (ss : List P3) : Prop := ss.Nodup ∧ ∀ q, q ∈ ss ↔ (ok3 q ∧ m q ≠ none)
/-- What is told of a map: its places in order, each with what stands there. -/
def InOrd {V : Type} (z : V) (m : P3 → Option V) (ys : List (P3 × V)) : Prop := ∃ ss, KeysOf m ss ∧ ys = (srt3 ss).map (fun q => (q, (m q).getD z))
/-- What a round keeps: maps, and blocks of places and of maps' names. -/
def KpO (W W' : World) : Prop := KeepsWalks W W' ∧ ∀ (b : Nat) (cs : Array Value) (ty : TypeId), (ty = 80 ∨ ty = 51) → W.heap[b]? = some (Obj.cells cs ty (0, 0)) → W'.heap[b]? = some (Obj.cells cs ty (0, 0))
theorem KpO.rfl' (W : World) : KpO W W := ⟨KeepsWalks.refl W, fun _ _ _ _ h => h⟩
theorem KpO.trans {A B C : World} (h : KpO A B) (k : KpO B C) : KpO A C := ⟨h.1.trans k.1, fun b cs ty ht hb => k.2 b cs ty ht (h.2 b cs ty ht hb)⟩
theorem KpO.put {w : World} (W : World) (l : Nat) (o o' : Obj) (hl : w.heap.size ≤ l) (h : W.heap[l]? = some o) (hc : o.isCells = false) (hw : o.isWalk = false) : KpO W (W.putObj l o') := by
  refine ⟨KeepsWalks.putObj _ h hw, fun b cs ty _ hb => ?_⟩
  have hne : b ≠ l := by
    rintro rfl
    rw [hb] at h
    cases h
    cases hc
  rw [World.putObj_heap_other hne]
  exact hb
theorem KpO.of_bel {W W' : World} (hb : Below W.heap.size W W') : KpO W W' := ⟨⟨hb.size, fun k o hk _ => (hb.block k (Array.getElem?_eq_some_iff.1 hk).1).trans hk⟩, fun b cs ty _ h => (hb.block b (Array.getElem?_eq_some_iff.1 h).1).trans h⟩
theorem OwnsV.kp {W W' : World} {b n : Nat} {m : P3 → Option Value} (h : OwnsV W b n m) (k : KeepsWalks W W') : OwnsV W' b n m := by
  obtain ⟨D, ⟨es, clock, h1, h2⟩, hf⟩ := h
  exact ⟨D, ⟨es, clock, k.same b _ h1 rfl, h2⟩, hf⟩
theorem own3_kp {B : Nat} {W W' : World} {v : Value} {ys : List P3} (h : Own3 W B v ys) (hk : KpO W W') : Own3 W' B v ys := by
  rcases h with ⟨hl, h | ⟨g, cap, cur, hv, hB, hblk, r⟩⟩
  · exact ⟨hl, Or.inl h⟩
  · exact ⟨hl, Or.inr ⟨g, cap, cur, hv, hB, hk.2 g cur _ (Or.inl rfl) hblk, r⟩⟩
theorem own3_bel {B : Nat} {W W' : World} {v : Value} {ys : List P3} (h : Own3 W B v ys) (hk : Below W.heap.size W W') : Own3 W' B v ys := own3_kp h (KpO.of_bel hk)
/-- A slice of places of one's own, read. -/
theorem hold3 {W : World} {B : Nat} {v : Value} {ys : List P3} (h : Own3 W B v ys) : ∃ a cap, v = .slice a ys.length cap ∧ (∀ i x, ys[i]? = some x → ∃ g, a = some ⟨g, 0, none⟩ ∧ g < W.heap.size ∧ W.cell? ⟨g, i * 3, none⟩ = some (.int .i64 x.1) ∧ W.cell? ⟨g, i * 3 + 1, none⟩ = some (.int .i64 x.2.1) ∧ W.cell? ⟨g, i * 3 + 2, none⟩ = some (.int .i64 x.2.2)) := by
  obtain ⟨hl, ⟨rfl, h0⟩ | ⟨g, cap, cur, rfl, hB, hblk, h1, h2, h3, h4⟩⟩ := h
  · rw [h0]
    refine ⟨none, 0, rfl, fun i x hx => ?_⟩
    rw [List.eq_nil_of_length_eq_zero h0] at hx
    simp at hx
  · refine ⟨_, cap, rfl, fun i x hx => ⟨g, rfl, (Array.getElem?_eq_some_iff.1 hblk).1, ?_⟩⟩
    have hi : i < ys.length := (List.getElem?_eq_some_iff.1 hx).1
    have hy : ys[i]! = x := by rw [List.getElem!_eq_getElem?_getD, hx]; rfl
    have hc : ∀ j, j < 3 → W.cell? ⟨g, i * 3 + j, none⟩ = (cells3 x)[j]? := by
      intro j hj
      rw [Joins.cell_of_block hblk, ← Array.getElem?_toList]
      have h5 : (cur.toList.take (ys.length * 3))[i * 3 + j]? = (flat3 ys)[i * 3 + j]? := by rw [h4]
      rw [List.getElem?_take_of_lt (by omega)] at h5
      rw [h5, flat3_get ys _ (by omega)]
      have e1 : (i * 3 + j) / 3 = i := by omega
      have e2 : (i * 3 + j) % 3 = j := by omega
      rw [e1, e2, hy]
    exact ⟨hc 0 (by omega), hc 1 (by omega), hc 2 (by omega)⟩
theorem ents_at {V : Type} {z : V} {m : P3 → Option V} {ss : List P3} {i : Nat} {x : P3} (h : ss[i]? = some x) : (ss.take (i + 1)).map (fun q => (q, (m q).getD z)) = (ss.take i).map (fun q => (q, (m q).getD z)) ++ [(x, (m x).getD z)] := by
  rw [List.take_add_one, h]; simp

set_option maxRecDepth 100000 in
set_option maxHeartbeats 4000000 in
theorem inord_in (n : Nat) (hn : 8 ≤ n) (lb0 Bm b nn : Nat) {V : Type} (ev : V → Value) (m : P3 → Option V) (z : V) (hz : ∀ u : World, (zeroValue 78).run Try.prog u = .ok (ev z) u) (J Jx : List (P3 × V) → World → Prop) (PX : P3 × V → Prop) (hPX : ∀ q, ok3 q → ∀ a, m q = some a → PX (q, a))
    (hY : ∀ pre x W, PX x → J pre W → pre.length < nn → YieldAt Fence.wide (n - 1) Try.prog lb0 #[.agg #[.int .i64 x.1.1, .int .i64 x.1.2.1, .int .i64 x.1.2.2], ev x.2] W fun e W' =>
      (e = .returned (.bool true) ∧ J (pre ++ [x]) W' ∧ KpO W W') ∨ (e = .returned (.bool false) ∧ Jx (pre ++ [x]) W'))
    (W : World) (hJ : AbidesFrom W.heap.size J) (hnn : nn ≤ 1048577) (hm : W.heap[Bm]? = some (.cells #[.map (some b)] 51 (0, 0))) (hown : OwnsV W b nn (fun q => (m q).map ev)) (h0 : J [] W) :
    CallsIn Fence.wide n Try.prog 60 #[.func (.yield lb0) #[] #[], .pointer (some ⟨Bm, 0, none⟩)] W fun e W' => (∃ v, e = .returned v) ∧
      ((∃ ys, InOrd z m ys ∧ J ys W') ∨ (∃ pre, True ∧ Jx pre W')) := by
  have hBm : Bm < W.heap.size := (Array.getElem?_eq_some_iff.1 hm).1
  have hmc : W.cell? ⟨Bm, 0, none⟩ = some (.map (some b)) := Joins.cell_of_block hm 0
  obtain ⟨D0, hD0, hD1⟩ := hown
  have hOV : OwnsV W b nn (fun q => (m q).map ev) := ⟨D0, hD0, hD1⟩
  have hsz : Maps.size D0 ≤ nn := hD0.size_le
  have hb1 : Below W.heap.size W (W.alloc (.cells #[.map (some b)] 51)) := bel_one _ _
  have hD0' : (W.alloc (.cells #[.map (some b)] 51)).ownsMap Try.prog 80 rdV b nn D0 := hD0.kept ⟨hb1.os, hb1.tape, hb1.output, hb1.size, fun k hk _ => hb1.block k hk⟩ (row := none) (by simp)
  have hseq := keysT_stops 5 (by omega) W.heap.size b nn D0 (W.alloc (.cells #[.map (some b)] 51)) (by simp) (by simp [go_sem]) hD0'
  refine callsIn_of_wp Try.func60 rfl trivial ?_ rfl
  simp only [Try.ntmps60, List.size_toArray, List.length_cons, List.length_nil, Nat.reduceAdd, Nat.reduceSub, Array.replicate_succ, Array.replicate_zero, List.push_toArray, List.append_toArray, List.nil_append, List.cons_append]
  gi_wp2_with (first
    | (refine ⟨trivial, fun _ => (by omega), ?_⟩; gi_at_call 62; refine (callsIn_wide.2 (keysT_any b _)).mono ?_; rintro e' w1 ⟨rfl, hw1⟩; subst hw1)
    | (refine ⟨trivial, fun _ => (by omega), ?_⟩; gi_at_call 61; refine (callsIn_wide.2 (sorted3 _ _ (enters_of Try.func68 (by kernel_rfl) rfl) _ _ (Maps.size D0) (by omega) _ hseq)).mono ?_; rintro e' w2 ⟨vs, ss, rfl, hKA, hsl, hO3, hb2⟩; obtain ⟨aa, cs, rfl, _⟩ := hold3 hO3))
  have hKO : KeysOf m ss := by
    obtain ⟨k1, k2⟩ := CollO.all hKA some3 hD1 (fun _ => rfl)
    exact ⟨k1, fun q => by rw [k2 q]; simp⟩
  have hbW : Below W.heap.size W w2 := bel_trans hb1 hb2
  have hJ2 : J [] w2 := hJ [] W w2 none h0 (grown_of0 hbW) (fun r e => by cases e)
  have hm2 : w2.heap[Bm]? = some (.cells #[.map (some b)] 51 (0, 0)) := (hbW.block Bm hBm).trans hm
  have hO2 : OwnsV w2 b nn (fun q => (m q).map ev) := hOV.kp (KpO.of_bel hbW).1
  have hls : (srt3 ss).length ≤ nn := by rw [srt3_len]; omega
  have hok : ∀ x ∈ srt3 ss, ok3 x := fun x hx => ((hKO.2 x).1 ((srt3_perm ss).mem_iff.1 hx)).1
  have hsm : ∀ x ∈ srt3 ss, m x ≠ none := fun x hx => ((hKO.2 x).1 ((srt3_perm ss).mem_iff.1 hx)).2
  have HI : Hid (InOrd z m ((srt3 ss).map (fun q => (q, (m q).getD z)))) := hide ⟨ss, hKO, rfl⟩
  clear hKO hKA hsl hD0 hD1 hOV hD0' hseq hb1 hb2 h0 hm hmc hbW hsz
  generalize srt3 ss = ts at hls hok hsm HI hO3 ⊢
  gi_loopw [9] (fun iv wr => ∃ i : Nat, i ≤ ts.length ∧ iv = .int .i64 i ∧ Hid (J ((ts.take i).map (fun q => (q, (m q).getD z))) wr) ∧ Hid (wr.heap[Bm]? = some (.cells #[.map (some b)] 51 (0, 0))) ∧ Hid (OwnsV wr b nn (fun q => (m q).map ev)) ∧ Hid (Own3 wr (W.alloc (.cells #[.map (some b)] 51)).heap.size (.slice aa ts.length cs) ts)) (fun iv _ => ts.length - (intOf iv).toNat)
  case atStart => exact ⟨0, Nat.zero_le _, rfl, hide (by simpa using hJ2), hide hm2, hide hO2, hide hO3⟩
  case round =>
    clear hJ2 hm2 hO2 hO3
    obtain ⟨i, hil, rfl, hJs, hmr, hOr, h3r⟩ := hrel
    by_cases hlt : i < ts.length
    · obtain ⟨x, hxk⟩ : ∃ x, ts[i]? = some x := ⟨_, List.getElem?_eq_getElem hlt⟩
      have hxo := hok x (List.mem_of_getElem? hxk)
      have hxm := hsm x (List.mem_of_getElem? hxk)
      obtain ⟨a', cs', e9, hcl⟩ := hold3 (unhide h3r)
      simp at e9
      obtain ⟨rfl, rfl⟩ := e9
      obtain ⟨g, rfl, hgl, c0, c1, c2⟩ := hcl i x hxk
      have HX := hide (ents_at (z := z) (m := m) hxk)
      clear hxk hcl
      obtain ⟨xa, xb, xc⟩ := x
      dsimp only at c0 c1 c2
      have hmc := Joins.cell_of_block (unhide hmr) 0
      have hBl : Bm < wr.heap.size := (Array.getElem?_eq_some_iff.1 (unhide hmr)).1
      have hbd : Below wr.heap.size wr (wr.alloc (.cells #[.int .i64 xa, .int .i64 xb, .int .i64 xc] 80)).drew := bel_drew (bel_one _ _)
      have hlk := ((unhide hOr).kp (KpO.of_bel hbd).1).look (hz _) (xa, xb, xc) hxo
      have hJd := hJ _ wr _ none (unhide hJs) (grown_of0 hbd) (fun r e => by cases e)
      obtain ⟨vv, hvv⟩ : ∃ vv, (m (xa, xb, xc)).getD z = vv := ⟨_, rfl⟩
      have hev : ((m (xa, xb, xc)).map ev).getD (ev z) = ev vv := by rw [← hvv]; cases m (xa, xb, xc) <;> rfl
      rw [hev] at hlk
      rw [hvv] at HX
      have hpx : PX ((xa, xb, xc), vv) := by
        refine hPX _ hxo _ ?_
        cases h9 : m (xa, xb, xc) with
        | none => exact absurd h9 hxm
        | some a9 => rw [h9] at hvv; simp at hvv; rw [hvv]
      clear hev
      obtain ⟨fn, tmps, assign, body, hy, hR⟩ := hY _ ((xa, xb, xc), vv) _ hpx hJd (by rw [List.length_map, List.length_take]; omega)
      dsimp only at hlk hy hR
      have hR2 : RoundIn Fence.wide (n - 1) Try.prog lb0 fn tmps assign body (wr.alloc (.cells #[.int .i64 xa, .int .i64 xb, .int .i64 xc] 80)).drew fun e W' => ∃ bb : Bool, e = .returned (.bool bb) ∧ Hid ((bb = true ∧ J ((ts.take i).map (fun q => (q, (m q).getD z)) ++ [((xa, xb, xc), vv)]) W' ∧ KpO (wr.alloc (.cells #[.int .i64 xa, .int .i64 xb, .int .i64 xc] 80)).drew W') ∨ (bb = false ∧ Jx ((ts.take i).map (fun q => (q, (m q).getD z)) ++ [((xa, xb, xc), vv)]) W')) := hR.mono (fun e W' h9 => by
        rcases h9 with ⟨rfl, h1, h2⟩ | ⟨rfl, h1⟩
        · exact ⟨true, rfl, hide (.inl ⟨rfl, h1, h2⟩)⟩
        · exact ⟨false, rfl, hide (.inr ⟨rfl, h1⟩)⟩)
      clear hR hvv hJd hbd
      gi_wp2
      gi_region_with (refine ⟨fun _ => (by omega), hR2.mono ?_⟩; rintro e' W3 ⟨bb, rfl, H3⟩)
      all_goals
        rcases unhide H3 with ⟨rfl, hJ3, hk3⟩ | ⟨rfl, hJx3⟩
        · have hk4 : KpO wr W3 := (KpO.of_bel (bel_drew (bel_one _ _))).trans hk3
          have HJ : Hid (J ((ts.take (i + 1)).map (fun q => (q, (m q).getD z))) W3) := hide (by rw [unhide HX]; exact hJ3)
          have HM := hide (hk4.2 Bm _ _ (Or.inr rfl) (unhide hmr))
          have HO := hide ((unhide hOr).kp hk4.1)
          have H3r := hide (own3_kp (unhide h3r) hk4)
          clear hJs hmr hOr h3r hJ3 hk3 hk4 H3
          gi_wp2
          go_roundw
          case rel => exact ⟨i + 1, by omega, by go_num, HJ, HM, HO, H3r⟩
          case measure => simp [intOf]; omega
        · clear hJs hmr hOr h3r H3
          gi_wp2
          refine bodyPost_ret (results_none rfl _ _ _) rfl ?_
          exact ⟨⟨_, rfl⟩, .inr ⟨_, trivial, hJx3⟩⟩
    · gi_wp2
      go_end0
      exact ⟨⟨_, rfl⟩, .inl ⟨_, unhide HI, by have h9 := unhide hJs; rw [List.take_of_length_le (by omega)] at h9; exact h9⟩⟩
/-- inOrder hands back a value that tells what stands in a map, in order. -/
theorem inord_stops (n : Nat) (hn : 8 ≤ n) (Bm b nn : Nat) {V : Type} (ev : V → Value) (m : P3 → Option V) (z : V) (hz : ∀ u : World, (zeroValue 78).run Try.prog u = .ok (ev z) u) (w : World) (hnn : nn ≤ 1048577) (hm : w.heap[Bm]? = some (.cells #[.map (some b)] 51 (0, 0))) (hown : OwnsV w b nn (fun q => (m q).map ev)) :
    SeqStopsK Fence.wide n Try.prog 60 #[.pointer (some ⟨Bm, 0, none⟩)] (fun x : P3 × V => #[.agg #[.int .i64 x.1.1, .int .i64 x.1.2.1, .int .i64 x.1.2.2], ev x.2]) KpO (InOrd z m) (fun _ => True) nn w := fun l J Jx W hW hJ _ hY h0 =>
  inord_in n hn l Bm b nn ev m z hz J Jx (fun _ => True) (fun _ _ _ _ => trivial) (fun pre x W1 _ => hY pre x W1) W hJ hnn ((hW.block Bm (Array.getElem?_eq_some_iff.1 hm).1).trans hm) (hown.kp (KpO.of_bel hW).1) h0
theorem lift_sub {α : Type} {p : α → Prop} (l : List {x : α // p x}) (x : α) (hx : p x) : (l ++ [(⟨x, hx⟩ : {x : α // p x})]).map (fun y => y.1) = l.map (fun y => y.1) ++ [x] := by rw [List.map_append]; rfl
/-- The same, told that each thing that comes is one of the map's. -/
theorem inordX_stops (n : Nat) (hn : 8 ≤ n) (Bm b nn : Nat) {V : Type} (ev : V → Value) (m : P3 → Option V) (z : V) (hz : ∀ u : World, (zeroValue 78).run Try.prog u = .ok (ev z) u) (PX : P3 × V → Prop) (hPX : ∀ q, ok3 q → ∀ a, m q = some a → PX (q, a)) (w : World) (hnn : nn ≤ 1048577) (hm : w.heap[Bm]? = some (.cells #[.map (some b)] 51 (0, 0))) (hown : OwnsV w b nn (fun q => (m q).map ev)) :
    SeqStopsK Fence.wide n Try.prog 60 #[.pointer (some ⟨Bm, 0, none⟩)] (fun x : {x : P3 × V // PX x} => #[.agg #[.int .i64 x.1.1.1, .int .i64 x.1.1.2.1, .int .i64 x.1.1.2.2], ev x.1.2]) KpO (fun ys => InOrd z m (ys.map (·.1))) (fun _ => True) nn w := fun l J Jx W hW hJ hJx hY h0 => by
  refine (inord_in n hn l Bm b nn ev m z hz (fun l9 W => ∃ l' : List {x : P3 × V // PX x}, l'.map (·.1) = l9 ∧ J l' W) (fun l9 W => ∃ l' : List {x : P3 × V // PX x}, l'.map (·.1) = l9 ∧ Jx l' W) PX hPX ?_ W ?_ hnn ((hW.block Bm (Array.getElem?_eq_some_iff.1 hm).1).trans hm) (hown.kp (KpO.of_bel hW).1) ⟨[], rfl, h0⟩).mono ?_
  · rintro pre x W1 hx ⟨pre', rfl, hj⟩ hl
    obtain ⟨fn, tmps, assign, body, hy, hR⟩ := hY pre' ⟨x, hx⟩ W1 hj (by simpa using hl)
    refine ⟨fn, tmps, assign, body, hy, hR.mono ?_⟩
    rintro e9 W' (⟨rfl, h1, h2⟩ | ⟨rfl, h1⟩)
    · exact .inl ⟨rfl, ⟨pre' ++ [⟨x, hx⟩], lift_sub _ _ _, h1⟩, h2⟩
    · exact .inr ⟨rfl, ⟨pre' ++ [⟨x, hx⟩], lift_sub _ _ _, h1⟩⟩
  · rintro s9 A B row ⟨l', e1, hj⟩ hg hr
    exact ⟨l', e1, hJ l' A B row hj hg hr⟩
  · rintro e9 W' ⟨hv, ⟨ys, hI, l', e1, hj⟩ | ⟨pre, _, l', e1, hj⟩⟩
    · exact ⟨hv, .inl ⟨l', by show InOrd z m (l'.map (fun x => x.1)); rw [e1]; exact hI, hj⟩⟩
    · exact ⟨hv, .inr ⟨l', trivial, hj⟩⟩
theorem inorder_any (mb : Nat) (w : World) : Calls Try.prog 42 #[.map (some mb)] w fun e w' => e = .returned (.func (.func 60) #[] #[.pointer (some ⟨w.heap.size, 0, none⟩)]) ∧ w' = w.alloc (.cells #[.map (some mb)] 51) := by
  go_enter Try.func42, Try.ntmps42
  go_wp2
  go_ret
  exact ⟨rfl, rfl⟩
end Go.Proofs.Ytflignpbboiahaa
