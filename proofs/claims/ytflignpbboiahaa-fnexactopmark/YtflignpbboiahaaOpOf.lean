/- Proved here: an operator for a call: each row in a box of its own, and a map that points to all. -/
import Derived.Test.YtflignpbboiahaaOpSh
import Derived.Test.YtflignpbboiahaaOpPl
import Derived.Deep.RegionHeld3
import Derived.Lib.SmallJoins
namespace Go.Proofs.Ytflignpbboiahaa
open Go.ChangeShapes Go.WideShapes Go.ChangeAt Go.RowKit
set_option linter.unusedVariables false

open Go.Maps
set_option linter.unusedSimpArgs false
theorem OwnsV.store {w : World} {b n : Nat} {m : P3 → Option Value} (h : OwnsV w b n m) (hn : n < maxLen) (q : P3) (hq : ok3 q) (val : Value) :
    ∃ w', (Instr.mapUpdate 51 (.map (some b)) (.agg #[.int .i64 q.1, .int .i64 q.2.1, .int .i64 q.2.2]) val).run Try.prog w = .ok () w' ∧ OwnsV w' b (n + 1) (fun x => if x = q then some val else m x) ∧ w.grownBy w' (some b) :=
  OwnsOp.store h key3 Try.underlying51 hn some3 inj3 q hq val (ps := []) rfl
theorem OwnsV.ne_cells {w : World} {b n g : Nat} {m : P3 → Option Value} {cs : Array Value} {ty : TypeId} (h : OwnsV w b n m) (hx : w.heap[g]? = some (.cells cs ty (0, 0))) : g ≠ b := by
  rintro rfl
  obtain ⟨D, ⟨es, clock, h1, _⟩, _⟩ := h
  rw [hx] at h1
  cases h1
theorem OwnsV.bel {w w' : World} {b n : Nat} {m : P3 → Option Value} (h : OwnsV w b n m) (hb : Below w.heap.size w w') : OwnsV w' b n m := OwnsOp.below h hb
/-- Rows in boxes, and the map that points to them. -/
structure RowsI (W : World) (B mb nn : Nat) (es : List Ent) : Prop where
  map : OwnsV W mb nn (fun q => (mapE es q).map Value.pointer)
  box : ∀ e ∈ es, BxO W e.1 e.2
  ge : ∀ e ∈ es, B ≤ e.1
  nd : (es.map (fun e => e.1)).Nodup
theorem RowsI.bel {W W' : World} {B mb nn : Nat} {es : List Ent} (h : RowsI W B mb nn es) (hb : Below W.heap.size W W') : RowsI W' B mb nn es :=
  ⟨h.map.bel hb, fun e he => (h.box e he).bel hb (h.box e he).lt, h.ge, h.nd⟩
theorem RowsI.snoc {W W' : World} {B mb nn : Nat} {es : List Ent} (h : RowsI W B mb nn es) (g : Nat) (x : OrR) (hx : BxO W g x) (hg : B ≤ g) (hn : ∀ e ∈ es, e.1 < g) (hm : OwnsV W' mb (nn + 1) (fun q => (mapE (es ++ [(g, x)]) q).map Value.pointer)) (hgr : W.grownBy W' (some mb)) : RowsI W' B mb (nn + 1) (es ++ [(g, x)]) := by
  have hkeep : ∀ k y, BxO W k y → BxO W' k y := fun k y hy => (hgr.block k hy.lt (fun e9 => h.map.ne_cells hy (Option.some.inj e9))).trans hy
  refine ⟨hm, ?_, ?_, ?_⟩
  · intro e he
    rcases List.mem_append.1 he with h9 | h9
    · exact hkeep _ _ (h.box e h9)
    · rw [List.mem_singleton.1 h9]
      exact hkeep _ _ hx
  · intro e he
    rcases List.mem_append.1 he with h9 | h9
    · exact h.ge e h9
    · rw [List.mem_singleton.1 h9]
      exact hg
  · rw [List.map_append, List.nodup_append]
    refine ⟨h.nd, by simp, ?_⟩
    intro a ha b hb
    obtain ⟨e, he, rfl⟩ := List.mem_map.1 ha
    simp at hb
    have := hn e he
    omega
theorem OrR.eta (x : OrR) : x = ⟨x.ky, x.st, x.en, x.an, x.asu, x.ale, x.amo, x.fn, x.fsu, x.fle, x.fmo, x.td, x.tm⟩ := rfl

set_option maxRecDepth 20000 in
set_option maxHeartbeats 4000000 in
theorem operof_any (s t k z q l e : Int) (b : Bool) (v r m : Int) (a : Option Addr) (len cap : Nat) (xs : List OrR) (w : World) (h : OrRs w a len xs) (hl : len ≤ 1000) (hok : ∀ x ∈ xs, ok3 (plO x)) (hrs : xs.Pairwise (fun x y => ltPl (plO x) (plO y))) : Calls Try.prog 23 #[.agg #[.int .i64 s, .int .i64 t, .int .i64 k, .int .i64 z, .int .i64 q, .int .i64 l, .int .i64 e, .bool b, .int .i64 v, .int .i64 r], .agg #[.int .i64 m, .slice a len cap]] w fun e' w' => ∃ es : List Ent, e' = .returned (.pointer (some ⟨w.heap.size + 1 + 1 + 1, 0, none⟩)) ∧ es.map (fun e => e.2) = xs ∧ RowsI w' w.heap.size (w.heap.size + 1 + 1) len es ∧ w'.heap[w.heap.size + 1 + 1 + 1]? = some (.cells (opV s t k z q l e b v r m (w.heap.size + 1 + 1) (.slice none 0 0) (.slice none 0 0)) 54 (0, 0)) ∧ Below w.heap.size w w' := by
  have hxl := h.1
  have hmk : ∀ u : World, (Instr.makeMap 51 none).run Try.prog u = .ok (.map (some u.heap.size)) (u.alloc (.map #[] 0)) := fun _ => rfl
  go_enter Try.func23, Try.ntmps23
  go_wp2
  clear hmk
  go_loopw [17] (fun iv wr => ∃ (i : Nat) (es : List Ent), i ≤ len ∧ iv = .int .i64 i ∧ Hid (es.map (fun e => e.2) = xs.take i) ∧ Hid (RowsI wr (w.heap.size + 4) (w.heap.size + 1 + 1) i es) ∧ Hid (wr.heap[w.heap.size + 1 + 1 + 1]? = some (.cells #[.int .i64 s, .int .i64 t, .int .i64 k, .int .i64 z, .int .i64 q, .int .i64 l, .int .i64 e, .bool b, .int .i64 v, .int .i64 r, .int .i64 m, .map (some (w.heap.size + 1 + 1)), .slice none 0 0, .slice none 0 0] 54 (0, 0))) ∧ Below w.heap.size w wr) (fun iv _ => len - (intOf iv).toNat)
  case atStart =>
    refine ⟨0, [], Nat.zero_le _, rfl, hide rfl, hide ⟨?_, by simp, by simp, by simp⟩, hide ?_, bel_alloc (bel_alloc (bel_alloc (bel_one _ _) _) _) _⟩
    · have h9 := OwnsOp.made ((w.alloc (.cells #[.int .i64 s, .int .i64 t, .int .i64 k, .int .i64 z, .int .i64 q, .int .i64 l, .int .i64 e, .bool b, .int .i64 v, .int .i64 r] 34)).alloc (.cells #[.int .i64 m, .slice a len cap] 30)) Try.prog 80 rdV v3 ok3 DataW.held
      rw [World.size_alloc, World.size_alloc] at h9
      exact OwnsOp.below h9 (bel_one _ _)
    · have h9 := World.alloc_heap_new (((w.alloc (.cells #[.int .i64 s, .int .i64 t, .int .i64 k, .int .i64 z, .int .i64 q, .int .i64 l, .int .i64 e, .bool b, .int .i64 v, .int .i64 r] 34)).alloc (.cells #[.int .i64 m, .slice a len cap] 30)).alloc (.map #[] 0)) (.cells #[.int .i64 s, .int .i64 t, .int .i64 k, .int .i64 z, .int .i64 q, .int .i64 l, .int .i64 e, .bool b, .int .i64 v, .int .i64 r, .int .i64 m, .map (some (w.heap.size + 1 + 1)), .slice none 0 0, .slice none 0 0] 54)
      rw [World.size_alloc, World.size_alloc, World.size_alloc] at h9
      exact h9
  case round =>
    obtain ⟨i, es, hil, rfl, HE, HR, HO, hbw⟩ := hrel
    have hBO : w.heap.size + 1 + 1 + 1 < wr.heap.size := (Array.getElem?_eq_some_iff.1 (unhide HO)).1
    by_cases hlt : i < len
    · obtain ⟨_, _, hy⟩ := h
      obtain ⟨g, o, rfl, hr⟩ := hy.resolve_left (by omega)
      obtain ⟨x, hxk⟩ : ∃ x, xs[i]? = some x := ⟨_, List.getElem?_eq_getElem (by omega)⟩
      have hg : g < w.heap.size := hr.lt (by omega)
      obtain ⟨c0, c1, c2, c3, c4, c5, c6, c7, c8, c9, c10, c11, c12⟩ := (hr i _ hxk).below hbw hg
      have hxo := hok x (List.mem_of_getElem? hxk)
      have hnew : ∀ e9 ∈ es, ¬ plO e9.2 = plO x := by
        intro e9 he e8
        have h1 : e9.2 ∈ xs.take i := by rw [← unhide HE]; exact List.mem_map.2 ⟨e9, he, rfl⟩
        obtain ⟨j, hj⟩ := List.mem_iff_getElem?.1 h1
        have hji : j < i := by have := (List.getElem?_eq_some_iff.1 hj).1; rw [List.length_take] at this; omega
        rw [List.getElem?_take_of_lt hji] at hj
        obtain ⟨q1, q2⟩ := List.getElem?_eq_some_iff.1 hj
        obtain ⟨q3, q4⟩ := List.getElem?_eq_some_iff.1 hxk
        have h2 := List.pairwise_iff_getElem.1 hrs j i q1 q3 hji
        rw [q2, q4, e8] at h2
        exact ltPl_irr _ h2
      have HE2 : Hid ((es ++ [(wr.heap.size, x)]).map (fun e => e.2) = xs.take (i + 1)) := hide (by rw [List.map_append, unhide HE, List.take_add_one, hxk]; rfl)
      have HN := hide hnew
      have HXO := hide hxo
      have hlow : ∀ e9 ∈ es, e9.1 < wr.heap.size := fun e9 he => ((unhide HR).box e9 he).lt
      have HL := hide hlow
      clear hr hy hxk hnew hlow
      obtain ⟨ky, st, en, an, asu, ale, amo, fn, fsu, fle, fmo, td, tm⟩ := x
      dsimp only at c0 c1 c2 c3 c4 c5 c6 c7 c8 c9 c10 c11 c12
      have hgr : g < wr.heap.size := Nat.lt_of_lt_of_le hg hbw.size
      have bO : (wr.alloc (.cells #[.int .i64 ky, .int .i64 st, .int .i64 en, .int .i64 an, .int .i64 asu, .int .i64 ale, .int .i64 amo, .int .i64 fn, .int .i64 fsu, .int .i64 fle, .int .i64 fmo, .int .i64 td, .bool tm] 66)).drew.heap[w.heap.size + 1 + 1 + 1]? = some (.cells #[.int .i64 s, .int .i64 t, .int .i64 k, .int .i64 z, .int .i64 q, .int .i64 l, .int .i64 e, .bool b, .int .i64 v, .int .i64 r, .int .i64 m, .map (some (w.heap.size + 1 + 1)), .slice none 0 0, .slice none 0 0] 54 (0, 0)) := (Below.heap_alloc _ _ _ hBO).trans (unhide HO)
      have bR : (wr.alloc (.cells #[.int .i64 ky, .int .i64 st, .int .i64 en, .int .i64 an, .int .i64 asu, .int .i64 ale, .int .i64 amo, .int .i64 fn, .int .i64 fsu, .int .i64 fle, .int .i64 fmo, .int .i64 td, .bool tm] 66)).drew.heap[wr.heap.size]? = some (.cells #[.int .i64 ky, .int .i64 st, .int .i64 en, .int .i64 an, .int .i64 asu, .int .i64 ale, .int .i64 amo, .int .i64 fn, .int .i64 fsu, .int .i64 fle, .int .i64 fmo, .int .i64 td, .bool tm] 66 (0, 0)) := World.alloc_heap_new wr _
      go_wp2_with fail
      clear c0 c1 c2 c3 c4 c5 c6 c7 c8 c9 c10 c11 c12
      refine wp_region_held_drew (S := (fun W => W.heap[w.heap.size + 1 + 1 + 1]? = some (.cells #[.int .i64 s, .int .i64 t, .int .i64 k, .int .i64 z, .int .i64 q, .int .i64 l, .int .i64 e, .bool b, .int .i64 v, .int .i64 r, .int .i64 m, .map (some (w.heap.size + 1 + 1)), .slice none 0 0, .slice none 0 0] 54 (0, 0)) ∧ W.heap[wr.heap.size]? = some (.cells #[.int .i64 ky, .int .i64 st, .int .i64 en, .int .i64 an, .int .i64 asu, .int .i64 ale, .int .i64 amo, .int .i64 fn, .int .i64 fsu, .int .i64 fle, .int .i64 fmo, .int .i64 td, .bool tm] 66 (0, 0)))) (by kernel_rfl) ?_ (fun hHeld => ?_)
      · (try dsimp only); exact ⟨bO, bR⟩
      refine wpAnyH_take (i := 0) (v := ?_) (by simp only [List.getElem?_toArray, List.getElem?_cons_zero, List.getElem?_cons_succ]; rfl) (by kernel_rfl) (by kernel_rfl) (by kernel_rfl) (by intro _ _ _ h; exact h) (Or.inl ⟨by rfl, ?_⟩) (by assumption) ?_
      rotate_left
      · (intro w9 hSw; (try dsimp only at hSw); go_simp <;> with_reducible rfl)
      try simp only [Act.put, List.setIfInBounds_toArray, List.set_cons_zero, List.set_cons_succ]
      refine wpAnyH_take (i := 1) (v := ?_) (by simp only [List.getElem?_toArray, List.getElem?_cons_zero, List.getElem?_cons_succ]; rfl) (by kernel_rfl) (by kernel_rfl) (by kernel_rfl) (by intro _ _ _ h; exact h) (Or.inl ⟨by rfl, ?_⟩) (by assumption) ?_
      rotate_left
      · (intro w9 hSw; (try dsimp only at hSw); go_simp <;> with_reducible rfl)
      try simp only [Act.put, List.setIfInBounds_toArray, List.set_cons_zero, List.set_cons_succ]
      refine wpAnyH_take (i := 2) (v := ?_) (by simp only [List.getElem?_toArray, List.getElem?_cons_zero, List.getElem?_cons_succ]; rfl) (by kernel_rfl) (by kernel_rfl) (by kernel_rfl) (by intro _ _ _ h; exact h) (Or.inl ⟨by rfl, ?_⟩) (by assumption) ?_
      rotate_left
      · (intro w9 hSw; (try dsimp only at hSw); go_simp <;> with_reducible rfl)
      try simp only [Act.put, List.setIfInBounds_toArray, List.set_cons_zero, List.set_cons_succ]
      refine wpAnyH_take (i := 3) (v := ?_) (by simp only [List.getElem?_toArray, List.getElem?_cons_zero, List.getElem?_cons_succ]; rfl) (by kernel_rfl) (by kernel_rfl) (by kernel_rfl) (by intro _ _ _ h; exact h) (Or.inl ⟨by rfl, ?_⟩) (by assumption) ?_
      rotate_left
      · (intro w9 hSw; (try dsimp only at hSw); obtain ⟨q0, q1⟩ := hSw; have g0x0 : w9.cell? ⟨w.heap.size + 1 + 1 + 1, 0, none⟩ = some (.int .i64 s) := (by simp [World.cell?, q0, go_sem]); have g0x1 : w9.cell? ⟨w.heap.size + 1 + 1 + 1, 1, none⟩ = some (.int .i64 t) := (by simp [World.cell?, q0, go_sem]); have g0x2 : w9.cell? ⟨w.heap.size + 1 + 1 + 1, 2, none⟩ = some (.int .i64 k) := (by simp [World.cell?, q0, go_sem]); have g0x3 : w9.cell? ⟨w.heap.size + 1 + 1 + 1, 3, none⟩ = some (.int .i64 z) := (by simp [World.cell?, q0, go_sem]); have g0x4 : w9.cell? ⟨w.heap.size + 1 + 1 + 1, 4, none⟩ = some (.int .i64 q) := (by simp [World.cell?, q0, go_sem]); have g0x5 : w9.cell? ⟨w.heap.size + 1 + 1 + 1, 5, none⟩ = some (.int .i64 l) := (by simp [World.cell?, q0, go_sem]); have g0x6 : w9.cell? ⟨w.heap.size + 1 + 1 + 1, 6, none⟩ = some (.int .i64 e) := (by simp [World.cell?, q0, go_sem]); have g0x7 : w9.cell? ⟨w.heap.size + 1 + 1 + 1, 7, none⟩ = some (.bool b) := (by simp [World.cell?, q0, go_sem]); have g0x8 : w9.cell? ⟨w.heap.size + 1 + 1 + 1, 8, none⟩ = some (.int .i64 v) := (by simp [World.cell?, q0, go_sem]); have g0x9 : w9.cell? ⟨w.heap.size + 1 + 1 + 1, 9, none⟩ = some (.int .i64 r) := (by simp [World.cell?, q0, go_sem]); have g0x10 : w9.cell? ⟨w.heap.size + 1 + 1 + 1, 10, none⟩ = some (.int .i64 m) := (by simp [World.cell?, q0, go_sem]); have g0x11 : w9.cell? ⟨w.heap.size + 1 + 1 + 1, 11, none⟩ = some (.map (some (w.heap.size + 1 + 1))) := (by simp [World.cell?, q0, go_sem]); have g0x12 : w9.cell? ⟨w.heap.size + 1 + 1 + 1, 12, none⟩ = some (.slice none 0 0) := (by simp [World.cell?, q0, go_sem]); have g0x13 : w9.cell? ⟨w.heap.size + 1 + 1 + 1, 13, none⟩ = some (.slice none 0 0) := (by simp [World.cell?, q0, go_sem]); go_simp <;> with_reducible rfl)
      try simp only [Act.put, List.setIfInBounds_toArray, List.set_cons_zero, List.set_cons_succ]
      refine wpAnyH_take (i := 4) (v := ?_) (by simp only [List.getElem?_toArray, List.getElem?_cons_zero, List.getElem?_cons_succ]; rfl) (by kernel_rfl) (by kernel_rfl) (by kernel_rfl) (by intro _ _ _ h; exact h) (Or.inl ⟨by rfl, ?_⟩) (by assumption) ?_
      rotate_left
      · (intro w9 hSw; (try dsimp only at hSw); obtain ⟨q0, q1⟩ := hSw; have g1x0 : w9.cell? ⟨wr.heap.size, 0, none⟩ = some (.int .i64 ky) := (by simp [World.cell?, q1, go_sem]); have g1x1 : w9.cell? ⟨wr.heap.size, 1, none⟩ = some (.int .i64 st) := (by simp [World.cell?, q1, go_sem]); have g1x2 : w9.cell? ⟨wr.heap.size, 2, none⟩ = some (.int .i64 en) := (by simp [World.cell?, q1, go_sem]); have g1x3 : w9.cell? ⟨wr.heap.size, 3, none⟩ = some (.int .i64 an) := (by simp [World.cell?, q1, go_sem]); have g1x4 : w9.cell? ⟨wr.heap.size, 4, none⟩ = some (.int .i64 asu) := (by simp [World.cell?, q1, go_sem]); have g1x5 : w9.cell? ⟨wr.heap.size, 5, none⟩ = some (.int .i64 ale) := (by simp [World.cell?, q1, go_sem]); have g1x6 : w9.cell? ⟨wr.heap.size, 6, none⟩ = some (.int .i64 amo) := (by simp [World.cell?, q1, go_sem]); have g1x7 : w9.cell? ⟨wr.heap.size, 7, none⟩ = some (.int .i64 fn) := (by simp [World.cell?, q1, go_sem]); have g1x8 : w9.cell? ⟨wr.heap.size, 8, none⟩ = some (.int .i64 fsu) := (by simp [World.cell?, q1, go_sem]); have g1x9 : w9.cell? ⟨wr.heap.size, 9, none⟩ = some (.int .i64 fle) := (by simp [World.cell?, q1, go_sem]); have g1x10 : w9.cell? ⟨wr.heap.size, 10, none⟩ = some (.int .i64 fmo) := (by simp [World.cell?, q1, go_sem]); have g1x11 : w9.cell? ⟨wr.heap.size, 11, none⟩ = some (.int .i64 td) := (by simp [World.cell?, q1, go_sem]); have g1x12 : w9.cell? ⟨wr.heap.size, 12, none⟩ = some (.bool tm) := (by simp [World.cell?, q1, go_sem]); go_simp <;> with_reducible rfl)
      try simp only [Act.put, List.setIfInBounds_toArray, List.set_cons_zero, List.set_cons_succ]
      refine wpAnyH_ready (rs := [5]) (by kernel_rfl) (by simp) ?_
      refine AllReadyH.cons (by simp only [List.getElem?_toArray, List.getElem?_cons_zero, List.getElem?_cons_succ]; rfl) (fun K hK => ?_) AllReadyH.nil
      go_simp
      (go_at_call 39; refine (opplace_any _ _ _ _ _ _ _ _ _ _ _ _ _ _).mono ?_; rintro e9 wv ⟨rfl, hbwv⟩)
      (try go_wp2_with fail)
      have zwv := hbwv.size
      (try simp at zwv)
      have bO := (hbwv.block (w.heap.size + 1 + 1 + 1) (by first | omega | (simp; done) | (simp; omega))).trans bO
      have bR := (hbwv.block (wr.heap.size) (by first | omega | (simp; done) | (simp; omega))).trans bR
      refine hK.out _ _ ?_ (fun hHeld2 => ?_)
      · (try dsimp only); exact ⟨bO, bR⟩
      clear hK K hHeld
      have hHeld := hHeld2
      clear hHeld2
      try simp only [Act.put, List.setIfInBounds_toArray, List.set_cons_zero, List.set_cons_succ]
      have hbv : Below wr.heap.size wr wv := bel_trans (bel_drew (bel_one _ _)) hbwv
      have HRv := (unhide HR).bel hbv
      obtain ⟨wu, hst, hOu, hgu⟩ := HRv.map.store (by unfold maxLen; omega) (ky, st, en) (unhide HXO) (.pointer (some ⟨wr.heap.size, 0, none⟩))
      dsimp only at hst
      refine wpAnyH_ready (rs := [6]) (by kernel_rfl) (by simp) ?_
      refine AllReadyH.cons (by simp only [List.getElem?_toArray, List.getElem?_cons_zero, List.getElem?_cons_succ]; rfl) (fun K hK => ?_) AllReadyH.nil
      go_simp
      have bOu : wu.heap[w.heap.size + 1 + 1 + 1]? = some (.cells #[.int .i64 s, .int .i64 t, .int .i64 k, .int .i64 z, .int .i64 q, .int .i64 l, .int .i64 e, .bool b, .int .i64 v, .int .i64 r, .int .i64 m, .map (some (w.heap.size + 1 + 1)), .slice none 0 0, .slice none 0 0] 54 (0, 0)) := (hgu.block _ (Array.getElem?_eq_some_iff.1 bO).1 (fun e9 => HRv.map.ne_cells bO (Option.some.inj e9))).trans bO
      have bRu : wu.heap[wr.heap.size]? = some (.cells #[.int .i64 ky, .int .i64 st, .int .i64 en, .int .i64 an, .int .i64 asu, .int .i64 ale, .int .i64 amo, .int .i64 fn, .int .i64 fsu, .int .i64 fle, .int .i64 fmo, .int .i64 td, .bool tm] 66 (0, 0)) := (hgu.block _ (Array.getElem?_eq_some_iff.1 bR).1 (fun e9 => HRv.map.ne_cells bR (Option.some.inj e9))).trans bR
      refine hK.out _ _ ?_ (fun hHeld2 => ?_)
      · (try dsimp only); exact ⟨bOu, bRu⟩
      clear hK K hHeld hHeld2
      try simp only [Act.put, List.setIfInBounds_toArray, List.set_cons_zero, List.set_cons_succ]
      refine wpAnyH_done (by kernel_rfl) ?_ _
      rw [show (fun x9 : P3 => if x9 = (ky, st, en) then some (Value.pointer (some ⟨wr.heap.size, 0, none⟩)) else (mapE es x9).map Value.pointer) = fun q9 => (mapE (es ++ [(wr.heap.size, (⟨ky, st, en, an, asu, ale, amo, fn, fsu, fle, fmo, td, tm⟩ : OrR))]) q9).map Value.pointer from mapE_snoc (e := (wr.heap.size, (⟨ky, st, en, an, asu, ale, amo, fn, fsu, fle, fmo, td, tm⟩ : OrR))) (unhide HN)] at hOu
      have HRu := hide (HRv.snoc wr.heap.size ⟨ky, st, en, an, asu, ale, amo, fn, fsu, fle, fmo, td, tm⟩ bR (by omega) (unhide HL) hOu hgu)
      have hbu : Below w.heap.size w wu := by
        have h9 := bel_trans hbw hbv
        refine ⟨hgu.os.trans h9.os, hgu.tape.trans h9.tape, hgu.output.trans h9.output, Nat.le_trans h9.size hgu.size, fun k9 hk9 => ?_⟩
        exact (hgu.block k9 (Nat.lt_of_lt_of_le hk9 h9.size) (fun e9 => by have := Option.some.inj e9; omega)).trans (h9.block k9 hk9)
      clear hst hOu hgu bO bR bRu hbwv HRv zwv hbv
      go_wp2
      refine ⟨⟨i + 1, es ++ [(wr.heap.size, ⟨ky, st, en, an, asu, ale, amo, fn, fsu, fle, fmo, td, tm⟩)], by omega, by go_num, HE2, HRu, hide bOu, hbu⟩, by simp [intOf]; omega⟩
    · obtain rfl : i = len := by omega
      have hE : es.map (fun e => e.2) = xs := by have h9 := unhide HE; rw [List.take_of_length_le (by omega)] at h9; exact h9
      go_wp2
      go_ret
      refine ⟨es, rfl, hE, ⟨(unhide HR).map, (unhide HR).box, fun e9 he => by have := (unhide HR).ge e9 he; omega, (unhide HR).nd⟩, unhide HO, hbw⟩
end Go.Proofs.Ytflignpbboiahaa
