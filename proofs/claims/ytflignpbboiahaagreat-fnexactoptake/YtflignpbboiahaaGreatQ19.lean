/- Laid together: what the claim needs of the texts that were built one by one. -/
import Derived.Test.YtflignpbboiahaaGreatQ18
import Derived.Test.YtflignpbboiahaaGreatQ7
import Derived.Test.YtflignpbboiahaaGreatQ13
import Derived.Maps.OwnSet
import Derived.Test.YtflignpbboiahaaGreatQ0
set_option linter.unusedVariables false
namespace Go.Proofs.YtflignpbboiahaaGreat
open Go.ChangeShapes Go.WideShapes Go.ChangeAt Go.RowKit Go.Shelf Go.Maps
set_option linter.unusedSimpArgs false
attribute [local go_sem] Oper.semAt_some
def turnM (ty : TypeId) : Bool := ty == 96 || ty == 127
def KpM (W W' : World) : Prop := W.heap.size ≤ W'.heap.size ∧ ∀ (k : Nat) (o : Obj), W.heap[k]? = some o → (o.isCells = false ∨ ∃ (cs : Array Value) (ty : TypeId), turnM ty = false ∧ o = .cells cs ty (0, 0)) → W'.heap[k]? = some o
theorem KpM.refl (W : World) : KpM W W := ⟨Nat.le_refl _, fun _ _ h _ => h⟩
theorem KpM.trans {A B C : World} (h : KpM A B) (k : KpM B C) : KpM A C := ⟨Nat.le_trans h.1 k.1, fun i o hi ho => k.2 i o (h.2 i o hi ho) ho⟩
theorem KpM.bel {W W' : World} (hb : Below W.heap.size W W') : KpM W W' := ⟨hb.size, fun k o hk _ => (hb.block k (Array.getElem?_eq_some_iff.1 hk).1).trans hk⟩
theorem KpM.grown {W W' : World} {row : Option Nat} (hg : W.grownBy W' row) (hr : ∀ r, row = some r → ∃ cs ty, W.heap[r]? = some (.cells cs ty (0, 0)) ∧ turnM ty = true) : KpM W W' := by
 refine ⟨hg.size, fun k o hk ho => (hg.block k (Array.getElem?_eq_some_iff.1 hk).1 (fun e => ?_)).trans hk⟩
 obtain ⟨cs, ty, h1, h2⟩ := hr k e.symm
 rw [hk] at h1
 cases h1
 rcases ho with h9 | ⟨cs', ty', h8, h9⟩
 ·cases h9
 ·cases h9
  rw [h2] at h8
  cases h8
theorem KpM.set {W : World} {p : Addr} (v : Value) {cs : Array Value} {ty : TypeId} (h : W.heap[p.block]? = some (.cells cs ty (0, 0))) (h1 : turnM ty = true) : KpM W (W.setCell p v) := by
 refine ⟨(KeepsWalks.setCell W p v).size, fun k o hk ho => ?_⟩
 have hne : k ≠ p.block := by
  rintro rfl
  rw [hk] at h
  cases h
  rcases ho with h9 | ⟨cs', ty', h8, h9⟩
  ·cases h9
  ·cases h9
   rw [h1] at h8
   cases h8
 exact (Below.heap_setCell W p v k hne).trans hk
theorem KpM.kpo {W W' : World} (h : KpM W W') : KpO W W' := by
 refine ⟨⟨h.1, fun k o hk ho => h.2 k o hk (.inl (Obj.not_cells_of_walk ho))⟩, fun b cs ty ht hb => h.2 b _ hb (.inr ⟨cs, ty, ?_, rfl⟩)⟩
 rcases ht with rfl | rfl <;> decide
theorem KpM.from {W W' : World} (h : KpM W W') (B : Nat) : KeepsFrom B W W' := ⟨h.1, fun k o _ hk ho => h.2 k o hk (.inl ho)⟩
def ptG (g : Nat) : Value := .pointer (some ⟨g, 0, none⟩)
def OwnPt (W : World) (B : Nat) (v : Value) (gs : List Nat) : Prop := W.ownsRow B 96 1 v gs.length (gs.map ptG)
theorem Tryz.infoPt : (Tryz.prog.info? 96).map (fun i => (i.zero, i.size, i.bytes)) = some (some (.pointer none), 1, 8) := by kernel_rfl
theorem ownPt_snoc {W : World} {B g : Nat} {v : Value} {gs : List Nat} (h : W.ownsRow B 96 1 v (gs.length + 1) (gs.map ptG ++ [ptG g])) : OwnPt W B v (gs ++ [g]) := by
 unfold OwnPt
 rw [List.length_append, List.map_append]
 exact h
theorem cells_newPt (w : World) (v : Value) (ty : Nat) : ∀ j u, ([v] : List Value)[j]? = some u → (w.alloc (.cells #[v] ty)).cell? ((⟨w.heap.size, 0, none⟩ : Addr).add j) = some u := by
 intro j u hu
 match j with
 | 0 =>
  simp at hu
  subst hu
  rw [show (⟨w.heap.size, 0, none⟩ : Addr).add 0 = ⟨w.heap.size, 0, none⟩ from (by simp [Addr.add])]
  exact Joins.cell_of_block (World.alloc_heap_new w (.cells #[v] ty)) 0
 | j + 1 => simp at hu
theorem touchesO_is {a b c d : Int} (w : World) {o : Bool} (h : Hid (touchB a b c d = o)) : Calls Tryz.prog 73 #[.agg #[.int .i64 a, .int .i64 b], .agg #[.int .i64 c, .int .i64 d]] w fun e w' => e = .returned (.bool o) ∧ Below w.heap.size w w' := by
 have h9 := unhide h
 subst h9
 exact touches_any a b c d w
theorem own_cellsT {W : World} {B n : Nat} {v : Value} {ys : List Value} (h : W.ownsRow B 96 1 v n ys) (r : Nat) (e : v.ownBlock = some r) : ∃ cs ty, W.heap[r]? = some (.cells cs ty (0, 0)) ∧ turnM ty = true := by
 rcases h.2 with ⟨rfl, _⟩ | ⟨g, cap, cur, rfl, _, hgb, _⟩
 ·cases e
 ·have e9 : g = r := by simpa [Value.ownBlock] using e
  subst e9
  exact ⟨_, _, hgb, by decide⟩
/-- A round of a session's walk. -/
def actM (w : World) (Bo mb : Nat) (ky st en : Int) {es : List Ent} (x : EntX es) : Act := { tmps := #[.pointer (some ⟨Bo, 0, none⟩), .agg #[.int .i64 ky, .int .i64 st, .int .i64 en], undef, .pointer (some ⟨w.heap.size, 0, none⟩), .slice none 0 0, undef, undef, .pointer (some ⟨w.heap.size + 1, 0, none⟩), undef, .pointer (some ⟨(entOf x).1, 0, none⟩), .pointer (some ⟨Bo, 0, none⟩), .pointer (some ⟨Bo, 0, none⟩), .pointer (some ⟨Bo, 0, none⟩), .pointer (some ⟨Bo, 2, none⟩), .int .i64 3, .bool false, undef, undef, undef, undef, undef, undef, undef, undef, undef, undef, undef, undef, .pointer (some ⟨Bo, 0, none⟩), .pointer (some ⟨Bo, 0, none⟩), .pointer (some ⟨Bo, 11, none⟩), .map (some mb), (.func (.func 84) #[] #[.pointer (some ⟨w.heap.size + 1 + 1, 0, none⟩)]), .agg #[.int .i64 x.1.1.1, .int .i64 x.1.1.2.1, .int .i64 x.1.1.2.2], .pointer (some ⟨(entOf x).1, 0, none⟩), undef, undef, undef, undef, undef, undef, undef, undef, undef, undef, undef, undef, undef, undef, undef, undef, undef, undef, undef, undef, undef], defers := [] }
def MetI (w : World) (nn : Nat) (ky st en : Int) {es : List Ent} (pre : List (EntX es)) (W : World) : Prop := ∃ rv, W.heap[w.heap.size + 1]? = some (.cells #[rv] 127 (0, 0)) ∧ OwnPt W w.heap.size rv (((pre.map entOf).filter (fun e => touO ky st en e.2)).map (fun e => e.1)) ∧ pre.length ≤ nn ∧ W.heap[w.heap.size]? = some (.cells #[.int .i64 ky, .int .i64 st, .int .i64 en] 98 (0, 0)) ∧ Below w.heap.size w W
theorem metI_own (w : World) (nn : Nat) (ky st en : Int) {es : List Ent} (B : Nat) (hB : w.heap.size ≤ B) : OwnFrom B (MetI w nn ky st en (es := es)) := fun s W W' row h hg hr => by
 obtain ⟨rv, h1, h2, h3, h4, h5⟩ := h
 have hr' := fun r e => (hr r e).2
 exact ⟨rv, row_cells h1 hg hr', own_row h2 hg hr', h3, row_cells h4 hg hr', h5.grown hg h5.size (fun k e => by have := (hr k e).1; omega)⟩
theorem flt_sn {p : Ent → Bool} (l : List Ent) (e : Ent) : (l ++ [e]).filter p = l.filter p ++ (if p e = true then [e] else []) := by
 rw [List.filter_append]
 simp only [List.filter_cons, List.filter_nil]
theorem OwnsV.look2 {w : World} {b n : Nat} {m : P3 → Option Value} (h : OwnsV w b n m) {z : Value} (hz : (zeroValue 96).run Tryz.prog w = .ok z w) (q : P3) (hq : ok3 q) :
  (Instr.lookup 58 (.map (some b)) (.agg #[.int .i64 q.1, .int .i64 q.2.1, .int .i64 q.2.2]) true).run Tryz.prog w = .ok (.tuple #[(m q).getD z, .bool (m q).isSome]) w := by
 obtain ⟨D, h, hf⟩ := h
 obtain ⟨kl, hkl⟩ := some3 q hq
 obtain ⟨v, ps, h1, h2⟩ := World.ownsMap.look_ok h key3 Tryz.underlying58 hz (zd := .held z) (zp := []) rfl hkl
 obtain ⟨f1, f2⟩ := hf q hq kl hkl
 cases hm : m q with
 | none =>
  rw [f2 hm] at h1
  rw [atKey_of_not_has (f2 hm)] at h2
  simp [rdV] at h2
  rw [h2.1] at h1
  exact h1
 | some a =>
  rw [has_true_of_atKey (f1 a hm)] at h1
  rw [f1 a hm] at h2
  simp [rdV] at h2
  rw [h2.1] at h1
  exact h1
theorem own_litT {W : World} {B gg : Nat} (g : Nat) (h : B ≤ W.heap.size) (hg : gg = W.heap.size) : OwnPt (W.alloc (.cells #[.pointer (some ⟨g, 0, none⟩)] 96)) B (.slice (some ⟨gg, 0, none⟩) 1 1) [g] := by
 subst hg
 exact ⟨rfl, Or.inr ⟨W.heap.size, 1, #[ptG g], rfl, h, World.alloc_heap_new W _, Nat.le_refl _, by unfold maxLen; omega, rfl, rfl⟩⟩
set_option maxRecDepth 100000 in
set_option maxHeartbeats 8000000 in
theorem metlook_any (Bo B mb nn : Nat) (s t k z q l e : Int) (b : Bool) (v r m : Int) (pv lv : Value) (es : List Ent) (ky st en : Int) (w : World) (hO : w.heap[Bo]? = some (.cells #[.int .i64 s, .int .i64 t, .int .i64 k, .int .i64 z, .int .i64 q, .int .i64 l, .int .i64 e, .bool b, .int .i64 v, .int .i64 r, .int .i64 m, .map (some (mb)), pv, lv] 60 (0, 0))) (hR : RowsI w B mb nn es) (hrise : RiseE es) (hok : ∀ e ∈ es, ok3 (plO e.2)) (hnn : nn ≤ 1000) (hesl : es.length ≤ nn) (hk : ¬ k = 3) (hky : ok3 (ky, st, en)) : Calls Tryz.prog 79 #[.pointer (some ⟨Bo, 0, none⟩), .agg #[.int .i64 ky, .int .i64 st, .int .i64 en]] w fun e' w' => ∃ v', e' = .returned v' ∧ OwnPt w' w.heap.size v' (((es.find? (fun e => decide (plO e.2 = (ky, st, en)))).toList).map (fun e => e.1)) ∧ Below w.heap.size w w' := by
 have zBo : Bo < w.heap.size := (Array.getElem?_eq_some_iff.1 hO).1
 have c2 : w.cell? ⟨Bo, 2, none⟩ = some (.int .i64 k) := Joins.cell_of_block hO 2
 have hkb : (k == 3) = false := by simp [hk]
 have hkn : (k != 3) = true := by simp [hk]
 have hB1 : Below w.heap.size w (w.alloc (.cells #[.int .i64 ky, .int .i64 st, .int .i64 en] 98)) := bel_one _ _
 have bO : (w.alloc (.cells #[.int .i64 ky, .int .i64 st, .int .i64 en] 98)).heap[Bo]? = some (.cells #[.int .i64 s, .int .i64 t, .int .i64 k, .int .i64 z, .int .i64 q, .int .i64 l, .int .i64 e, .bool b, .int .i64 v, .int .i64 r, .int .i64 m, .map (some (mb)), pv, lv] 60 (0, 0)) := (Below.heap_alloc _ _ _ zBo).trans hO
 have bA : (w.alloc (.cells #[.int .i64 ky, .int .i64 st, .int .i64 en] 98)).heap[w.heap.size]? = some (.cells #[.int .i64 ky, .int .i64 st, .int .i64 en] 98 (0, 0)) := World.alloc_heap_new w _
 have hmO : OwnsV (w.alloc (.cells #[.int .i64 ky, .int .i64 st, .int .i64 en] 98)) mb nn (fun q => (mapE es q).map Value.pointer) := hR.map.bel hB1
 have hbD : Below w.heap.size w (w.alloc (.cells #[.int .i64 ky, .int .i64 st, .int .i64 en] 98)).drew := bel_drew hB1
 cases hf : es.find? (fun e => decide (plO e.2 = (ky, st, en))) with
 | none =>
  have HL : Hid ((mapE es (ky, st, en)).map Value.pointer = none) := hide (by unfold mapE; rw [hf]; rfl)
  have HF := hide hf
  clear hf hk
  go_enter Tryz.func79, Tryz.ntmps79
  go_wp2_with fail
  refine wp_region_held_drew (S := (fun W => W.heap[Bo]? = some (.cells #[.int .i64 s, .int .i64 t, .int .i64 k, .int .i64 z, .int .i64 q, .int .i64 l, .int .i64 e, .bool b, .int .i64 v, .int .i64 r, .int .i64 m, .map (some (mb)), pv, lv] 60 (0, 0)) ∧ W.heap[w.heap.size]? = some (.cells #[.int .i64 ky, .int .i64 st, .int .i64 en] 98 (0, 0)) ∧ OwnsV W mb nn (fun q => (mapE es q).map Value.pointer))) (by kernel_rfl) ?_ (fun hHeld => ?_)
  ·((try dsimp only); exact ⟨bO, bA, hmO⟩)
  refine kV 0 ?_
  refine kV 1 ?_
  refine kV 2 ?_
  refine kT 3 ?_ ?_ ?_
  rotate_left
  ·(intro w9 hSw; (try dsimp only at hSw); obtain ⟨q0, q1, q2⟩ := hSw; have ax0 := cA q0 0; have ax1 := cA q0 1; have ax2 := cA q0 2; have ax3 := cA q0 3; have ax4 := cA q0 4; have ax5 := cA q0 5; have ax6 := cA q0 6; have ax7 := cA q0 7; have ax8 := cA q0 8; have ax9 := cA q0 9; have ax10 := cA q0 10; simp only [gA, gZ, gS] at ax0 ax1 ax2 ax3 ax4 ax5 ax6 ax7 ax8 ax9 ax10; have ax11 : w9.cell? ⟨Bo, 11, none⟩ = some (.map (some (mb))) := (by simp [World.cell?, q0, go_sem]); have ax12 := cA q0 12; have ax13 := cA q0 13; simp only [gA, gZ, gS] at ax12 ax13; go_simp <;> with_reducible rfl)
  try simp only [Act.put, tA, tZ, tS]
  refine kT 4 ?_ ?_ ?_
  rotate_left
  ·(intro w9 hSw; (try dsimp only at hSw); obtain ⟨q0, q1, q2⟩ := hSw; have bx0 := cA q1 0; have bx1 := cA q1 1; have bx2 := cA q1 2; simp only [gA, gZ, gS] at bx0 bx1 bx2; go_simp <;> with_reducible rfl)
  try simp only [Act.put, tA, tZ, tS]
  refine kT 5 ?_ ?_ ?_
  rotate_left
  ·(intro w9 hSw; (try dsimp only at hSw); obtain ⟨q0, q1, q2⟩ := hSw; have hlk := q2.look2 (zeroPtr _) (ky, st, en) hky; rw [unhide HL] at hlk; dsimp only [Option.isSome, Option.getD] at hlk; go_simp <;> with_reducible rfl)
  try simp only [Act.put, tA, tZ, tS]
  refine kV 6 ?_
  refine kV 7 ?_
  refine kV 8 ?_
  refine rD 9 (fun K hK => ?_)
  go_simp
  clear hHeld
  refine hK.out _ _ ?_ (fun hHeld => ?_)
  ·((try dsimp only); exact ⟨bO, bA, hmO⟩)
  clear hK K
  try simp only [Act.put, tA, tZ, tS]
  refine rD 10 (fun K hK => ?_)
  go_simp
  clear hHeld
  refine hK.out _ _ ?_ (fun hHeld => ?_)
  ·((try dsimp only); exact ⟨bO, bA, hmO⟩)
  clear hK K
  try simp only [Act.put, tA, tZ, tS]
  refine wpAnyH_done (by kernel_rfl) ?_ _
  clear hHeld
  go_wp2
  exact bodyPost_ret (v := .slice none 0 0) (by simp (maxDischargeDepth := 9) [results, Tryz.results79, go_sem, *]) rfl ⟨_, rfl, World.ownsRow_nil _ _ _ _, hbD⟩
 | some e0 =>
  have HL : Hid ((mapE es (ky, st, en)).map Value.pointer = some (.pointer (some ⟨e0.1, 0, none⟩))) := hide (by unfold mapE; rw [hf]; rfl)
  clear hf hk
  go_enter Tryz.func79, Tryz.ntmps79
  go_wp2_with fail
  refine wp_region_held_drew (S := (fun W => W.heap[Bo]? = some (.cells #[.int .i64 s, .int .i64 t, .int .i64 k, .int .i64 z, .int .i64 q, .int .i64 l, .int .i64 e, .bool b, .int .i64 v, .int .i64 r, .int .i64 m, .map (some (mb)), pv, lv] 60 (0, 0)) ∧ W.heap[w.heap.size]? = some (.cells #[.int .i64 ky, .int .i64 st, .int .i64 en] 98 (0, 0)) ∧ OwnsV W mb nn (fun q => (mapE es q).map Value.pointer))) (by kernel_rfl) ?_ (fun hHeld => ?_)
  ·((try dsimp only); exact ⟨bO, bA, hmO⟩)
  refine kV 0 ?_
  refine kV 1 ?_
  refine kV 2 ?_
  refine kT 3 ?_ ?_ ?_
  rotate_left
  ·(intro w9 hSw; (try dsimp only at hSw); obtain ⟨q0, q1, q2⟩ := hSw; have ax0 := cA q0 0; have ax1 := cA q0 1; have ax2 := cA q0 2; have ax3 := cA q0 3; have ax4 := cA q0 4; have ax5 := cA q0 5; have ax6 := cA q0 6; have ax7 := cA q0 7; have ax8 := cA q0 8; have ax9 := cA q0 9; have ax10 := cA q0 10; simp only [gA, gZ, gS] at ax0 ax1 ax2 ax3 ax4 ax5 ax6 ax7 ax8 ax9 ax10; have ax11 : w9.cell? ⟨Bo, 11, none⟩ = some (.map (some (mb))) := (by simp [World.cell?, q0, go_sem]); have ax12 := cA q0 12; have ax13 := cA q0 13; simp only [gA, gZ, gS] at ax12 ax13; go_simp <;> with_reducible rfl)
  try simp only [Act.put, tA, tZ, tS]
  refine kT 4 ?_ ?_ ?_
  rotate_left
  ·(intro w9 hSw; (try dsimp only at hSw); obtain ⟨q0, q1, q2⟩ := hSw; have bx0 := cA q1 0; have bx1 := cA q1 1; have bx2 := cA q1 2; simp only [gA, gZ, gS] at bx0 bx1 bx2; go_simp <;> with_reducible rfl)
  try simp only [Act.put, tA, tZ, tS]
  refine kT 5 ?_ ?_ ?_
  rotate_left
  ·(intro w9 hSw; (try dsimp only at hSw); obtain ⟨q0, q1, q2⟩ := hSw; have hlk := q2.look2 (zeroPtr _) (ky, st, en) hky; rw [unhide HL] at hlk; dsimp only [Option.isSome, Option.getD] at hlk; go_simp <;> with_reducible rfl)
  try simp only [Act.put, tA, tZ, tS]
  refine kV 6 ?_
  refine kV 7 ?_
  refine kV 8 ?_
  refine rD 9 (fun K hK => ?_)
  go_simp
  clear hHeld
  refine hK.out _ _ ?_ (fun hHeld => ?_)
  ·((try dsimp only); exact ⟨bO, bA, hmO⟩)
  clear hK K
  try simp only [Act.put, tA, tZ, tS]
  refine rD 10 (fun K hK => ?_)
  go_simp
  clear hHeld
  refine hK.out _ _ ?_ (fun hHeld => ?_)
  ·((try dsimp only); exact ⟨bO, bA, hmO⟩)
  clear hK K
  try simp only [Act.put, tA, tZ, tS]
  refine wpAnyH_done (by kernel_rfl) ?_ _
  clear hHeld
  go_wp2
  refine bodyPost_ret (v := .slice (some ⟨w.heap.size + 1, 0, none⟩) 1 1) (by simp (maxDischargeDepth := 9) [results, Tryz.results79, go_sem, *]) rfl ⟨_, rfl, ?_, bel_alloc hbD _⟩
  exact own_litT _ (by have := hbD.size; exact this) (by simp)
set_option maxRecDepth 100000 in
set_option maxHeartbeats 8000000 in
theorem metses_any (Bo B mb nn : Nat) (s t k z q l e : Int) (b : Bool) (v r m : Int) (pv lv : Value) (es : List Ent) (ky st en : Int) (w : World) (hO : w.heap[Bo]? = some (.cells #[.int .i64 s, .int .i64 t, .int .i64 k, .int .i64 z, .int .i64 q, .int .i64 l, .int .i64 e, .bool b, .int .i64 v, .int .i64 r, .int .i64 m, .map (some (mb)), pv, lv] 60 (0, 0))) (hR : RowsI w B mb nn es) (hrise : RiseE es) (hok : ∀ e ∈ es, ok3 (plO e.2)) (hnn : nn ≤ 1000) (hesl : es.length ≤ nn) (hk : k = 3) : Calls Tryz.prog 79 #[.pointer (some ⟨Bo, 0, none⟩), .agg #[.int .i64 ky, .int .i64 st, .int .i64 en]] w fun e' w' => ∃ v', e' = .returned v' ∧ OwnPt w' w.heap.size v' ((es.filter (fun e => touO ky st en e.2)).map (fun e => e.1)) ∧ Below w.heap.size w w' := by
 subst hk
 obtain ⟨i0, hi, hz0', hz1', hz2'⟩ := info_parts Tryz.infoPt
 have zBo : Bo < w.heap.size := (Array.getElem?_eq_some_iff.1 hO).1
 have c2 : w.cell? ⟨Bo, 2, none⟩ = some (.int .i64 3) := Joins.cell_of_block hO 2
 have c11 : w.cell? ⟨Bo, 11, none⟩ = some (.map (some mb)) := Joins.cell_of_block hO 11
 refine (callsIn_wide (n := 20)).1 ?_
 refine callsIn_of_wp_marks Tryz.func79 rfl trivial ?_ rfl
 simp only [Tryz.ntmps79, List.size_toArray, List.length_cons, List.length_nil, Nat.reduceAdd, Nat.reduceSub, Array.replicate_succ, Array.replicate_zero, List.push_toArray, List.append_toArray, List.nil_append, List.cons_append]
 have hB0 : Below w.heap.size w (((w.alloc (.cells #[.int .i64 ky, .int .i64 st, .int .i64 en] 98)).alloc (.cells #[.slice none 0 0] 127)).alloc (.cells #[.map (some mb)] 58)) := bel_alloc (bel_alloc (bel_one _ _) _) _
 have hm : (((w.alloc (.cells #[.int .i64 ky, .int .i64 st, .int .i64 en] 98)).alloc (.cells #[.slice none 0 0] 127)).alloc (.cells #[.map (some mb)] 58)).heap[w.heap.size + 1 + 1]? = some (.cells #[.map (some mb)] 58 (0, 0)) := by
  have := World.alloc_heap_new ((w.alloc (.cells #[.int .i64 ky, .int .i64 st, .int .i64 en] 98)).alloc (.cells #[.slice none 0 0] 127)) (.cells #[.map (some mb)] 58)
  rw [World.size_alloc, World.size_alloc] at this
  exact this
 have hS0 : (((w.alloc (.cells #[.int .i64 ky, .int .i64 st, .int .i64 en] 98)).alloc (.cells #[.slice none 0 0] 127)).alloc (.cells #[.map (some mb)] 58)).heap[w.heap.size + 1]? = some (.cells #[.slice none 0 0] 127 (0, 0)) := by
  refine (Below.heap_alloc _ _ _ (by simp)).trans ?_
  have := World.alloc_heap_new (w.alloc (.cells #[.int .i64 ky, .int .i64 st, .int .i64 en] 98)) (.cells #[.slice none 0 0] 127)
  rw [World.size_alloc] at this
  exact this
 have hA0 : (((w.alloc (.cells #[.int .i64 ky, .int .i64 st, .int .i64 en] 98)).alloc (.cells #[.slice none 0 0] 127)).alloc (.cells #[.map (some mb)] 58)).heap[w.heap.size]? = some (.cells #[.int .i64 ky, .int .i64 st, .int .i64 en] 98 (0, 0)) := (Below.heap_alloc _ _ _ (by simp; omega)).trans ((Below.heap_alloc _ _ _ (by simp)).trans (World.alloc_heap_new w _))
 have hown : OwnsV (((w.alloc (.cells #[.int .i64 ky, .int .i64 st, .int .i64 en] 98)).alloc (.cells #[.slice none 0 0] 127)).alloc (.cells #[.map (some mb)] 58)) mb nn (fun q => (mapO es q).map evO) := by rw [mapO_ev]; exact hR.map.bel hB0
 have hbx : ∀ e ∈ es, BxO w e.1 e.2 := hR.box
 gi_wp2_with (refine ⟨trivial, ?_⟩; gi_at_call 55; refine (callsIn_wide.2 (inorder_any mb _)).mono ?_; rintro e' w1 ⟨rfl, hw1⟩; subst hw1)
 clear c2 c11
 refine wpIn_rangeFunc_ownH rfl (by omega) (gf := 84) (lb := #[.pointer (some ⟨w.heap.size + 1 + 1, 0, none⟩)]) (by simp [go_sem, Act.eval]) trivial (enters_of Tryz.func84 (by kernel_rfl) rfl)
  (inordX_stops _ (by omega) (w.heap.size + 1 + 1) mb nn evO (mapO es) none zeroEv (PXs es) (fun q _ a ha => mapO_px ha) _ (by omega) hm hown) KpO.trans KpO.put (Below.refl _ _) (fun _ => rfl)
  (MetI w nn ky st en (es := es)) (fun _ _ _ => False) (metI_own w nn ky st en _ hB0.size) (fun _ _ _ _ _ hs _ _ => hs)
  ⟨_, hS0, World.ownsRow_nil _ _ _ _, Nat.zero_le _, hA0, hB0⟩
  (fun x a' W => a' = actM w Bo mb ky st en x) (fun x a' _ W W' row hs _ _ => hs) ?assign ?body ?done ?stop
 case assign =>
  rintro lb0 pre x W K hI hK
  have HK := hK (actM w Bo mb ky st en x) W (KeepsFrom.refl _ _) (KpO.rfl' W) hI rfl
  clear hK
  have hev := entOf_ev x
  unfold actM at HK
  rw [hev]
  gi_wp2
  exact HK
 case body =>
  rintro lb0 pre x a' W hlb _ ⟨rv, hS, hrow, hpn, bA, hB⟩ rfl hpl
  have hbe := (hbx _ (entOf_mem x)).bel hB (hbx _ (entOf_mem x)).lt
  obtain ⟨y, hy⟩ : ∃ y, (entOf x).2 = y := ⟨_, rfl⟩
  rw [hy] at hbe
  have Hy := hide hy
  have HBx := hide hbe
  obtain ⟨yky, yst, yen, yan, yasu, yale, yamo, yfn, yfsu, yfle, yfmo, ytd, ytm⟩ := y
  clear hbe hy
  by_cases k1 : yky = ky
  ·obtain ⟨tb, htb⟩ : ∃ tb, touchB yst yen st en = tb := ⟨_, rfl⟩
   have HT := hide htb
   have kb : (yky == ky) = true := by simp [k1]
   have ke : decide (yky = ky) = true := by simp [k1]
   have Htou : Hid (touO ky st en (entOf x).2 = tb) := hide (by rw [unhide Hy]; unfold touO; rw [show decide (yky = ky) = true from ke, Bool.true_and]; exact htb)
   clear k1 htb
   cases tb with
   | true =>
    obtain ⟨gs, hgs⟩ : ∃ gs, ((pre.map entOf).filter (fun e => touO ky st en e.2)).map (fun e => e.1) = gs := ⟨_, rfl⟩
    rw [hgs] at hrow
    have Hgs := hide hgs
    have hgl : gs.length ≤ 1000 := by
     rw [← hgs, List.length_map]
     exact Nat.le_trans (List.length_filter_le _ _) (by rw [List.length_map]; omega)
    have HRow := hide hrow
    have HS := hide hS
    have HA := hide bA
    clear hgs hrow hS hm hown hS0 hA0
    unfold actM
    gi_wp2
    refine wpIn_region_inv (by kernel_rfl) (by kernel_rfl) (fun L a' W' => ∃ V : Nat → Value, a' = ({ tmps := #[.pointer (some ⟨Bo, 0, none⟩), .agg #[.int .i64 ky, .int .i64 st, .int .i64 en], undef, .pointer (some ⟨w.heap.size, 0, none⟩), .slice none 0 0, undef, undef, .pointer (some ⟨w.heap.size + 1, 0, none⟩), undef, .pointer (some ⟨(entOf x).1, 0, none⟩), .pointer (some ⟨Bo, 0, none⟩), .pointer (some ⟨Bo, 0, none⟩), .pointer (some ⟨Bo, 0, none⟩), .pointer (some ⟨Bo, 2, none⟩), .int .i64 3, .bool false, undef, undef, undef, undef, undef, undef, undef, undef, undef, undef, undef, undef, .pointer (some ⟨Bo, 0, none⟩), .pointer (some ⟨Bo, 0, none⟩), .pointer (some ⟨Bo, 11, none⟩), .map (some mb), (.func (.func 84) #[] #[.pointer (some ⟨w.heap.size + 1 + 1, 0, none⟩)]), .agg #[.int .i64 x.1.1.1, .int .i64 x.1.1.2.1, .int .i64 x.1.1.2.2], .pointer (some ⟨(entOf x).1, 0, none⟩), V 0, V 1, V 2, V 3, V 4, V 5, V 6, V 7, V 8, V 9, V 10, V 11, V 12, V 13, V 14, V 15, undef, undef, undef, undef, undef], defers := [] } : Act) ∧ ((L 0 = true → V 0 = .pointer (some ⟨(entOf x).1, 0, none⟩)) ∧ (L 1 = true → V 1 = .pointer (some ⟨(entOf x).1, 0, none⟩)) ∧ (L 2 = true → V 2 = .pointer (some ⟨(entOf x).1, 0, none⟩)) ∧ (L 3 = true → V 3 = .int .i64 yky) ∧ (L 4 = true → V 4 = .pointer (some ⟨w.heap.size, 0, none⟩)) ∧ (L 5 = true → V 5 = .int .i64 ky) ∧ (L 6 = true → V 6 = .bool true) ∧ (L 7 = true → V 7 = .bool true) ∧ (L 8 = true → V 8 = .pointer (some ⟨(entOf x).1, 0, none⟩)) ∧ (L 9 = true → V 9 = .pointer (some ⟨(entOf x).1, 0, none⟩)) ∧ (L 10 = true → V 10 = .pointer (some ⟨(entOf x).1, 1, none⟩)) ∧ (L 11 = true → V 11 = .agg #[.int .i64 yst, .int .i64 yen]) ∧ (L 12 = true → V 12 = .pointer (some ⟨w.heap.size, 1, none⟩)) ∧ (L 13 = true → V 13 = .agg #[.int .i64 st, .int .i64 en]) ∧ (L 14 = true → V 14 = .bool true) ∧ (L 15 = true → V 15 = .bool true)) ∧ Below W.heap.size W W') ?_ ?_ ?_
    ·exact ⟨fun _ => undef, rfl, ⟨(fun h9 => (by cases h9)), (fun h9 => (by cases h9)), (fun h9 => (by cases h9)), (fun h9 => (by cases h9)), (fun h9 => (by cases h9)), (fun h9 => (by cases h9)), (fun h9 => (by cases h9)), (fun h9 => (by cases h9)), (fun h9 => (by cases h9)), (fun h9 => (by cases h9)), (fun h9 => (by cases h9)), (fun h9 => (by cases h9)), (fun h9 => (by cases h9)), (fun h9 => (by cases h9)), (fun h9 => (by cases h9)), (fun h9 => (by cases h9))⟩, bel_drew (Below.refl _ _)⟩
    ·refine ⟨?_, ?_, ?_, ?_, ?_, ?_, ?_, ?_, ?_, ?_, ?_, ?_, ?_, ?_, ?_, ?_, trivial⟩
     ·intro L a' W' hI hLj hE K' hK
      obtain ⟨V, rfl, ⟨hv0, hv1, hv2, hv3, hv4, hv5, hv6, hv7, hv8, hv9, hv10, hv11, hv12, hv13, hv14, hv15⟩, hbW⟩ := hI
      go_simp
      exact hK.out _ _ ⟨fun m9 => if m9 = 0 then .pointer (some ⟨(entOf x).1, 0, none⟩) else V m9, rfl, ⟨fun _ => rfl, mO hv1, mO hv2, mO hv3, mO hv4, mO hv5, mO hv6, mO hv7, mO hv8, mO hv9, mO hv10, mO hv11, mO hv12, mO hv13, mO hv14, mO hv15⟩, hbW⟩
     ·intro L a' W' hI hLj hE K' hK
      obtain ⟨V, rfl, ⟨hv0, hv1, hv2, hv3, hv4, hv5, hv6, hv7, hv8, hv9, hv10, hv11, hv12, hv13, hv14, hv15⟩, hbW⟩ := hI
      have ev0 := hv0 (hE ⟨0, .data⟩ (by simp) rfl)
      rw [ev0]
      go_simp
      exact hK.out _ _ ⟨fun m9 => if m9 = 1 then .pointer (some ⟨(entOf x).1, 0, none⟩) else V m9, (by simp [Act.put, ev0]), ⟨mO hv0, fun _ => rfl, mO hv2, mO hv3, mO hv4, mO hv5, mO hv6, mO hv7, mO hv8, mO hv9, mO hv10, mO hv11, mO hv12, mO hv13, mO hv14, mO hv15⟩, hbW⟩
     ·intro L a' W' hI hLj hE K' hK
      obtain ⟨V, rfl, ⟨hv0, hv1, hv2, hv3, hv4, hv5, hv6, hv7, hv8, hv9, hv10, hv11, hv12, hv13, hv14, hv15⟩, hbW⟩ := hI
      have ev1 := hv1 (hE ⟨1, .data⟩ (by simp) rfl)
      rw [ev1]
      go_simp
      exact hK.out _ _ ⟨fun m9 => if m9 = 2 then .pointer (some ⟨(entOf x).1, 0, none⟩) else V m9, (by simp [Act.put, ev1]), ⟨mO hv0, mO hv1, fun _ => rfl, mO hv3, mO hv4, mO hv5, mO hv6, mO hv7, mO hv8, mO hv9, mO hv10, mO hv11, mO hv12, mO hv13, mO hv14, mO hv15⟩, hbW⟩
     ·intro L a' W' hI hLj hE K' hK
      obtain ⟨V, rfl, ⟨hv0, hv1, hv2, hv3, hv4, hv5, hv6, hv7, hv8, hv9, hv10, hv11, hv12, hv13, hv14, hv15⟩, hbW⟩ := hI
      have ev2 := hv2 (hE ⟨2, .data⟩ (by simp) rfl)
      have bxW := (unhide HBx).bel hbW (unhide HBx).lt
      have k0 : W'.cell? ⟨(entOf x).1, 0, none⟩ = some (.int .i64 yky) := Joins.cell_of_block bxW 0
      rw [ev2]
      go_simp
      exact hK.out _ _ ⟨fun m9 => if m9 = 3 then .int .i64 yky else V m9, (by simp [Act.put, ev2]), ⟨mO hv0, mO hv1, mO hv2, fun _ => rfl, mO hv4, mO hv5, mO hv6, mO hv7, mO hv8, mO hv9, mO hv10, mO hv11, mO hv12, mO hv13, mO hv14, mO hv15⟩, hbW⟩
     ·intro L a' W' hI hLj hE K' hK
      obtain ⟨V, rfl, ⟨hv0, hv1, hv2, hv3, hv4, hv5, hv6, hv7, hv8, hv9, hv10, hv11, hv12, hv13, hv14, hv15⟩, hbW⟩ := hI
      go_simp
      exact hK.out _ _ ⟨fun m9 => if m9 = 4 then .pointer (some ⟨w.heap.size, 0, none⟩) else V m9, rfl, ⟨mO hv0, mO hv1, mO hv2, mO hv3, fun _ => rfl, mO hv5, mO hv6, mO hv7, mO hv8, mO hv9, mO hv10, mO hv11, mO hv12, mO hv13, mO hv14, mO hv15⟩, hbW⟩
     ·intro L a' W' hI hLj hE K' hK
      obtain ⟨V, rfl, ⟨hv0, hv1, hv2, hv3, hv4, hv5, hv6, hv7, hv8, hv9, hv10, hv11, hv12, hv13, hv14, hv15⟩, hbW⟩ := hI
      have ev4 := hv4 (hE ⟨4, .data⟩ (by simp) rfl)
      have bAW := (hbW.block (w.heap.size) (Array.getElem?_eq_some_iff.1 bA).1).trans bA
      have k0 : W'.cell? ⟨w.heap.size, 0, none⟩ = some (.int .i64 ky) := Joins.cell_of_block bAW 0
      rw [ev4]
      go_simp
      exact hK.out _ _ ⟨fun m9 => if m9 = 5 then .int .i64 ky else V m9, (by simp [Act.put, ev4]), ⟨mO hv0, mO hv1, mO hv2, mO hv3, mO hv4, fun _ => rfl, mO hv6, mO hv7, mO hv8, mO hv9, mO hv10, mO hv11, mO hv12, mO hv13, mO hv14, mO hv15⟩, hbW⟩
     ·intro L a' W' hI hLj hE K' hK
      obtain ⟨V, rfl, ⟨hv0, hv1, hv2, hv3, hv4, hv5, hv6, hv7, hv8, hv9, hv10, hv11, hv12, hv13, hv14, hv15⟩, hbW⟩ := hI
      have ev3 := hv3 (hE ⟨3, .data⟩ (by simp) rfl)
      have ev5 := hv5 (hE ⟨5, .data⟩ (by simp) rfl)
      rw [ev3]
      rw [ev5]
      go_simp
      exact hK.out _ _ ⟨fun m9 => if m9 = 6 then .bool true else V m9, (by simp [Act.put, ev3, ev5]), ⟨mO hv0, mO hv1, mO hv2, mO hv3, mO hv4, mO hv5, fun _ => rfl, mO hv7, mO hv8, mO hv9, mO hv10, mO hv11, mO hv12, mO hv13, mO hv14, mO hv15⟩, hbW⟩
     ·intro L a' W' hI hLj hE K' hK
      obtain ⟨V, rfl, ⟨hv0, hv1, hv2, hv3, hv4, hv5, hv6, hv7, hv8, hv9, hv10, hv11, hv12, hv13, hv14, hv15⟩, hbW⟩ := hI
      have ev6 := hv6 (hE ⟨6, .data⟩ (by simp) rfl)
      rw [ev6]
      go_simp
      exact hK.out _ _ ⟨fun m9 => if m9 = 7 then .bool true else V m9, (by simp [Act.put, ev6]), ⟨mO hv0, mO hv1, mO hv2, mO hv3, mO hv4, mO hv5, mO hv6, fun _ => rfl, mO hv8, mO hv9, mO hv10, mO hv11, mO hv12, mO hv13, mO hv14, mO hv15⟩, hbW⟩
     ·intro L a' W' hI hLj hE K' hK
      obtain ⟨V, rfl, ⟨hv0, hv1, hv2, hv3, hv4, hv5, hv6, hv7, hv8, hv9, hv10, hv11, hv12, hv13, hv14, hv15⟩, hbW⟩ := hI
      have ev7 := hv7 (hE ⟨7, .guard⟩ (by simp) rfl)
      rw [ev7]
      rw [show Region.wanted _ _ = true from rfl]
      go_simp
      exact hK.out _ _ ⟨fun m9 => if m9 = 8 then .pointer (some ⟨(entOf x).1, 0, none⟩) else V m9, (by simp [Act.put, ev7]), ⟨mO hv0, mO hv1, mO hv2, mO hv3, mO hv4, mO hv5, mO hv6, mO hv7, fun _ => rfl, mO hv9, mO hv10, mO hv11, mO hv12, mO hv13, mO hv14, mO hv15⟩, hbW⟩
     ·intro L a' W' hI hLj hE K' hK
      obtain ⟨V, rfl, ⟨hv0, hv1, hv2, hv3, hv4, hv5, hv6, hv7, hv8, hv9, hv10, hv11, hv12, hv13, hv14, hv15⟩, hbW⟩ := hI
      have ev8 := hv8 (hE ⟨8, .data⟩ (by simp) rfl)
      have ev7 := hv7 (hE ⟨7, .guard⟩ (by simp) rfl)
      rw [ev8]
      rw [ev7]
      rw [show Region.wanted _ _ = true from rfl]
      go_simp
      exact hK.out _ _ ⟨fun m9 => if m9 = 9 then .pointer (some ⟨(entOf x).1, 0, none⟩) else V m9, (by simp [Act.put, ev8, ev7]), ⟨mO hv0, mO hv1, mO hv2, mO hv3, mO hv4, mO hv5, mO hv6, mO hv7, mO hv8, fun _ => rfl, mO hv10, mO hv11, mO hv12, mO hv13, mO hv14, mO hv15⟩, hbW⟩
     ·intro L a' W' hI hLj hE K' hK
      obtain ⟨V, rfl, ⟨hv0, hv1, hv2, hv3, hv4, hv5, hv6, hv7, hv8, hv9, hv10, hv11, hv12, hv13, hv14, hv15⟩, hbW⟩ := hI
      have ev9 := hv9 (hE ⟨9, .data⟩ (by simp) rfl)
      have ev7 := hv7 (hE ⟨7, .guard⟩ (by simp) rfl)
      rw [ev9]
      rw [ev7]
      rw [show Region.wanted _ _ = true from rfl]
      go_simp
      exact hK.out _ _ ⟨fun m9 => if m9 = 10 then .pointer (some ⟨(entOf x).1, 1, none⟩) else V m9, (by simp [Act.put, ev9, ev7]), ⟨mO hv0, mO hv1, mO hv2, mO hv3, mO hv4, mO hv5, mO hv6, mO hv7, mO hv8, mO hv9, fun _ => rfl, mO hv11, mO hv12, mO hv13, mO hv14, mO hv15⟩, hbW⟩
     ·intro L a' W' hI hLj hE K' hK
      obtain ⟨V, rfl, ⟨hv0, hv1, hv2, hv3, hv4, hv5, hv6, hv7, hv8, hv9, hv10, hv11, hv12, hv13, hv14, hv15⟩, hbW⟩ := hI
      have ev10 := hv10 (hE ⟨10, .data⟩ (by simp) rfl)
      have ev7 := hv7 (hE ⟨7, .guard⟩ (by simp) rfl)
      have bxW := (unhide HBx).bel hbW (unhide HBx).lt
      have k1 : W'.cell? ⟨(entOf x).1, 1, none⟩ = some (.int .i64 yst) := Joins.cell_of_block bxW 1
      have k2 : W'.cell? ⟨(entOf x).1, 2, none⟩ = some (.int .i64 yen) := Joins.cell_of_block bxW 2
      rw [ev10]
      rw [ev7]
      rw [show Region.wanted _ _ = true from rfl]
      go_simp
      exact hK.out _ _ ⟨fun m9 => if m9 = 11 then .agg #[.int .i64 yst, .int .i64 yen] else V m9, (by simp [Act.put, ev10, ev7]), ⟨mO hv0, mO hv1, mO hv2, mO hv3, mO hv4, mO hv5, mO hv6, mO hv7, mO hv8, mO hv9, mO hv10, fun _ => rfl, mO hv12, mO hv13, mO hv14, mO hv15⟩, hbW⟩
     ·intro L a' W' hI hLj hE K' hK
      obtain ⟨V, rfl, ⟨hv0, hv1, hv2, hv3, hv4, hv5, hv6, hv7, hv8, hv9, hv10, hv11, hv12, hv13, hv14, hv15⟩, hbW⟩ := hI
      have ev7 := hv7 (hE ⟨7, .guard⟩ (by simp) rfl)
      rw [ev7]
      rw [show Region.wanted _ _ = true from rfl]
      go_simp
      exact hK.out _ _ ⟨fun m9 => if m9 = 12 then .pointer (some ⟨w.heap.size, 1, none⟩) else V m9, (by simp [Act.put, ev7]), ⟨mO hv0, mO hv1, mO hv2, mO hv3, mO hv4, mO hv5, mO hv6, mO hv7, mO hv8, mO hv9, mO hv10, mO hv11, fun _ => rfl, mO hv13, mO hv14, mO hv15⟩, hbW⟩
     ·intro L a' W' hI hLj hE K' hK
      obtain ⟨V, rfl, ⟨hv0, hv1, hv2, hv3, hv4, hv5, hv6, hv7, hv8, hv9, hv10, hv11, hv12, hv13, hv14, hv15⟩, hbW⟩ := hI
      have ev12 := hv12 (hE ⟨12, .data⟩ (by simp) rfl)
      have ev7 := hv7 (hE ⟨7, .guard⟩ (by simp) rfl)
      have bAW := (hbW.block (w.heap.size) (Array.getElem?_eq_some_iff.1 bA).1).trans bA
      have k1 : W'.cell? ⟨w.heap.size, 1, none⟩ = some (.int .i64 st) := Joins.cell_of_block bAW 1
      have k2 : W'.cell? ⟨w.heap.size, 2, none⟩ = some (.int .i64 en) := Joins.cell_of_block bAW 2
      rw [ev12]
      rw [ev7]
      rw [show Region.wanted _ _ = true from rfl]
      go_simp
      exact hK.out _ _ ⟨fun m9 => if m9 = 13 then .agg #[.int .i64 st, .int .i64 en] else V m9, (by simp [Act.put, ev12, ev7]), ⟨mO hv0, mO hv1, mO hv2, mO hv3, mO hv4, mO hv5, mO hv6, mO hv7, mO hv8, mO hv9, mO hv10, mO hv11, mO hv12, fun _ => rfl, mO hv14, mO hv15⟩, hbW⟩
     ·intro L a' W' hI hLj hE K' hK
      obtain ⟨V, rfl, ⟨hv0, hv1, hv2, hv3, hv4, hv5, hv6, hv7, hv8, hv9, hv10, hv11, hv12, hv13, hv14, hv15⟩, hbW⟩ := hI
      have ev11 := hv11 (hE ⟨11, .data⟩ (by simp) rfl)
      have ev13 := hv13 (hE ⟨13, .data⟩ (by simp) rfl)
      have ev7 := hv7 (hE ⟨7, .guard⟩ (by simp) rfl)
      rw [ev11]
      rw [ev13]
      rw [ev7]
      rw [show Region.wanted _ _ = true from rfl]
      go_simp
      (first | (gi_at_call 73) | (refine ⟨trivial, ?_⟩; gi_at_call 73) | (refine ⟨trivial, fun _ => (by omega), ?_⟩; gi_at_call 73))
      refine (callsIn_wide.2 (touchesO_is _ HT)).mono ?_
      rintro e9 Wt ⟨rfl, hbt⟩
      (try gi_wp2_with fail)
      exact hK.out _ _ ⟨fun m9 => if m9 = 14 then .bool true else V m9, (by simp [Act.put, ev11, ev13, ev7]), ⟨mO hv0, mO hv1, mO hv2, mO hv3, mO hv4, mO hv5, mO hv6, mO hv7, mO hv8, mO hv9, mO hv10, mO hv11, mO hv12, mO hv13, fun _ => rfl, mO hv15⟩, bel_trans hbW hbt⟩
     ·intro L a' W' hI hLj hE K' hK
      obtain ⟨V, rfl, ⟨hv0, hv1, hv2, hv3, hv4, hv5, hv6, hv7, hv8, hv9, hv10, hv11, hv12, hv13, hv14, hv15⟩, hbW⟩ := hI
      have ev7 := hv7 (hE ⟨7, .data⟩ (by simp) rfl)
      have ev14 := hv14 (hE ⟨14, .data⟩ (by simp) rfl)
      rw [ev7]
      rw [ev14]
      go_simp
      exact hK.out _ _ ⟨fun m9 => if m9 = 15 then .bool true else V m9, (by simp [Act.put, ev7, ev14]), ⟨mO hv0, mO hv1, mO hv2, mO hv3, mO hv4, mO hv5, mO hv6, mO hv7, mO hv8, mO hv9, mO hv10, mO hv11, mO hv12, mO hv13, mO hv14, fun _ => rfl⟩, hbW⟩
    intro L a' W' hI hall
    obtain ⟨V, rfl, ⟨hv0, hv1, hv2, hv3, hv4, hv5, hv6, hv7, hv8, hv9, hv10, hv11, hv12, hv13, hv14, hv15⟩, hbW⟩ := hI
    have ev0 := hv0 (hall 0 (by decide))
    have ev1 := hv1 (hall 1 (by decide))
    have ev2 := hv2 (hall 2 (by decide))
    have ev3 := hv3 (hall 3 (by decide))
    have ev4 := hv4 (hall 4 (by decide))
    have ev5 := hv5 (hall 5 (by decide))
    have ev6 := hv6 (hall 6 (by decide))
    have ev7 := hv7 (hall 7 (by decide))
    have ev8 := hv8 (hall 8 (by decide))
    have ev9 := hv9 (hall 9 (by decide))
    have ev10 := hv10 (hall 10 (by decide))
    have ev11 := hv11 (hall 11 (by decide))
    have ev12 := hv12 (hall 12 (by decide))
    have ev13 := hv13 (hall 13 (by decide))
    have ev14 := hv14 (hall 14 (by decide))
    have ev15 := hv15 (hall 15 (by decide))
    rw [ev0, ev1, ev2, ev3, ev4, ev5, ev6, ev7, ev8, ev9, ev10, ev11, ev12, ev13, ev14, ev15]
    clear ev0 hv0 ev1 hv1 ev2 hv2 ev3 hv3 ev4 hv4 ev5 hv5 ev6 hv6 ev7 hv7 ev8 hv8 ev9 hv9 ev10 hv10 ev11 hv11 ev12 hv12 ev13 hv13 ev14 hv14 ev15 hv15 hall
    have bS1 := (hbW.block (w.heap.size + 1) (Array.getElem?_eq_some_iff.1 (unhide HS)).1).trans (unhide HS)
    have bA1 := (hbW.block (w.heap.size) (Array.getElem?_eq_some_iff.1 (unhide HA)).1).trans (unhide HA)
    have HR1 : Hid (OwnPt W' w.heap.size rv gs) := hide (own_row (unhide HRow) (grown_of0 hbW) (fun _ e9 => by cases e9))
    have cv0 : W'.cell? ⟨w.heap.size + 1, 0, none⟩ = some rv := Joins.cell_of_block bS1 0
    have zS1 : w.heap.size + 1 < W'.heap.size := (Array.getElem?_eq_some_iff.1 bS1).1
    have HS1 := hide bS1
    have HA1 := hide bA1
    have hB1 : Below w.heap.size w W' := bel_trans hB hbW
    have zB1 := hB1.size
    clear bS1 bA1 bA
    gi_wp2_with (gi_at_builtin; go_loud (refine wpListIn_append_own _ rfl _ _ 127 rfl w.heap.size 96 i0 _ 1 8 Tryz.underlying127 hi hz0' hz1' hz2' rfl (by decide) rv gs.length (gs.map ptG) rfl (show (W'.alloc (.cells #[.pointer (some ⟨(entOf x).1, 0, none⟩)] 96)).ownsRow w.heap.size 96 1 rv gs.length (gs.map ptG) from World.ownsRow.alloc (unhide HR1) _) ⟨W'.heap.size, 0, none⟩ 1 1 [.pointer (some ⟨(entOf x).1, 0, none⟩)] rfl rfl (cells_newPt W' (.pointer (some ⟨(entOf x).1, 0, none⟩)) 96) (by simp [Value.oneCell']) (by unfold maxLen; omega) (by omega) (by simp; omega) ?_; intro v' w2 hown' hgrow _; obtain ⟨g', cap', rfl⟩ := ownsRow_succ hown'; have hn1 : rv.ownBlock ≠ some (w.heap.size + 1) := own_ne_ty (unhide HR1) (unhide HS1) (by decide); have hn2 : rv.ownBlock ≠ some (w.heap.size) := own_ne_ty (unhide HR1) (unhide HA1) (by decide); have bS2 := (hgrow.block (w.heap.size + 1) (by simp; omega) (fun e9 => hn1 e9.symm)).trans ((Below.heap_alloc _ _ _ zS1).trans (unhide HS1)); have bA2 := (hgrow.block (w.heap.size) (by simp; omega) (fun e9 => hn2 e9.symm)).trans ((Below.heap_alloc _ _ _ (by omega)).trans (unhide HA1)); have cv2 : w2.cell? ⟨w.heap.size + 1, 0, none⟩ = some rv := Joins.cell_of_block bS2 0; have fv2 : w2.frozen? ⟨w.heap.size + 1, 0, none⟩ = false := (by simp [World.frozen?, bS2]); have HO2 := hide hown'; have HG2 := hide hgrow; have HS2 := hide bS2; have HA2 := hide bA2; clear hown' hgrow bS2 bA2))
    have hkp : KpM W (w2.setCell ⟨w.heap.size + 1, 0, none⟩ (.slice (some ⟨g', 0, none⟩) (gs.length + 1) cap')) := (((KpM.bel hbW).trans (KpM.bel (bel_one W' _))).trans (KpM.grown (unhide HG2) (fun r9 e9 => own_cellsT (World.ownsRow.alloc (unhide HR1) _) r9 e9))).trans (KpM.set _ (unhide HS2) (by decide))
    have hb2 : Below w.heap.size w w2 := (bel_alloc hB1 _).grown (unhide HG2) (by simp; omega) (fun k9 e9 => ownOr_geX (unhide HR1) k9 e9)
    refine ⟨hkp.from _, hkp.kpo, .slice (some ⟨g', 0, none⟩) (gs.length + 1) cap', Joins.block_setCell (unhide HS2) _, ?_, by rw [List.length_append]; simp; omega, (Below.heap_setCell _ _ _ _ (by show _ ≠ w.heap.size + 1; omega)).trans (unhide HA2), bel_set hb2 (by show w.heap.size ≤ w.heap.size + 1; omega) _⟩
    have h9 := own_setX (u := .slice (some ⟨g', 0, none⟩) (gs.length + 1) cap') (p := ⟨w.heap.size + 1, 0, none⟩) (unhide HO2) (own_ne_ty (unhide HO2) (unhide HS2) (by decide))
    rw [List.map_append, List.map_cons, List.map_nil, flt_sn, if_pos (unhide Htou), List.map_append, unhide Hgs]
    exact ownPt_snoc h9
   | false =>
    have HI1 : Hid (∀ W1, Below W.heap.size W W1 → MetI w nn ky st en (es := es) (pre ++ [x]) W1) := hide (fun W1 hb1 => ⟨rv, (hb1.block (w.heap.size + 1) (Array.getElem?_eq_some_iff.1 hS).1).trans hS, by
     rw [List.map_append, List.map_cons, List.map_nil, flt_sn, if_neg (by rw [unhide Htou]; simp), List.append_nil]
     exact own_row hrow (grown_of0 hb1) (fun _ e9 => by cases e9), by rw [List.length_append]; simp; omega, (hb1.block (w.heap.size) (Array.getElem?_eq_some_iff.1 bA).1).trans bA, bel_trans hB hb1⟩)
    clear hrow hS hm hown hS0 hA0
    unfold actM
    gi_wp2
    refine wpIn_region_inv (by kernel_rfl) (by kernel_rfl) (fun L a' W' => ∃ V : Nat → Value, a' = ({ tmps := #[.pointer (some ⟨Bo, 0, none⟩), .agg #[.int .i64 ky, .int .i64 st, .int .i64 en], undef, .pointer (some ⟨w.heap.size, 0, none⟩), .slice none 0 0, undef, undef, .pointer (some ⟨w.heap.size + 1, 0, none⟩), undef, .pointer (some ⟨(entOf x).1, 0, none⟩), .pointer (some ⟨Bo, 0, none⟩), .pointer (some ⟨Bo, 0, none⟩), .pointer (some ⟨Bo, 0, none⟩), .pointer (some ⟨Bo, 2, none⟩), .int .i64 3, .bool false, undef, undef, undef, undef, undef, undef, undef, undef, undef, undef, undef, undef, .pointer (some ⟨Bo, 0, none⟩), .pointer (some ⟨Bo, 0, none⟩), .pointer (some ⟨Bo, 11, none⟩), .map (some mb), (.func (.func 84) #[] #[.pointer (some ⟨w.heap.size + 1 + 1, 0, none⟩)]), .agg #[.int .i64 x.1.1.1, .int .i64 x.1.1.2.1, .int .i64 x.1.1.2.2], .pointer (some ⟨(entOf x).1, 0, none⟩), V 0, V 1, V 2, V 3, V 4, V 5, V 6, V 7, V 8, V 9, V 10, V 11, V 12, V 13, V 14, V 15, undef, undef, undef, undef, undef], defers := [] } : Act) ∧ ((L 0 = true → V 0 = .pointer (some ⟨(entOf x).1, 0, none⟩)) ∧ (L 1 = true → V 1 = .pointer (some ⟨(entOf x).1, 0, none⟩)) ∧ (L 2 = true → V 2 = .pointer (some ⟨(entOf x).1, 0, none⟩)) ∧ (L 3 = true → V 3 = .int .i64 yky) ∧ (L 4 = true → V 4 = .pointer (some ⟨w.heap.size, 0, none⟩)) ∧ (L 5 = true → V 5 = .int .i64 ky) ∧ (L 6 = true → V 6 = .bool true) ∧ (L 7 = true → V 7 = .bool true) ∧ (L 8 = true → V 8 = .pointer (some ⟨(entOf x).1, 0, none⟩)) ∧ (L 9 = true → V 9 = .pointer (some ⟨(entOf x).1, 0, none⟩)) ∧ (L 10 = true → V 10 = .pointer (some ⟨(entOf x).1, 1, none⟩)) ∧ (L 11 = true → V 11 = .agg #[.int .i64 yst, .int .i64 yen]) ∧ (L 12 = true → V 12 = .pointer (some ⟨w.heap.size, 1, none⟩)) ∧ (L 13 = true → V 13 = .agg #[.int .i64 st, .int .i64 en]) ∧ (L 14 = true → V 14 = .bool false) ∧ (L 15 = true → V 15 = .bool false)) ∧ Below W.heap.size W W') ?_ ?_ ?_
    ·exact ⟨fun _ => undef, rfl, ⟨(fun h9 => (by cases h9)), (fun h9 => (by cases h9)), (fun h9 => (by cases h9)), (fun h9 => (by cases h9)), (fun h9 => (by cases h9)), (fun h9 => (by cases h9)), (fun h9 => (by cases h9)), (fun h9 => (by cases h9)), (fun h9 => (by cases h9)), (fun h9 => (by cases h9)), (fun h9 => (by cases h9)), (fun h9 => (by cases h9)), (fun h9 => (by cases h9)), (fun h9 => (by cases h9)), (fun h9 => (by cases h9)), (fun h9 => (by cases h9))⟩, bel_drew (Below.refl _ _)⟩
    ·refine ⟨?_, ?_, ?_, ?_, ?_, ?_, ?_, ?_, ?_, ?_, ?_, ?_, ?_, ?_, ?_, ?_, trivial⟩
     ·intro L a' W' hI hLj hE K' hK
      obtain ⟨V, rfl, ⟨hv0, hv1, hv2, hv3, hv4, hv5, hv6, hv7, hv8, hv9, hv10, hv11, hv12, hv13, hv14, hv15⟩, hbW⟩ := hI
      go_simp
      exact hK.out _ _ ⟨fun m9 => if m9 = 0 then .pointer (some ⟨(entOf x).1, 0, none⟩) else V m9, rfl, ⟨fun _ => rfl, mO hv1, mO hv2, mO hv3, mO hv4, mO hv5, mO hv6, mO hv7, mO hv8, mO hv9, mO hv10, mO hv11, mO hv12, mO hv13, mO hv14, mO hv15⟩, hbW⟩
     ·intro L a' W' hI hLj hE K' hK
      obtain ⟨V, rfl, ⟨hv0, hv1, hv2, hv3, hv4, hv5, hv6, hv7, hv8, hv9, hv10, hv11, hv12, hv13, hv14, hv15⟩, hbW⟩ := hI
      have ev0 := hv0 (hE ⟨0, .data⟩ (by simp) rfl)
      rw [ev0]
      go_simp
      exact hK.out _ _ ⟨fun m9 => if m9 = 1 then .pointer (some ⟨(entOf x).1, 0, none⟩) else V m9, (by simp [Act.put, ev0]), ⟨mO hv0, fun _ => rfl, mO hv2, mO hv3, mO hv4, mO hv5, mO hv6, mO hv7, mO hv8, mO hv9, mO hv10, mO hv11, mO hv12, mO hv13, mO hv14, mO hv15⟩, hbW⟩
     ·intro L a' W' hI hLj hE K' hK
      obtain ⟨V, rfl, ⟨hv0, hv1, hv2, hv3, hv4, hv5, hv6, hv7, hv8, hv9, hv10, hv11, hv12, hv13, hv14, hv15⟩, hbW⟩ := hI
      have ev1 := hv1 (hE ⟨1, .data⟩ (by simp) rfl)
      rw [ev1]
      go_simp
      exact hK.out _ _ ⟨fun m9 => if m9 = 2 then .pointer (some ⟨(entOf x).1, 0, none⟩) else V m9, (by simp [Act.put, ev1]), ⟨mO hv0, mO hv1, fun _ => rfl, mO hv3, mO hv4, mO hv5, mO hv6, mO hv7, mO hv8, mO hv9, mO hv10, mO hv11, mO hv12, mO hv13, mO hv14, mO hv15⟩, hbW⟩
     ·intro L a' W' hI hLj hE K' hK
      obtain ⟨V, rfl, ⟨hv0, hv1, hv2, hv3, hv4, hv5, hv6, hv7, hv8, hv9, hv10, hv11, hv12, hv13, hv14, hv15⟩, hbW⟩ := hI
      have ev2 := hv2 (hE ⟨2, .data⟩ (by simp) rfl)
      have bxW := (unhide HBx).bel hbW (unhide HBx).lt
      have k0 : W'.cell? ⟨(entOf x).1, 0, none⟩ = some (.int .i64 yky) := Joins.cell_of_block bxW 0
      rw [ev2]
      go_simp
      exact hK.out _ _ ⟨fun m9 => if m9 = 3 then .int .i64 yky else V m9, (by simp [Act.put, ev2]), ⟨mO hv0, mO hv1, mO hv2, fun _ => rfl, mO hv4, mO hv5, mO hv6, mO hv7, mO hv8, mO hv9, mO hv10, mO hv11, mO hv12, mO hv13, mO hv14, mO hv15⟩, hbW⟩
     ·intro L a' W' hI hLj hE K' hK
      obtain ⟨V, rfl, ⟨hv0, hv1, hv2, hv3, hv4, hv5, hv6, hv7, hv8, hv9, hv10, hv11, hv12, hv13, hv14, hv15⟩, hbW⟩ := hI
      go_simp
      exact hK.out _ _ ⟨fun m9 => if m9 = 4 then .pointer (some ⟨w.heap.size, 0, none⟩) else V m9, rfl, ⟨mO hv0, mO hv1, mO hv2, mO hv3, fun _ => rfl, mO hv5, mO hv6, mO hv7, mO hv8, mO hv9, mO hv10, mO hv11, mO hv12, mO hv13, mO hv14, mO hv15⟩, hbW⟩
     ·intro L a' W' hI hLj hE K' hK
      obtain ⟨V, rfl, ⟨hv0, hv1, hv2, hv3, hv4, hv5, hv6, hv7, hv8, hv9, hv10, hv11, hv12, hv13, hv14, hv15⟩, hbW⟩ := hI
      have ev4 := hv4 (hE ⟨4, .data⟩ (by simp) rfl)
      have bAW := (hbW.block (w.heap.size) (Array.getElem?_eq_some_iff.1 bA).1).trans bA
      have k0 : W'.cell? ⟨w.heap.size, 0, none⟩ = some (.int .i64 ky) := Joins.cell_of_block bAW 0
      rw [ev4]
      go_simp
      exact hK.out _ _ ⟨fun m9 => if m9 = 5 then .int .i64 ky else V m9, (by simp [Act.put, ev4]), ⟨mO hv0, mO hv1, mO hv2, mO hv3, mO hv4, fun _ => rfl, mO hv6, mO hv7, mO hv8, mO hv9, mO hv10, mO hv11, mO hv12, mO hv13, mO hv14, mO hv15⟩, hbW⟩
     ·intro L a' W' hI hLj hE K' hK
      obtain ⟨V, rfl, ⟨hv0, hv1, hv2, hv3, hv4, hv5, hv6, hv7, hv8, hv9, hv10, hv11, hv12, hv13, hv14, hv15⟩, hbW⟩ := hI
      have ev3 := hv3 (hE ⟨3, .data⟩ (by simp) rfl)
      have ev5 := hv5 (hE ⟨5, .data⟩ (by simp) rfl)
      rw [ev3]
      rw [ev5]
      go_simp
      exact hK.out _ _ ⟨fun m9 => if m9 = 6 then .bool true else V m9, (by simp [Act.put, ev3, ev5]), ⟨mO hv0, mO hv1, mO hv2, mO hv3, mO hv4, mO hv5, fun _ => rfl, mO hv7, mO hv8, mO hv9, mO hv10, mO hv11, mO hv12, mO hv13, mO hv14, mO hv15⟩, hbW⟩
     ·intro L a' W' hI hLj hE K' hK
      obtain ⟨V, rfl, ⟨hv0, hv1, hv2, hv3, hv4, hv5, hv6, hv7, hv8, hv9, hv10, hv11, hv12, hv13, hv14, hv15⟩, hbW⟩ := hI
      have ev6 := hv6 (hE ⟨6, .data⟩ (by simp) rfl)
      rw [ev6]
      go_simp
      exact hK.out _ _ ⟨fun m9 => if m9 = 7 then .bool true else V m9, (by simp [Act.put, ev6]), ⟨mO hv0, mO hv1, mO hv2, mO hv3, mO hv4, mO hv5, mO hv6, fun _ => rfl, mO hv8, mO hv9, mO hv10, mO hv11, mO hv12, mO hv13, mO hv14, mO hv15⟩, hbW⟩
     ·intro L a' W' hI hLj hE K' hK
      obtain ⟨V, rfl, ⟨hv0, hv1, hv2, hv3, hv4, hv5, hv6, hv7, hv8, hv9, hv10, hv11, hv12, hv13, hv14, hv15⟩, hbW⟩ := hI
      have ev7 := hv7 (hE ⟨7, .guard⟩ (by simp) rfl)
      rw [ev7]
      rw [show Region.wanted _ _ = true from rfl]
      go_simp
      exact hK.out _ _ ⟨fun m9 => if m9 = 8 then .pointer (some ⟨(entOf x).1, 0, none⟩) else V m9, (by simp [Act.put, ev7]), ⟨mO hv0, mO hv1, mO hv2, mO hv3, mO hv4, mO hv5, mO hv6, mO hv7, fun _ => rfl, mO hv9, mO hv10, mO hv11, mO hv12, mO hv13, mO hv14, mO hv15⟩, hbW⟩
     ·intro L a' W' hI hLj hE K' hK
      obtain ⟨V, rfl, ⟨hv0, hv1, hv2, hv3, hv4, hv5, hv6, hv7, hv8, hv9, hv10, hv11, hv12, hv13, hv14, hv15⟩, hbW⟩ := hI
      have ev8 := hv8 (hE ⟨8, .data⟩ (by simp) rfl)
      have ev7 := hv7 (hE ⟨7, .guard⟩ (by simp) rfl)
      rw [ev8]
      rw [ev7]
      rw [show Region.wanted _ _ = true from rfl]
      go_simp
      exact hK.out _ _ ⟨fun m9 => if m9 = 9 then .pointer (some ⟨(entOf x).1, 0, none⟩) else V m9, (by simp [Act.put, ev8, ev7]), ⟨mO hv0, mO hv1, mO hv2, mO hv3, mO hv4, mO hv5, mO hv6, mO hv7, mO hv8, fun _ => rfl, mO hv10, mO hv11, mO hv12, mO hv13, mO hv14, mO hv15⟩, hbW⟩
     ·intro L a' W' hI hLj hE K' hK
      obtain ⟨V, rfl, ⟨hv0, hv1, hv2, hv3, hv4, hv5, hv6, hv7, hv8, hv9, hv10, hv11, hv12, hv13, hv14, hv15⟩, hbW⟩ := hI
      have ev9 := hv9 (hE ⟨9, .data⟩ (by simp) rfl)
      have ev7 := hv7 (hE ⟨7, .guard⟩ (by simp) rfl)
      rw [ev9]
      rw [ev7]
      rw [show Region.wanted _ _ = true from rfl]
      go_simp
      exact hK.out _ _ ⟨fun m9 => if m9 = 10 then .pointer (some ⟨(entOf x).1, 1, none⟩) else V m9, (by simp [Act.put, ev9, ev7]), ⟨mO hv0, mO hv1, mO hv2, mO hv3, mO hv4, mO hv5, mO hv6, mO hv7, mO hv8, mO hv9, fun _ => rfl, mO hv11, mO hv12, mO hv13, mO hv14, mO hv15⟩, hbW⟩
     ·intro L a' W' hI hLj hE K' hK
      obtain ⟨V, rfl, ⟨hv0, hv1, hv2, hv3, hv4, hv5, hv6, hv7, hv8, hv9, hv10, hv11, hv12, hv13, hv14, hv15⟩, hbW⟩ := hI
      have ev10 := hv10 (hE ⟨10, .data⟩ (by simp) rfl)
      have ev7 := hv7 (hE ⟨7, .guard⟩ (by simp) rfl)
      have bxW := (unhide HBx).bel hbW (unhide HBx).lt
      have k1 : W'.cell? ⟨(entOf x).1, 1, none⟩ = some (.int .i64 yst) := Joins.cell_of_block bxW 1
      have k2 : W'.cell? ⟨(entOf x).1, 2, none⟩ = some (.int .i64 yen) := Joins.cell_of_block bxW 2
      rw [ev10]
      rw [ev7]
      rw [show Region.wanted _ _ = true from rfl]
      go_simp
      exact hK.out _ _ ⟨fun m9 => if m9 = 11 then .agg #[.int .i64 yst, .int .i64 yen] else V m9, (by simp [Act.put, ev10, ev7]), ⟨mO hv0, mO hv1, mO hv2, mO hv3, mO hv4, mO hv5, mO hv6, mO hv7, mO hv8, mO hv9, mO hv10, fun _ => rfl, mO hv12, mO hv13, mO hv14, mO hv15⟩, hbW⟩
     ·intro L a' W' hI hLj hE K' hK
      obtain ⟨V, rfl, ⟨hv0, hv1, hv2, hv3, hv4, hv5, hv6, hv7, hv8, hv9, hv10, hv11, hv12, hv13, hv14, hv15⟩, hbW⟩ := hI
      have ev7 := hv7 (hE ⟨7, .guard⟩ (by simp) rfl)
      rw [ev7]
      rw [show Region.wanted _ _ = true from rfl]
      go_simp
      exact hK.out _ _ ⟨fun m9 => if m9 = 12 then .pointer (some ⟨w.heap.size, 1, none⟩) else V m9, (by simp [Act.put, ev7]), ⟨mO hv0, mO hv1, mO hv2, mO hv3, mO hv4, mO hv5, mO hv6, mO hv7, mO hv8, mO hv9, mO hv10, mO hv11, fun _ => rfl, mO hv13, mO hv14, mO hv15⟩, hbW⟩
     ·intro L a' W' hI hLj hE K' hK
      obtain ⟨V, rfl, ⟨hv0, hv1, hv2, hv3, hv4, hv5, hv6, hv7, hv8, hv9, hv10, hv11, hv12, hv13, hv14, hv15⟩, hbW⟩ := hI
      have ev12 := hv12 (hE ⟨12, .data⟩ (by simp) rfl)
      have ev7 := hv7 (hE ⟨7, .guard⟩ (by simp) rfl)
      have bAW := (hbW.block (w.heap.size) (Array.getElem?_eq_some_iff.1 bA).1).trans bA
      have k1 : W'.cell? ⟨w.heap.size, 1, none⟩ = some (.int .i64 st) := Joins.cell_of_block bAW 1
      have k2 : W'.cell? ⟨w.heap.size, 2, none⟩ = some (.int .i64 en) := Joins.cell_of_block bAW 2
      rw [ev12]
      rw [ev7]
      rw [show Region.wanted _ _ = true from rfl]
      go_simp
      exact hK.out _ _ ⟨fun m9 => if m9 = 13 then .agg #[.int .i64 st, .int .i64 en] else V m9, (by simp [Act.put, ev12, ev7]), ⟨mO hv0, mO hv1, mO hv2, mO hv3, mO hv4, mO hv5, mO hv6, mO hv7, mO hv8, mO hv9, mO hv10, mO hv11, mO hv12, fun _ => rfl, mO hv14, mO hv15⟩, hbW⟩
     ·intro L a' W' hI hLj hE K' hK
      obtain ⟨V, rfl, ⟨hv0, hv1, hv2, hv3, hv4, hv5, hv6, hv7, hv8, hv9, hv10, hv11, hv12, hv13, hv14, hv15⟩, hbW⟩ := hI
      have ev11 := hv11 (hE ⟨11, .data⟩ (by simp) rfl)
      have ev13 := hv13 (hE ⟨13, .data⟩ (by simp) rfl)
      have ev7 := hv7 (hE ⟨7, .guard⟩ (by simp) rfl)
      rw [ev11]
      rw [ev13]
      rw [ev7]
      rw [show Region.wanted _ _ = true from rfl]
      go_simp
      (first | (gi_at_call 73) | (refine ⟨trivial, ?_⟩; gi_at_call 73) | (refine ⟨trivial, fun _ => (by omega), ?_⟩; gi_at_call 73))
      refine (callsIn_wide.2 (touchesO_is _ HT)).mono ?_
      rintro e9 Wt ⟨rfl, hbt⟩
      (try gi_wp2_with fail)
      exact hK.out _ _ ⟨fun m9 => if m9 = 14 then .bool false else V m9, (by simp [Act.put, ev11, ev13, ev7]), ⟨mO hv0, mO hv1, mO hv2, mO hv3, mO hv4, mO hv5, mO hv6, mO hv7, mO hv8, mO hv9, mO hv10, mO hv11, mO hv12, mO hv13, fun _ => rfl, mO hv15⟩, bel_trans hbW hbt⟩
     ·intro L a' W' hI hLj hE K' hK
      obtain ⟨V, rfl, ⟨hv0, hv1, hv2, hv3, hv4, hv5, hv6, hv7, hv8, hv9, hv10, hv11, hv12, hv13, hv14, hv15⟩, hbW⟩ := hI
      have ev7 := hv7 (hE ⟨7, .data⟩ (by simp) rfl)
      have ev14 := hv14 (hE ⟨14, .data⟩ (by simp) rfl)
      rw [ev7]
      rw [ev14]
      go_simp
      exact hK.out _ _ ⟨fun m9 => if m9 = 15 then .bool false else V m9, (by simp [Act.put, ev7, ev14]), ⟨mO hv0, mO hv1, mO hv2, mO hv3, mO hv4, mO hv5, mO hv6, mO hv7, mO hv8, mO hv9, mO hv10, mO hv11, mO hv12, mO hv13, mO hv14, fun _ => rfl⟩, hbW⟩
    intro L a' W' hI hall
    obtain ⟨V, rfl, ⟨hv0, hv1, hv2, hv3, hv4, hv5, hv6, hv7, hv8, hv9, hv10, hv11, hv12, hv13, hv14, hv15⟩, hbW⟩ := hI
    have ev0 := hv0 (hall 0 (by decide))
    have ev1 := hv1 (hall 1 (by decide))
    have ev2 := hv2 (hall 2 (by decide))
    have ev3 := hv3 (hall 3 (by decide))
    have ev4 := hv4 (hall 4 (by decide))
    have ev5 := hv5 (hall 5 (by decide))
    have ev6 := hv6 (hall 6 (by decide))
    have ev7 := hv7 (hall 7 (by decide))
    have ev8 := hv8 (hall 8 (by decide))
    have ev9 := hv9 (hall 9 (by decide))
    have ev10 := hv10 (hall 10 (by decide))
    have ev11 := hv11 (hall 11 (by decide))
    have ev12 := hv12 (hall 12 (by decide))
    have ev13 := hv13 (hall 13 (by decide))
    have ev14 := hv14 (hall 14 (by decide))
    have ev15 := hv15 (hall 15 (by decide))
    rw [ev0, ev1, ev2, ev3, ev4, ev5, ev6, ev7, ev8, ev9, ev10, ev11, ev12, ev13, ev14, ev15]
    clear ev0 hv0 ev1 hv1 ev2 hv2 ev3 hv3 ev4 hv4 ev5 hv5 ev6 hv6 ev7 hv7 ev8 hv8 ev9 hv9 ev10 hv10 ev11 hv11 ev12 hv12 ev13 hv13 ev14 hv14 ev15 hv15 hall
    gi_wp2
    exact ⟨(KpM.bel hbW).from _, (KpM.bel hbW).kpo, unhide HI1 _ hbW⟩
  ·have kb : (yky == ky) = false := by simp [k1]
   have ke : decide (yky = ky) = false := by simp [k1]
   have Htou : Hid (touO ky st en (entOf x).2 = false) := hide (by rw [unhide Hy]; unfold touO; rw [show decide (yky = ky) = false from ke, Bool.false_and])
   clear k1
   have HI1 : Hid (∀ W1, Below W.heap.size W W1 → MetI w nn ky st en (es := es) (pre ++ [x]) W1) := hide (fun W1 hb1 => ⟨rv, (hb1.block (w.heap.size + 1) (Array.getElem?_eq_some_iff.1 hS).1).trans hS, by
    rw [List.map_append, List.map_cons, List.map_nil, flt_sn, if_neg (by rw [unhide Htou]; simp), List.append_nil]
    exact own_row hrow (grown_of0 hb1) (fun _ e9 => by cases e9), by rw [List.length_append]; simp; omega, (hb1.block (w.heap.size) (Array.getElem?_eq_some_iff.1 bA).1).trans bA, bel_trans hB hb1⟩)
   clear hrow hS hm hown hS0 hA0
   unfold actM
   gi_wp2
   refine wpIn_region_inv (by kernel_rfl) (by kernel_rfl) (fun L a' W' => ∃ V : Nat → Value, a' = ({ tmps := #[.pointer (some ⟨Bo, 0, none⟩), .agg #[.int .i64 ky, .int .i64 st, .int .i64 en], undef, .pointer (some ⟨w.heap.size, 0, none⟩), .slice none 0 0, undef, undef, .pointer (some ⟨w.heap.size + 1, 0, none⟩), undef, .pointer (some ⟨(entOf x).1, 0, none⟩), .pointer (some ⟨Bo, 0, none⟩), .pointer (some ⟨Bo, 0, none⟩), .pointer (some ⟨Bo, 0, none⟩), .pointer (some ⟨Bo, 2, none⟩), .int .i64 3, .bool false, undef, undef, undef, undef, undef, undef, undef, undef, undef, undef, undef, undef, .pointer (some ⟨Bo, 0, none⟩), .pointer (some ⟨Bo, 0, none⟩), .pointer (some ⟨Bo, 11, none⟩), .map (some mb), (.func (.func 84) #[] #[.pointer (some ⟨w.heap.size + 1 + 1, 0, none⟩)]), .agg #[.int .i64 x.1.1.1, .int .i64 x.1.1.2.1, .int .i64 x.1.1.2.2], .pointer (some ⟨(entOf x).1, 0, none⟩), V 0, V 1, V 2, V 3, V 4, V 5, V 6, V 7, V 8, V 9, V 10, V 11, V 12, V 13, V 14, V 15, undef, undef, undef, undef, undef], defers := [] } : Act) ∧ ((L 0 = true → V 0 = .pointer (some ⟨(entOf x).1, 0, none⟩)) ∧ (L 1 = true → V 1 = .pointer (some ⟨(entOf x).1, 0, none⟩)) ∧ (L 2 = true → V 2 = .pointer (some ⟨(entOf x).1, 0, none⟩)) ∧ (L 3 = true → V 3 = .int .i64 yky) ∧ (L 4 = true → V 4 = .pointer (some ⟨w.heap.size, 0, none⟩)) ∧ (L 5 = true → V 5 = .int .i64 ky) ∧ (L 6 = true → V 6 = .bool false) ∧ (L 7 = true → V 7 = .bool false) ∧ (L 8 = true → V 8 = undef) ∧ (L 9 = true → V 9 = undef) ∧ (L 10 = true → V 10 = undef) ∧ (L 11 = true → V 11 = undef) ∧ (L 12 = true → V 12 = undef) ∧ (L 13 = true → V 13 = undef) ∧ (L 14 = true → V 14 = undef) ∧ (L 15 = true → V 15 = .bool false)) ∧ Below W.heap.size W W') ?_ ?_ ?_
   ·exact ⟨fun _ => undef, rfl, ⟨(fun h9 => (by cases h9)), (fun h9 => (by cases h9)), (fun h9 => (by cases h9)), (fun h9 => (by cases h9)), (fun h9 => (by cases h9)), (fun h9 => (by cases h9)), (fun h9 => (by cases h9)), (fun h9 => (by cases h9)), (fun h9 => (by cases h9)), (fun h9 => (by cases h9)), (fun h9 => (by cases h9)), (fun h9 => (by cases h9)), (fun h9 => (by cases h9)), (fun h9 => (by cases h9)), (fun h9 => (by cases h9)), (fun h9 => (by cases h9))⟩, bel_drew (Below.refl _ _)⟩
   ·refine ⟨?_, ?_, ?_, ?_, ?_, ?_, ?_, ?_, ?_, ?_, ?_, ?_, ?_, ?_, ?_, ?_, trivial⟩
    ·intro L a' W' hI hLj hE K' hK
     obtain ⟨V, rfl, ⟨hv0, hv1, hv2, hv3, hv4, hv5, hv6, hv7, hv8, hv9, hv10, hv11, hv12, hv13, hv14, hv15⟩, hbW⟩ := hI
     go_simp
     exact hK.out _ _ ⟨fun m9 => if m9 = 0 then .pointer (some ⟨(entOf x).1, 0, none⟩) else V m9, rfl, ⟨fun _ => rfl, mO hv1, mO hv2, mO hv3, mO hv4, mO hv5, mO hv6, mO hv7, mO hv8, mO hv9, mO hv10, mO hv11, mO hv12, mO hv13, mO hv14, mO hv15⟩, hbW⟩
    ·intro L a' W' hI hLj hE K' hK
     obtain ⟨V, rfl, ⟨hv0, hv1, hv2, hv3, hv4, hv5, hv6, hv7, hv8, hv9, hv10, hv11, hv12, hv13, hv14, hv15⟩, hbW⟩ := hI
     have ev0 := hv0 (hE ⟨0, .data⟩ (by simp) rfl)
     rw [ev0]
     go_simp
     exact hK.out _ _ ⟨fun m9 => if m9 = 1 then .pointer (some ⟨(entOf x).1, 0, none⟩) else V m9, (by simp [Act.put, ev0]), ⟨mO hv0, fun _ => rfl, mO hv2, mO hv3, mO hv4, mO hv5, mO hv6, mO hv7, mO hv8, mO hv9, mO hv10, mO hv11, mO hv12, mO hv13, mO hv14, mO hv15⟩, hbW⟩
    ·intro L a' W' hI hLj hE K' hK
     obtain ⟨V, rfl, ⟨hv0, hv1, hv2, hv3, hv4, hv5, hv6, hv7, hv8, hv9, hv10, hv11, hv12, hv13, hv14, hv15⟩, hbW⟩ := hI
     have ev1 := hv1 (hE ⟨1, .data⟩ (by simp) rfl)
     rw [ev1]
     go_simp
     exact hK.out _ _ ⟨fun m9 => if m9 = 2 then .pointer (some ⟨(entOf x).1, 0, none⟩) else V m9, (by simp [Act.put, ev1]), ⟨mO hv0, mO hv1, fun _ => rfl, mO hv3, mO hv4, mO hv5, mO hv6, mO hv7, mO hv8, mO hv9, mO hv10, mO hv11, mO hv12, mO hv13, mO hv14, mO hv15⟩, hbW⟩
    ·intro L a' W' hI hLj hE K' hK
     obtain ⟨V, rfl, ⟨hv0, hv1, hv2, hv3, hv4, hv5, hv6, hv7, hv8, hv9, hv10, hv11, hv12, hv13, hv14, hv15⟩, hbW⟩ := hI
     have ev2 := hv2 (hE ⟨2, .data⟩ (by simp) rfl)
     have bxW := (unhide HBx).bel hbW (unhide HBx).lt
     have k0 : W'.cell? ⟨(entOf x).1, 0, none⟩ = some (.int .i64 yky) := Joins.cell_of_block bxW 0
     rw [ev2]
     go_simp
     exact hK.out _ _ ⟨fun m9 => if m9 = 3 then .int .i64 yky else V m9, (by simp [Act.put, ev2]), ⟨mO hv0, mO hv1, mO hv2, fun _ => rfl, mO hv4, mO hv5, mO hv6, mO hv7, mO hv8, mO hv9, mO hv10, mO hv11, mO hv12, mO hv13, mO hv14, mO hv15⟩, hbW⟩
    ·intro L a' W' hI hLj hE K' hK
     obtain ⟨V, rfl, ⟨hv0, hv1, hv2, hv3, hv4, hv5, hv6, hv7, hv8, hv9, hv10, hv11, hv12, hv13, hv14, hv15⟩, hbW⟩ := hI
     go_simp
     exact hK.out _ _ ⟨fun m9 => if m9 = 4 then .pointer (some ⟨w.heap.size, 0, none⟩) else V m9, rfl, ⟨mO hv0, mO hv1, mO hv2, mO hv3, fun _ => rfl, mO hv5, mO hv6, mO hv7, mO hv8, mO hv9, mO hv10, mO hv11, mO hv12, mO hv13, mO hv14, mO hv15⟩, hbW⟩
    ·intro L a' W' hI hLj hE K' hK
     obtain ⟨V, rfl, ⟨hv0, hv1, hv2, hv3, hv4, hv5, hv6, hv7, hv8, hv9, hv10, hv11, hv12, hv13, hv14, hv15⟩, hbW⟩ := hI
     have ev4 := hv4 (hE ⟨4, .data⟩ (by simp) rfl)
     have bAW := (hbW.block (w.heap.size) (Array.getElem?_eq_some_iff.1 bA).1).trans bA
     have k0 : W'.cell? ⟨w.heap.size, 0, none⟩ = some (.int .i64 ky) := Joins.cell_of_block bAW 0
     rw [ev4]
     go_simp
     exact hK.out _ _ ⟨fun m9 => if m9 = 5 then .int .i64 ky else V m9, (by simp [Act.put, ev4]), ⟨mO hv0, mO hv1, mO hv2, mO hv3, mO hv4, fun _ => rfl, mO hv6, mO hv7, mO hv8, mO hv9, mO hv10, mO hv11, mO hv12, mO hv13, mO hv14, mO hv15⟩, hbW⟩
    ·intro L a' W' hI hLj hE K' hK
     obtain ⟨V, rfl, ⟨hv0, hv1, hv2, hv3, hv4, hv5, hv6, hv7, hv8, hv9, hv10, hv11, hv12, hv13, hv14, hv15⟩, hbW⟩ := hI
     have ev3 := hv3 (hE ⟨3, .data⟩ (by simp) rfl)
     have ev5 := hv5 (hE ⟨5, .data⟩ (by simp) rfl)
     rw [ev3]
     rw [ev5]
     go_simp
     exact hK.out _ _ ⟨fun m9 => if m9 = 6 then .bool false else V m9, (by simp [Act.put, ev3, ev5]), ⟨mO hv0, mO hv1, mO hv2, mO hv3, mO hv4, mO hv5, fun _ => rfl, mO hv7, mO hv8, mO hv9, mO hv10, mO hv11, mO hv12, mO hv13, mO hv14, mO hv15⟩, hbW⟩
    ·intro L a' W' hI hLj hE K' hK
     obtain ⟨V, rfl, ⟨hv0, hv1, hv2, hv3, hv4, hv5, hv6, hv7, hv8, hv9, hv10, hv11, hv12, hv13, hv14, hv15⟩, hbW⟩ := hI
     have ev6 := hv6 (hE ⟨6, .data⟩ (by simp) rfl)
     rw [ev6]
     go_simp
     exact hK.out _ _ ⟨fun m9 => if m9 = 7 then .bool false else V m9, (by simp [Act.put, ev6]), ⟨mO hv0, mO hv1, mO hv2, mO hv3, mO hv4, mO hv5, mO hv6, fun _ => rfl, mO hv8, mO hv9, mO hv10, mO hv11, mO hv12, mO hv13, mO hv14, mO hv15⟩, hbW⟩
    ·intro L a' W' hI hLj hE K' hK
     obtain ⟨V, rfl, ⟨hv0, hv1, hv2, hv3, hv4, hv5, hv6, hv7, hv8, hv9, hv10, hv11, hv12, hv13, hv14, hv15⟩, hbW⟩ := hI
     have ev7 := hv7 (hE ⟨7, .guard⟩ (by simp) rfl)
     rw [ev7]
     rw [show Region.wanted _ _ = false from rfl]
     refine ⟨fun _ _ => trivial, hK.out _ _ ⟨fun m9 => if m9 = 8 then undef else V m9, (by simp [Act.put, ev7]), ⟨mO hv0, mO hv1, mO hv2, mO hv3, mO hv4, mO hv5, mO hv6, mO hv7, fun _ => rfl, mO hv9, mO hv10, mO hv11, mO hv12, mO hv13, mO hv14, mO hv15⟩, hbW⟩⟩
    ·intro L a' W' hI hLj hE K' hK
     obtain ⟨V, rfl, ⟨hv0, hv1, hv2, hv3, hv4, hv5, hv6, hv7, hv8, hv9, hv10, hv11, hv12, hv13, hv14, hv15⟩, hbW⟩ := hI
     have ev8 := hv8 (hE ⟨8, .data⟩ (by simp) rfl)
     have ev7 := hv7 (hE ⟨7, .guard⟩ (by simp) rfl)
     rw [ev8]
     rw [ev7]
     rw [show Region.wanted _ _ = false from rfl]
     refine ⟨fun _ _ => trivial, hK.out _ _ ⟨fun m9 => if m9 = 9 then undef else V m9, (by simp [Act.put, ev8, ev7]), ⟨mO hv0, mO hv1, mO hv2, mO hv3, mO hv4, mO hv5, mO hv6, mO hv7, mO hv8, fun _ => rfl, mO hv10, mO hv11, mO hv12, mO hv13, mO hv14, mO hv15⟩, hbW⟩⟩
    ·intro L a' W' hI hLj hE K' hK
     obtain ⟨V, rfl, ⟨hv0, hv1, hv2, hv3, hv4, hv5, hv6, hv7, hv8, hv9, hv10, hv11, hv12, hv13, hv14, hv15⟩, hbW⟩ := hI
     have ev9 := hv9 (hE ⟨9, .data⟩ (by simp) rfl)
     have ev7 := hv7 (hE ⟨7, .guard⟩ (by simp) rfl)
     rw [ev9]
     rw [ev7]
     rw [show Region.wanted _ _ = false from rfl]
     refine ⟨fun _ _ => trivial, hK.out _ _ ⟨fun m9 => if m9 = 10 then undef else V m9, (by simp [Act.put, ev9, ev7]), ⟨mO hv0, mO hv1, mO hv2, mO hv3, mO hv4, mO hv5, mO hv6, mO hv7, mO hv8, mO hv9, fun _ => rfl, mO hv11, mO hv12, mO hv13, mO hv14, mO hv15⟩, hbW⟩⟩
    ·intro L a' W' hI hLj hE K' hK
     obtain ⟨V, rfl, ⟨hv0, hv1, hv2, hv3, hv4, hv5, hv6, hv7, hv8, hv9, hv10, hv11, hv12, hv13, hv14, hv15⟩, hbW⟩ := hI
     have ev10 := hv10 (hE ⟨10, .data⟩ (by simp) rfl)
     have ev7 := hv7 (hE ⟨7, .guard⟩ (by simp) rfl)
     have bxW := (unhide HBx).bel hbW (unhide HBx).lt
     have k1 : W'.cell? ⟨(entOf x).1, 1, none⟩ = some (.int .i64 yst) := Joins.cell_of_block bxW 1
     have k2 : W'.cell? ⟨(entOf x).1, 2, none⟩ = some (.int .i64 yen) := Joins.cell_of_block bxW 2
     rw [ev10]
     rw [ev7]
     rw [show Region.wanted _ _ = false from rfl]
     refine ⟨fun _ _ => trivial, hK.out _ _ ⟨fun m9 => if m9 = 11 then undef else V m9, (by simp [Act.put, ev10, ev7]), ⟨mO hv0, mO hv1, mO hv2, mO hv3, mO hv4, mO hv5, mO hv6, mO hv7, mO hv8, mO hv9, mO hv10, fun _ => rfl, mO hv12, mO hv13, mO hv14, mO hv15⟩, hbW⟩⟩
    ·intro L a' W' hI hLj hE K' hK
     obtain ⟨V, rfl, ⟨hv0, hv1, hv2, hv3, hv4, hv5, hv6, hv7, hv8, hv9, hv10, hv11, hv12, hv13, hv14, hv15⟩, hbW⟩ := hI
     have ev7 := hv7 (hE ⟨7, .guard⟩ (by simp) rfl)
     rw [ev7]
     rw [show Region.wanted _ _ = false from rfl]
     refine ⟨fun _ _ => trivial, hK.out _ _ ⟨fun m9 => if m9 = 12 then undef else V m9, (by simp [Act.put, ev7]), ⟨mO hv0, mO hv1, mO hv2, mO hv3, mO hv4, mO hv5, mO hv6, mO hv7, mO hv8, mO hv9, mO hv10, mO hv11, fun _ => rfl, mO hv13, mO hv14, mO hv15⟩, hbW⟩⟩
    ·intro L a' W' hI hLj hE K' hK
     obtain ⟨V, rfl, ⟨hv0, hv1, hv2, hv3, hv4, hv5, hv6, hv7, hv8, hv9, hv10, hv11, hv12, hv13, hv14, hv15⟩, hbW⟩ := hI
     have ev12 := hv12 (hE ⟨12, .data⟩ (by simp) rfl)
     have ev7 := hv7 (hE ⟨7, .guard⟩ (by simp) rfl)
     have bAW := (hbW.block (w.heap.size) (Array.getElem?_eq_some_iff.1 bA).1).trans bA
     have k1 : W'.cell? ⟨w.heap.size, 1, none⟩ = some (.int .i64 st) := Joins.cell_of_block bAW 1
     have k2 : W'.cell? ⟨w.heap.size, 2, none⟩ = some (.int .i64 en) := Joins.cell_of_block bAW 2
     rw [ev12]
     rw [ev7]
     rw [show Region.wanted _ _ = false from rfl]
     refine ⟨fun _ _ => trivial, hK.out _ _ ⟨fun m9 => if m9 = 13 then undef else V m9, (by simp [Act.put, ev12, ev7]), ⟨mO hv0, mO hv1, mO hv2, mO hv3, mO hv4, mO hv5, mO hv6, mO hv7, mO hv8, mO hv9, mO hv10, mO hv11, mO hv12, fun _ => rfl, mO hv14, mO hv15⟩, hbW⟩⟩
    ·intro L a' W' hI hLj hE K' hK
     obtain ⟨V, rfl, ⟨hv0, hv1, hv2, hv3, hv4, hv5, hv6, hv7, hv8, hv9, hv10, hv11, hv12, hv13, hv14, hv15⟩, hbW⟩ := hI
     have ev11 := hv11 (hE ⟨11, .data⟩ (by simp) rfl)
     have ev13 := hv13 (hE ⟨13, .data⟩ (by simp) rfl)
     have ev7 := hv7 (hE ⟨7, .guard⟩ (by simp) rfl)
     rw [ev11]
     rw [ev13]
     rw [ev7]
     rw [show Region.wanted _ _ = false from rfl]
     refine ⟨fun _ _ => trivial, hK.out _ _ ⟨fun m9 => if m9 = 14 then undef else V m9, (by simp [Act.put, ev11, ev13, ev7]), ⟨mO hv0, mO hv1, mO hv2, mO hv3, mO hv4, mO hv5, mO hv6, mO hv7, mO hv8, mO hv9, mO hv10, mO hv11, mO hv12, mO hv13, fun _ => rfl, mO hv15⟩, hbW⟩⟩
    ·intro L a' W' hI hLj hE K' hK
     obtain ⟨V, rfl, ⟨hv0, hv1, hv2, hv3, hv4, hv5, hv6, hv7, hv8, hv9, hv10, hv11, hv12, hv13, hv14, hv15⟩, hbW⟩ := hI
     have ev7 := hv7 (hE ⟨7, .data⟩ (by simp) rfl)
     have ev14 := hv14 (hE ⟨14, .data⟩ (by simp) rfl)
     rw [ev7]
     rw [ev14]
     go_simp
     exact hK.out _ _ ⟨fun m9 => if m9 = 15 then .bool false else V m9, (by simp [Act.put, ev7, ev14]), ⟨mO hv0, mO hv1, mO hv2, mO hv3, mO hv4, mO hv5, mO hv6, mO hv7, mO hv8, mO hv9, mO hv10, mO hv11, mO hv12, mO hv13, mO hv14, fun _ => rfl⟩, hbW⟩
   intro L a' W' hI hall
   obtain ⟨V, rfl, ⟨hv0, hv1, hv2, hv3, hv4, hv5, hv6, hv7, hv8, hv9, hv10, hv11, hv12, hv13, hv14, hv15⟩, hbW⟩ := hI
   have ev0 := hv0 (hall 0 (by decide))
   have ev1 := hv1 (hall 1 (by decide))
   have ev2 := hv2 (hall 2 (by decide))
   have ev3 := hv3 (hall 3 (by decide))
   have ev4 := hv4 (hall 4 (by decide))
   have ev5 := hv5 (hall 5 (by decide))
   have ev6 := hv6 (hall 6 (by decide))
   have ev7 := hv7 (hall 7 (by decide))
   have ev8 := hv8 (hall 8 (by decide))
   have ev9 := hv9 (hall 9 (by decide))
   have ev10 := hv10 (hall 10 (by decide))
   have ev11 := hv11 (hall 11 (by decide))
   have ev12 := hv12 (hall 12 (by decide))
   have ev13 := hv13 (hall 13 (by decide))
   have ev14 := hv14 (hall 14 (by decide))
   have ev15 := hv15 (hall 15 (by decide))
   rw [ev0, ev1, ev2, ev3, ev4, ev5, ev6, ev7, ev8, ev9, ev10, ev11, ev12, ev13, ev14, ev15]
   clear ev0 hv0 ev1 hv1 ev2 hv2 ev3 hv3 ev4 hv4 ev5 hv5 ev6 hv6 ev7 hv7 ev8 hv8 ev9 hv9 ev10 hv10 ev11 hv11 ev12 hv12 ev13 hv13 ev14 hv14 ev15 hv15 hall
   gi_wp2
   exact ⟨(KpM.bel hbW).from _, (KpM.bel hbW).kpo, unhide HI1 _ hbW⟩
 case done =>
  rintro D ys W hD hys ⟨rv, hS, hrow, hpn, bA, hB⟩ hK
  have hyE := inO hrise hok hys
  rw [hyE] at hrow
  have cv : W.cell? ⟨w.heap.size + 1, 0, none⟩ = some rv := Joins.cell_of_block hS 0
  have HR1 := hide hrow
  clear hrow
  gi_wp2
  refine ⟨by simp, .inl ⟨_, _, rfl, run_takeDeferred hK, ?_⟩⟩
  exact ⟨_, results_tmp rfl _ _ _, rv, rfl, ownsRow_putObj (unhide HR1) _ hK rfl, hB.trans (belowK_b (w := w) (Nat.le_refl _) W D _ _ (by simp at hD; omega) hK rfl rfl)⟩
 case stop =>
  rintro D c pre W _ _ hx _
  exact hx.elim
end Go.Proofs.YtflignpbboiahaaGreat
