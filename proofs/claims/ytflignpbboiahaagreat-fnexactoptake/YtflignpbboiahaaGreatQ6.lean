/- Laid together: what the claim needs of the texts that were built one by one. -/
import Derived.Test.YtflignpbboiahaaGreatQ3
import Derived.Test.YtflignpbboiahaaGreatQ1
import Derived.Test.YtflignpbboiahaaGreatQ5
import Derived.Test.YtflignpbboiahaaGreatQ0
import Derived.BigQuiet
import Derived.Test.YtflignpbboiahaaGreatQ2
import Derived.Deep.RegionHeld3
import Derived.Lib.SmallJoins
import Derived.LoopN
import Derived.Deep.Slices
import Derived.OwnWalk
import Derived.WalkSpells
set_option linter.unusedVariables false
namespace Go.Proofs.YtflignpbboiahaaGreat
open Go.ChangeShapes Go.WideShapes Go.ChangeAt Go.RowKit
set_option linter.unusedSimpArgs false
/-- A row lies in a box. -/
def BxO (W : World) (g : Nat) (x : OrR) : Prop := W.heap[g]? = some (.cells #[.int .i64 x.ky, .int .i64 x.st, .int .i64 x.en, .int .i64 x.an, .int .i64 x.asu, .int .i64 x.ale, .int .i64 x.amo, .int .i64 x.fn, .int .i64 x.fsu, .int .i64 x.fle, .int .i64 x.fmo, .int .i64 x.td, .bool x.tm] 76 (0, 0))
theorem BxO.new (W : World) (x : OrR) : BxO (W.alloc (.cells #[.int .i64 x.ky, .int .i64 x.st, .int .i64 x.en, .int .i64 x.an, .int .i64 x.asu, .int .i64 x.ale, .int .i64 x.amo, .int .i64 x.fn, .int .i64 x.fsu, .int .i64 x.fle, .int .i64 x.fmo, .int .i64 x.td, .bool x.tm] 76)) W.heap.size x := World.alloc_heap_new W _
theorem BxO.lt {W : World} {g : Nat} {x : OrR} (h : BxO W g x) : g < W.heap.size := (Array.getElem?_eq_some_iff.1 h).1
theorem BxO.bel {W W' : World} {B g : Nat} {x : OrR} (h : BxO W g x) (hb : Below B W W') (hg : g < B) : BxO W' g x := (hb.block g hg).trans h
/-- What a row tells, and what it is behind that. -/
def telB (m : Int) (x : OrR) : Bool := decide (x.en ≤ m) && decide (0 < x.fn)
def toldX (x : OrR) : OrR := { x with td := x.td + 1, tm := true, fn := 0, fsu := 0, fle := 0, fmo := 0 }
def panX (pc : Bool) (x : OrR) : PnR := ⟨x.ky, x.st, x.en, x.td, if x.tm = true then 2 else 1, if pc = true then x.fn else x.an, if pc = true then x.fsu else x.asu, if pc = true then x.fle else x.ale, if pc = true then x.fmo else x.amo⟩
theorem plO_told (x : OrR) : plO (toldX x) = plO x := rfl
theorem tel_told (m : Int) (x : OrR) : telB m (toldX x) = false := by simp [telB, toldX]
theorem gb_bel {w w' : World} {g : Option Nat} (h : Below w.heap.size w w') : w.grownBy w' g := ⟨h.os, h.tape, h.output, h.size, fun k hk _ => h.block k hk⟩
theorem gb_set {w w' : World} {g : Nat} {p : Addr} (h : w.grownBy w' (some g)) (hp : p.block = g ∨ w.heap.size ≤ p.block) (v : Value) : w.grownBy (w'.setCell p v) (some g) := by
 refine ⟨h.os, h.tape, h.output, by rw [World.setCell]; simpa using h.size, fun k hk hne => ?_⟩
 have hne' : k ≠ p.block := by
  rintro rfl
  rcases hp with h9 | h9
  ·exact hne (by rw [h9])
  ·omega
 rw [Below.heap_setCell w' p v k hne']
 exact h.block k hk hne
set_option linter.unusedSimpArgs false
/-- An operator while a call lasts. -/
def opV (s t k z q l e : Int) (b : Bool) (v r m : Int) (mb : Nat) (pv lv : Value) : Array Value := #[.int .i64 s, .int .i64 t, .int .i64 k, .int .i64 z, .int .i64 q, .int .i64 l, .int .i64 e, .bool b, .int .i64 v, .int .i64 r, .int .i64 m, .map (some mb), pv, lv]
def shutB (l m en : Int) : Bool := decide (en + l ≤ m)
set_option maxRecDepth 20000 in
set_option maxHeartbeats 2000000 in
theorem isshut_any (Bo : Nat) (s t k z q l e : Int) (b : Bool) (v r m : Int) (mb : Nat) (pv lv : Value) (st en : Int) (w : World) (h : w.heap[Bo]? = some (.cells (opV s t k z q l e b v r m mb pv lv) 60 (0, 0))) (hb : -1000 ≤ en ∧ en ≤ 1000 ∧ 0 ≤ l ∧ l ≤ 20) : Calls Tryz.prog 81 #[.pointer (some ⟨Bo, 0, none⟩), .agg #[.int .i64 st, .int .i64 en]] w fun e' w' => e' = .returned (.bool (shutB l m en)) ∧ Below w.heap.size w w' := by
 have hB : Bo < w.heap.size := (Array.getElem?_eq_some_iff.1 h).1
 have c5 : w.cell? ⟨Bo, 5, none⟩ = some (.int .i64 l) := Joins.cell_of_block h 5
 have c10 : w.cell? ⟨Bo, 10, none⟩ = some (.int .i64 m) := Joins.cell_of_block h 10
 have hwr : IntKind.i64.wrap (en + l) = en + l := IntWalk.i64_in _ ⟨by omega, by omega⟩
 go_enter Tryz.func81, Tryz.ntmps81
 go_wp2_with fail
 go_quiet (fail)
 go_wp2
 go_ret
 exact ⟨rfl, bel_drewN (bel_one _ _) _⟩
open Go.Maps
set_option linter.unusedSimpArgs false
theorem OwnsV.store {w : World} {b n : Nat} {m : P3 → Option Value} (h : OwnsV w b n m) (hn : n < maxLen) (q : P3) (hq : ok3 q) (val : Value) :
  ∃ w', (Instr.mapUpdate 58 (.map (some b)) (.agg #[.int .i64 q.1, .int .i64 q.2.1, .int .i64 q.2.2]) val).run Tryz.prog w = .ok () w' ∧ OwnsV w' b (n + 1) (fun x => if x = q then some val else m x) ∧ w.grownBy w' (some b) :=
 OwnsOp.store h key3 Tryz.underlying58 hn some3 inj3 q hq val (ps := []) rfl
theorem OwnsV.ne_cells {w : World} {b n g : Nat} {m : P3 → Option Value} {cs : Array Value} {ty : TypeId} (h : OwnsV w b n m) (hx : w.heap[g]? = some (.cells cs ty (0, 0))) : g ≠ b := by
 rintro rfl
 obtain ⟨D, ⟨es, clock, h1, _⟩, _⟩ := h
 rw [hx] at h1
 cases h1
theorem OwnsV.bel {w w' : World} {b n : Nat} {m : P3 → Option Value} (h : OwnsV w b n m) (hb : Below w.heap.size w w') : OwnsV w' b n m := OwnsOp.below h hb
/-- Rows in boxes, and the map that points to them. -/
structure RowsI (W : World) (B mb nn : Nat) (es : List Ent) : Prop where
 map : OwnsV W mb nn (fun q => (mapE es q).map Value.pointer)
 box : ∀ e ∈ es, BxO W e.1 e.2
 ge : ∀ e ∈ es, B ≤ e.1
 nd : (es.map (fun e => e.1)).Nodup
theorem RowsI.bel {W W' : World} {B mb nn : Nat} {es : List Ent} (h : RowsI W B mb nn es) (hb : Below W.heap.size W W') : RowsI W' B mb nn es :=
 ⟨h.map.bel hb, fun e he => (h.box e he).bel hb (h.box e he).lt, h.ge, h.nd⟩
theorem RowsI.snoc {W W' : World} {B mb nn : Nat} {es : List Ent} (h : RowsI W B mb nn es) (g : Nat) (x : OrR) (hx : BxO W g x) (hg : B ≤ g) (hn : ∀ e ∈ es, e.1 < g) (hm : OwnsV W' mb (nn + 1) (fun q => (mapE (es ++ [(g, x)]) q).map Value.pointer)) (hgr : W.grownBy W' (some mb)) : RowsI W' B mb (nn + 1) (es ++ [(g, x)]) := by
 have hkeep : ∀ k y, BxO W k y → BxO W' k y := fun k y hy => (hgr.block k hy.lt (fun e9 => h.map.ne_cells hy (Option.some.inj e9))).trans hy
 refine ⟨hm, ?_, ?_, ?_⟩
 ·intro e he
  rcases List.mem_append.1 he with h9 | h9
  ·exact hkeep _ _ (h.box e h9)
  ·rw [List.mem_singleton.1 h9]
   exact hkeep _ _ hx
 ·intro e he
  rcases List.mem_append.1 he with h9 | h9
  ·exact h.ge e h9
  ·rw [List.mem_singleton.1 h9]
   exact hg
 ·rw [List.map_append, List.nodup_append]
  refine ⟨h.nd, by simp, ?_⟩
  intro a ha b hb
  obtain ⟨e, he, rfl⟩ := List.mem_map.1 ha
  simp at hb
  have := hn e he
  omega
set_option maxRecDepth 20000 in
set_option maxHeartbeats 4000000 in
theorem operof_any (s t k z q l e : Int) (b : Bool) (v r m : Int) (a : Option Addr) (len cap : Nat) (xs : List OrR) (w : World) (h : OrRs w a len xs) (hl : len ≤ 1000) (hok : ∀ x ∈ xs, ok3 (plO x)) (hrs : xs.Pairwise (fun x y => ltPl (plO x) (plO y))) : Calls Tryz.prog 27 #[.agg #[.int .i64 s, .int .i64 t, .int .i64 k, .int .i64 z, .int .i64 q, .int .i64 l, .int .i64 e, .bool b, .int .i64 v, .int .i64 r], .agg #[.int .i64 m, .slice a len cap]] w fun e' w' => ∃ es : List Ent, e' = .returned (.pointer (some ⟨w.heap.size + 1 + 1 + 1, 0, none⟩)) ∧ es.map (fun e => e.2) = xs ∧ RowsI w' w.heap.size (w.heap.size + 1 + 1) len es ∧ w'.heap[w.heap.size + 1 + 1 + 1]? = some (.cells (opV s t k z q l e b v r m (w.heap.size + 1 + 1) (.slice none 0 0) (.slice none 0 0)) 60 (0, 0)) ∧ Below w.heap.size w w' := by
 have hxl := h.1
 have hmk : ∀ u : World, (Instr.makeMap 58 none).run Tryz.prog u = .ok (.map (some u.heap.size)) (u.alloc (.map #[] 0)) := fun _ => rfl
 go_enter Tryz.func27, Tryz.ntmps27
 go_wp2
 clear hmk
 go_loopw [17] (fun iv wr => ∃ (i : Nat) (es : List Ent), i ≤ len ∧ iv = .int .i64 i ∧ Hid (es.map (fun e => e.2) = xs.take i) ∧ Hid (RowsI wr (w.heap.size + 4) (w.heap.size + 1 + 1) i es) ∧ Hid (wr.heap[w.heap.size + 1 + 1 + 1]? = some (.cells #[.int .i64 s, .int .i64 t, .int .i64 k, .int .i64 z, .int .i64 q, .int .i64 l, .int .i64 e, .bool b, .int .i64 v, .int .i64 r, .int .i64 m, .map (some (w.heap.size + 1 + 1)), .slice none 0 0, .slice none 0 0] 60 (0, 0))) ∧ Below w.heap.size w wr) (fun iv _ => len - (intOf iv).toNat)
 case atStart =>
  refine ⟨0, [], Nat.zero_le _, rfl, hide rfl, hide ⟨?_, by simp, by simp, by simp⟩, hide ?_, bel_alloc (bel_alloc (bel_alloc (bel_one _ _) _) _) _⟩
  ·have h9 := OwnsOp.made ((w.alloc (.cells #[.int .i64 s, .int .i64 t, .int .i64 k, .int .i64 z, .int .i64 q, .int .i64 l, .int .i64 e, .bool b, .int .i64 v, .int .i64 r] 37)).alloc (.cells #[.int .i64 m, .slice a len cap] 32)) Tryz.prog 98 rdV v3 ok3 DataW.held
   rw [World.size_alloc, World.size_alloc] at h9
   exact OwnsOp.below h9 (bel_one _ _)
  ·have h9 := World.alloc_heap_new (((w.alloc (.cells #[.int .i64 s, .int .i64 t, .int .i64 k, .int .i64 z, .int .i64 q, .int .i64 l, .int .i64 e, .bool b, .int .i64 v, .int .i64 r] 37)).alloc (.cells #[.int .i64 m, .slice a len cap] 32)).alloc (.map #[] 0)) (.cells #[.int .i64 s, .int .i64 t, .int .i64 k, .int .i64 z, .int .i64 q, .int .i64 l, .int .i64 e, .bool b, .int .i64 v, .int .i64 r, .int .i64 m, .map (some (w.heap.size + 1 + 1)), .slice none 0 0, .slice none 0 0] 60)
   rw [World.size_alloc, World.size_alloc, World.size_alloc] at h9
   exact h9
 case round =>
  obtain ⟨i, es, hil, rfl, HE, HR, HO, hbw⟩ := hrel
  have hBO : w.heap.size + 1 + 1 + 1 < wr.heap.size := (Array.getElem?_eq_some_iff.1 (unhide HO)).1
  by_cases hlt : i < len
  ·obtain ⟨_, _, hy⟩ := h
   obtain ⟨g, o, rfl, hr⟩ := hy.resolve_left (by omega)
   obtain ⟨x, hxk⟩ : ∃ x, xs[i]? = some x := ⟨_, List.getElem?_eq_getElem (by omega)⟩
   have hg : g < w.heap.size := hr.lt (by omega)
   obtain ⟨c0, c1, c2, c3, c4, c5, c6, c7, c8, c9, c10, c11, c12⟩ := (hr i _ hxk).below hbw hg
   have hxo := hok x (List.mem_of_getElem? hxk)
   have hnew : ∀ e9 ∈ es, ¬ plO e9.2 = plO x := by
    intro e9 he e8
    have h1 : e9.2 ∈ xs.take i := by rw [← unhide HE]; exact List.mem_map.2 ⟨e9, he, rfl⟩
    obtain ⟨j, hj⟩ := List.mem_iff_getElem?.1 h1
    have hji : j < i := by have := (List.getElem?_eq_some_iff.1 hj).1; rw [List.length_take] at this; omega
    rw [List.getElem?_take_of_lt hji] at hj
    obtain ⟨q1, q2⟩ := List.getElem?_eq_some_iff.1 hj
    obtain ⟨q3, q4⟩ := List.getElem?_eq_some_iff.1 hxk
    have h2 := List.pairwise_iff_getElem.1 hrs j i q1 q3 hji
    rw [q2, q4, e8] at h2
    exact ltPl_irr _ h2
   have HE2 : Hid ((es ++ [(wr.heap.size, x)]).map (fun e => e.2) = xs.take (i + 1)) := hide (by rw [List.map_append, unhide HE, List.take_add_one, hxk]; rfl)
   have HN := hide hnew
   have HXO := hide hxo
   have hlow : ∀ e9 ∈ es, e9.1 < wr.heap.size := fun e9 he => ((unhide HR).box e9 he).lt
   have HL := hide hlow
   clear hr hy hxk hnew hlow
   obtain ⟨ky, st, en, an, asu, ale, amo, fn, fsu, fle, fmo, td, tm⟩ := x
   dsimp only at c0 c1 c2 c3 c4 c5 c6 c7 c8 c9 c10 c11 c12
   have hgr : g < wr.heap.size := Nat.lt_of_lt_of_le hg hbw.size
   have bO : (wr.alloc (.cells #[.int .i64 ky, .int .i64 st, .int .i64 en, .int .i64 an, .int .i64 asu, .int .i64 ale, .int .i64 amo, .int .i64 fn, .int .i64 fsu, .int .i64 fle, .int .i64 fmo, .int .i64 td, .bool tm] 76)).drew.heap[w.heap.size + 1 + 1 + 1]? = some (.cells #[.int .i64 s, .int .i64 t, .int .i64 k, .int .i64 z, .int .i64 q, .int .i64 l, .int .i64 e, .bool b, .int .i64 v, .int .i64 r, .int .i64 m, .map (some (w.heap.size + 1 + 1)), .slice none 0 0, .slice none 0 0] 60 (0, 0)) := (Below.heap_alloc _ _ _ hBO).trans (unhide HO)
   have bR : (wr.alloc (.cells #[.int .i64 ky, .int .i64 st, .int .i64 en, .int .i64 an, .int .i64 asu, .int .i64 ale, .int .i64 amo, .int .i64 fn, .int .i64 fsu, .int .i64 fle, .int .i64 fmo, .int .i64 td, .bool tm] 76)).drew.heap[wr.heap.size]? = some (.cells #[.int .i64 ky, .int .i64 st, .int .i64 en, .int .i64 an, .int .i64 asu, .int .i64 ale, .int .i64 amo, .int .i64 fn, .int .i64 fsu, .int .i64 fle, .int .i64 fmo, .int .i64 td, .bool tm] 76 (0, 0)) := World.alloc_heap_new wr _
   go_wp2_with fail
   clear c0 c1 c2 c3 c4 c5 c6 c7 c8 c9 c10 c11 c12
   refine wp_region_held_drew (S := (fun W => W.heap[w.heap.size + 1 + 1 + 1]? = some (.cells #[.int .i64 s, .int .i64 t, .int .i64 k, .int .i64 z, .int .i64 q, .int .i64 l, .int .i64 e, .bool b, .int .i64 v, .int .i64 r, .int .i64 m, .map (some (w.heap.size + 1 + 1)), .slice none 0 0, .slice none 0 0] 60 (0, 0)) ∧ W.heap[wr.heap.size]? = some (.cells #[.int .i64 ky, .int .i64 st, .int .i64 en, .int .i64 an, .int .i64 asu, .int .i64 ale, .int .i64 amo, .int .i64 fn, .int .i64 fsu, .int .i64 fle, .int .i64 fmo, .int .i64 td, .bool tm] 76 (0, 0)))) (by kernel_rfl) ?_ (fun hHeld => ?_)
   ·(try dsimp only); exact ⟨bO, bR⟩
   refine kV 0 ?_
   refine kV 1 ?_
   refine kV 2 ?_
   refine kT 3 ?_ ?_ ?_
   rotate_left
   ·(intro w9 hSw; (try dsimp only at hSw); obtain ⟨q0, q1⟩ := hSw; have g0x0 := cA q0 0; have g0x1 := cA q0 1; have g0x2 := cA q0 2; have g0x3 := cA q0 3; have g0x4 := cA q0 4; have g0x5 := cA q0 5; have g0x6 := cA q0 6; have g0x7 := cA q0 7; have g0x8 := cA q0 8; have g0x9 := cA q0 9; have g0x10 := cA q0 10; simp only [gA, gZ, gS] at g0x0 g0x1 g0x2 g0x3 g0x4 g0x5 g0x6 g0x7 g0x8 g0x9 g0x10; have g0x11 : w9.cell? ⟨w.heap.size + 1 + 1 + 1, 11, none⟩ = some (.map (some (w.heap.size + 1 + 1))) := (by simp [World.cell?, q0, go_sem]); have g0x12 := cA q0 12; have g0x13 := cA q0 13; simp only [gA, gZ, gS] at g0x12 g0x13; go_simp <;> with_reducible rfl)
   try simp only [Act.put, tA, tZ, tS]
   refine kT 4 ?_ ?_ ?_
   rotate_left
   ·(intro w9 hSw; (try dsimp only at hSw); obtain ⟨q0, q1⟩ := hSw; have g1x0 := cA q1 0; have g1x1 := cA q1 1; have g1x2 := cA q1 2; have g1x3 := cA q1 3; have g1x4 := cA q1 4; have g1x5 := cA q1 5; have g1x6 := cA q1 6; have g1x7 := cA q1 7; have g1x8 := cA q1 8; have g1x9 := cA q1 9; have g1x10 := cA q1 10; have g1x11 := cA q1 11; have g1x12 := cA q1 12; simp only [gA, gZ, gS] at g1x0 g1x1 g1x2 g1x3 g1x4 g1x5 g1x6 g1x7 g1x8 g1x9 g1x10 g1x11 g1x12; go_simp <;> with_reducible rfl)
   try simp only [Act.put, tA, tZ, tS]
   refine rD 5 (fun K hK => ?_)
   go_simp
   (go_at_call 51; refine (opplace_any _ _ _ _ _ _ _ _ _ _ _ _ _ _).mono ?_; rintro e9 wv ⟨rfl, hbwv⟩)
   (try go_wp2_with fail)
   have zwv := hbwv.size
   (try simp at zwv)
   have bO := (hbwv.block (w.heap.size + 1 + 1 + 1) (sB)).trans bO
   have bR := (hbwv.block (wr.heap.size) (sB)).trans bR
   clear hHeld
   refine hK.out _ _ ?_ (fun hHeld => ?_)
   ·(try dsimp only); exact ⟨bO, bR⟩
   clear hK K
   try simp only [Act.put, tA, tZ, tS]
   have hbv : Below wr.heap.size wr wv := bel_trans (bel_drew (bel_one _ _)) hbwv
   have HRv := (unhide HR).bel hbv
   obtain ⟨wu, hst, hOu, hgu⟩ := HRv.map.store (by unfold maxLen; omega) (ky, st, en) (unhide HXO) (.pointer (some ⟨wr.heap.size, 0, none⟩))
   dsimp only at hst
   refine rD 6 (fun K hK => ?_)
   go_simp
   have bOu : wu.heap[w.heap.size + 1 + 1 + 1]? = some (.cells #[.int .i64 s, .int .i64 t, .int .i64 k, .int .i64 z, .int .i64 q, .int .i64 l, .int .i64 e, .bool b, .int .i64 v, .int .i64 r, .int .i64 m, .map (some (w.heap.size + 1 + 1)), .slice none 0 0, .slice none 0 0] 60 (0, 0)) := (hgu.block _ (Array.getElem?_eq_some_iff.1 bO).1 (fun e9 => HRv.map.ne_cells bO (Option.some.inj e9))).trans bO
   have bRu : wu.heap[wr.heap.size]? = some (.cells #[.int .i64 ky, .int .i64 st, .int .i64 en, .int .i64 an, .int .i64 asu, .int .i64 ale, .int .i64 amo, .int .i64 fn, .int .i64 fsu, .int .i64 fle, .int .i64 fmo, .int .i64 td, .bool tm] 76 (0, 0)) := (hgu.block _ (Array.getElem?_eq_some_iff.1 bR).1 (fun e9 => HRv.map.ne_cells bR (Option.some.inj e9))).trans bR
   refine hK.out _ _ ?_ (fun hHeld2 => ?_)
   ·(try dsimp only); exact ⟨bOu, bRu⟩
   clear hK K hHeld hHeld2
   try simp only [Act.put, tA, tZ, tS]
   refine wpAnyH_done (by kernel_rfl) ?_ _
   rw [show (fun x9 : P3 => if x9 = (ky, st, en) then some (Value.pointer (some ⟨wr.heap.size, 0, none⟩)) else (mapE es x9).map Value.pointer) = fun q9 => (mapE (es ++ [(wr.heap.size, (⟨ky, st, en, an, asu, ale, amo, fn, fsu, fle, fmo, td, tm⟩ : OrR))]) q9).map Value.pointer from mapE_snoc (e := (wr.heap.size, (⟨ky, st, en, an, asu, ale, amo, fn, fsu, fle, fmo, td, tm⟩ : OrR))) (unhide HN)] at hOu
   have HRu := hide (HRv.snoc wr.heap.size ⟨ky, st, en, an, asu, ale, amo, fn, fsu, fle, fmo, td, tm⟩ bR (by omega) (unhide HL) hOu hgu)
   have hbu : Below w.heap.size w wu := by
    have h9 := bel_trans hbw hbv
    refine ⟨hgu.os.trans h9.os, hgu.tape.trans h9.tape, hgu.output.trans h9.output, Nat.le_trans h9.size hgu.size, fun k9 hk9 => ?_⟩
    exact (hgu.block k9 (Nat.lt_of_lt_of_le hk9 h9.size) (fun e9 => by have := Option.some.inj e9; omega)).trans (h9.block k9 hk9)
   clear hst hOu hgu bO bR bRu hbwv HRv zwv hbv
   go_wp2
   refine ⟨⟨i + 1, es ++ [(wr.heap.size, ⟨ky, st, en, an, asu, ale, amo, fn, fsu, fle, fmo, td, tm⟩)], by omega, by go_num, HE2, HRu, hide bOu, hbu⟩, by simp [intOf]; omega⟩
  ·obtain rfl : i = len := by omega
   have hE : es.map (fun e => e.2) = xs := by have h9 := unhide HE; rw [List.take_of_length_le (by omega)] at h9; exact h9
   go_wp2
   go_ret
   refine ⟨es, rfl, hE, ⟨(unhide HR).map, (unhide HR).box, fun e9 he => by have := (unhide HR).ge e9 he; omega, (unhide HR).nd⟩, unhide HO, hbw⟩
set_option linter.unusedSimpArgs false
/-- The types of what turns while an operator is at work. -/
def turnT (ty : TypeId) : Bool := ty == 76 || ty == 68 || ty == 60 || ty == 32
/-- What is no cells, and all cells of other types, lie as they lay. -/
def KpC (W W' : World) : Prop := W.heap.size ≤ W'.heap.size ∧ ∀ (k : Nat) (o : Obj), W.heap[k]? = some o → (o.isCells = false ∨ ∃ (cs : Array Value) (ty : TypeId), turnT ty = false ∧ o = .cells cs ty (0, 0)) → W'.heap[k]? = some o
theorem KpC.refl (W : World) : KpC W W := ⟨Nat.le_refl _, fun _ _ h _ => h⟩
theorem KpC.trans {A B C : World} (h : KpC A B) (k : KpC B C) : KpC A C := ⟨Nat.le_trans h.1 k.1, fun i o hi ho => k.2 i o (h.2 i o hi ho) ho⟩
theorem KpC.bel {W W' : World} (hb : Below W.heap.size W W') : KpC W W' := ⟨hb.size, fun k o hk _ => (hb.block k (Array.getElem?_eq_some_iff.1 hk).1).trans hk⟩
theorem KpC.grown {W W' : World} {row : Option Nat} (hg : W.grownBy W' row) (hr : ∀ r, row = some r → ∃ cs ty, W.heap[r]? = some (.cells cs ty (0, 0)) ∧ turnT ty = true) : KpC W W' := by
 refine ⟨hg.size, fun k o hk ho => (hg.block k (Array.getElem?_eq_some_iff.1 hk).1 (fun e => ?_)).trans hk⟩
 obtain ⟨cs, ty, h1, h2⟩ := hr k e.symm
 rw [hk] at h1
 cases h1
 rcases ho with h9 | ⟨cs', ty', h8, h9⟩
 ·cases h9
 ·cases h9
  rw [h2] at h8
  cases h8
theorem KpC.set {W : World} {p : Addr} (v : Value) {cs : Array Value} {ty : TypeId} (h : W.heap[p.block]? = some (.cells cs ty (0, 0))) (h1 : turnT ty = true) : KpC W (W.setCell p v) := by
 refine ⟨(KeepsWalks.setCell W p v).size, fun k o hk ho => ?_⟩
 have hne : k ≠ p.block := by
  rintro rfl
  rw [hk] at h
  cases h
  rcases ho with h9 | ⟨cs', ty', h8, h9⟩
  ·cases h9
  ·cases h9
   rw [h1] at h8
   cases h8
 exact (Below.heap_setCell W p v k hne).trans hk
theorem KpC.kpo {W W' : World} (h : KpC W W') : KpO W W' := by
 refine ⟨⟨h.1, fun k o hk ho => h.2 k o hk (.inl (Obj.not_cells_of_walk ho))⟩, fun b cs ty ht hb => h.2 b _ hb (.inr ⟨cs, ty, ?_, rfl⟩)⟩
 rcases ht with rfl | rfl <;> decide
theorem KpC.from {W W' : World} (h : KpC W W') (B : Nat) : KeepsFrom B W W' := ⟨h.1, fun k o _ hk ho => h.2 k o hk (.inl ho)⟩
/-- Entries as what a map of them holds. -/
def evO : Option Ent → Value
 | none => .pointer none
 | some e => .pointer (some ⟨e.1, 0, none⟩)
def mapO (es : List Ent) (q : P3) : Option (Option Ent) := (es.find? (fun e => decide (plO e.2 = q))).map some
theorem mapO_ev (es : List Ent) : (fun q => (mapO es q).map evO) = fun q => (mapE es q).map Value.pointer := by
 funext q
 unfold mapO mapE
 cases es.find? (fun e => decide (plO e.2 = q)) <;> rfl
def PXs (es : List Ent) (x : P3 × Option Ent) : Prop := ∃ e ∈ es, x.2 = some e
theorem mapO_px {es : List Ent} {q : P3} {a : Option Ent} (h : mapO es q = some a) : PXs es (q, a) := by
 unfold mapO at h
 cases hf : es.find? (fun e => decide (plO e.2 = q)) with
 | none => rw [hf] at h; cases h
 | some e =>
  rw [hf] at h
  simp at h
  exact ⟨e, List.mem_of_find?_eq_some hf, h.symm⟩
abbrev EntX (es : List Ent) := {x : P3 × Option Ent // PXs es x}
def entZ : Ent := (0, ⟨0, 0, 0, 0, 0, 0, 0, 0, 0, 0, 0, 0, false⟩)
def entOf {es : List Ent} (x : EntX es) : Ent := x.1.2.getD entZ
theorem entOf_ev {es : List Ent} (x : EntX es) : evO x.1.2 = .pointer (some ⟨(entOf x).1, 0, none⟩) := by
 obtain ⟨y, e, he, hy⟩ := x
 unfold entOf
 simp only [hy]
 rfl
theorem entOf_mem {es : List Ent} (x : EntX es) : entOf x ∈ es := by
 obtain ⟨y, e, he, hy⟩ := x
 unfold entOf
 simp only [hy]
 exact he
theorem inO {es : List Ent} {ys : List (EntX es)} (hr : RiseE es) (hok : ∀ e ∈ es, ok3 (plO e.2)) (h : InOrd none (mapO es) (ys.map (fun y => y.1))) : ys.map entOf = es := by
 obtain ⟨ss, ⟨hnd, hmem⟩, hy⟩ := h
 have hmm : ∀ e ∈ es, mapO es (plO e.2) = some (some e) := by
  intro e he
  unfold mapO
  cases hf : es.find? (fun x => decide (plO x.2 = plO e.2)) with
  | none =>
   have := List.find?_eq_none.1 hf e he
   simp at this
  | some x =>
   have h1 : x ∈ es := List.mem_of_find?_eq_some hf
   have h2 : plO x.2 = plO e.2 := by simpa using List.find?_some hf
   rw [hr.inj h1 he h2]
   rfl
 have e : es.map (fun e => plO e.2) = srt3 ss := by
  refine rise_eq _ _ (List.pairwise_map.2 hr) (srt_rise hnd) (fun q => ?_)
  rw [(srt3_perm ss).mem_iff, hmem]
  constructor
  ·intro hq
   obtain ⟨x, hx, rfl⟩ := List.mem_map.1 hq
   exact ⟨hok x hx, by rw [hmm x hx]; simp⟩
  ·rintro ⟨_, hq⟩
   cases hm : mapO es q with
   | none => exact absurd hm hq
   | some a =>
    unfold mapO at hm
    cases hf : es.find? (fun e => decide (plO e.2 = q)) with
    | none => rw [hf] at hm; cases hm
    | some x => exact List.mem_map.2 ⟨x, List.mem_of_find?_eq_some hf, by simpa using List.find?_some hf⟩
 have e2 : ys.map entOf = (ys.map (fun y => y.1)).map (fun x => x.2.getD entZ) := by rw [List.map_map]; rfl
 rw [e2, hy, ← e, List.map_map, List.map_map]
 have e3 : es.map (((fun x : P3 × Option Ent => x.2.getD entZ) ∘ fun q => (q, (mapO es q).getD none)) ∘ fun e : Ent => plO e.2) = es.map id := List.map_congr_left (fun x hx => by simp only [Function.comp]; rw [hmm x hx]; rfl)
 rw [e3, List.map_id]
theorem zeroEv (u : World) : (zeroValue 96).run Tryz.prog u = .ok (evO none) u := by kernel_rfl
set_option linter.unusedSimpArgs false
theorem okOp_at {s t k z q l e v r m : Int} {xs : List OrR} (h : okOp s t k z q l e v r m xs = true) : xs.length ≤ 300 ∧ (0 ≤ l ∧ l ≤ 20) ∧ (0 ≤ m ∧ m ≤ 1000) ∧ (∀ x ∈ xs, x.okB l m = true) ∧ xs.Pairwise (fun x y => ltPl (plO x) (plO y)) := by
 unfold okOp at h
 simp only [Bool.and_eq_true, decide_eq_true_eq] at h
 refine ⟨h.1.2, okJob_l h.1.1.1, inB_iff.1 h.1.1.2, fun x hx => ?_, ?_⟩
 ·obtain ⟨i, hi⟩ := List.mem_iff_getElem?.1 hx
  exact okAt_ok hi (okUp_at h.2 (List.getElem?_eq_some_iff.1 hi).1)
 ·have hstep : ∀ (i : Nat) (x y : OrR), xs[i]? = some x → xs[i + 1]? = some y → ltPl (plO x) (plO y) := by
   intro i x y hx hy
   have h9 := okUp_at h.2 (List.getElem?_eq_some_iff.1 hy).1
   rw [okAt_s hy hx] at h9
   simp only [Bool.and_eq_true, nextO, nextP] at h9
   have h8 := aheadP_iff.1 h9.2.2
   unfold ltPl plO
   simp only
   omega
  rw [List.pairwise_iff_getElem]
  intro i j hi hj hij
  obtain ⟨d, rfl⟩ : ∃ d, j = i + 1 + d := ⟨j - i - 1, by omega⟩
  clear hij
  induction d with
  | zero => exact hstep i _ _ (List.getElem?_eq_getElem hi) (List.getElem?_eq_getElem hj)
  | succ d ih =>
   have h1 := ih (by omega)
   exact ltPl_tr h1 (hstep (i + 1 + d) _ _ (List.getElem?_eq_getElem (by omega)) (List.getElem?_eq_getElem hj))
theorem okB_all {l m : Int} {x : OrR} (h : x.okB l m = true) : (0 ≤ x.ky ∧ x.ky ≤ 3) ∧ (0 ≤ x.st ∧ x.st < x.en ∧ x.en ≤ 120) ∧ 0 ≤ x.fn ∧ (0 ≤ x.td ∧ x.td ≤ 1500) ∧ m < x.en + l ∧ x.tm = decide (x.en ≤ m) ∧ (x.fn = 0 ↔ x.en ≤ m) := by
 have hw := okB_win h
 simp only [OrR.okB, okRow, Bool.and_eq_true, decide_eq_true_eq] at h
 obtain ⟨⟨⟨⟨⟨⟨⟨⟨⟨⟨h1, h2⟩, h3⟩, h4⟩, h5⟩, h6⟩, h7⟩, h8⟩, h9⟩, h10⟩, h11⟩ := h
 refine ⟨inB_iff.1 h1, hw, ?_, inB_iff.1 h5, h8, by simpa using h9, ?_⟩
 ·unfold okAgg at h4
  split at h4
  ·omega
  ·simp only [Bool.and_eq_true] at h4
   have := inB_iff.1 h4.1.1.1
   omega
 ·have h12 := h11
  simp only [beq_iff_eq] at h12
  by_cases hc : x.en ≤ m
  ·simp [hc] at h12
   simp [hc, h12]
  ·simp [hc] at h12
   simp [hc, h12]
theorem ok_ok3 {l m : Int} {x : OrR} (h : x.okB l m = true) : ok3 (plO x) := by
 obtain ⟨h1, h2, _⟩ := okB_all h
 exact ⟨WalkArith.wf_i64 (show _ from ⟨by simp [plO]; omega, by simp [plO]; omega⟩), WalkArith.wf_i64 (show _ from ⟨by simp [plO]; omega, by simp [plO]; omega⟩), WalkArith.wf_i64 (show _ from ⟨by simp [plO]; omega, by simp [plO]; omega⟩)⟩
theorem tel_no {l m : Int} {x : OrR} (h : x.okB l m = true) : telB m x = false := by
 obtain ⟨_, _, h3, _, _, h6, h7⟩ := okB_all h
 unfold telB
 by_cases hc : x.en ≤ m
 ·have : x.fn = 0 := h7.2 hc
  simp [this]
 ·simp [hc]
/-- One number of what is known of both. -/
def bo (n n' x x' c : Int) : Int := if n = 0 then x' else if n' = 0 then x else c
theorem bo_1 (n' x x' c : Int) : bo 0 n' x x' c = x' := rfl
theorem bo_2 {n : Int} (h : n ≠ 0) (x x' c : Int) : bo n 0 x x' c = x := by unfold bo; rw [if_neg h]; rfl
theorem bo_3 {n n' : Int} (h : n ≠ 0) (h' : n' ≠ 0) (x x' c : Int) : bo n n' x x' c = c := by unfold bo; rw [if_neg h, if_neg h']
theorem ret_agg4 {a b c d a' b' c' d' : Int} (h1 : a' = a) (h2 : b' = b) (h3 : c' = c) (h4 : d' = d) : Ending.returned (.agg #[.int .i64 a, .int .i64 b, .int .i64 c, .int .i64 d]) = .returned (.agg #[.int .i64 a', .int .i64 b', .int .i64 c', .int .i64 d']) := by rw [h1, h2, h3, h4]
set_option maxHeartbeats 1000000 in
theorem both_any (n s l m n' s' l' m' : Int) (w : World) : Calls Tryz.prog 102 #[.agg #[.int .i64 n, .int .i64 s, .int .i64 l, .int .i64 m], .agg #[.int .i64 n', .int .i64 s', .int .i64 l', .int .i64 m']] w fun e w' => e = .returned (.agg #[.int .i64 (bo n n' n n' (wrap64 (n + n'))), .int .i64 (bo n n' s s' (wrap64 (s + s'))), .int .i64 (bo n n' l l' (loI l l')), .int .i64 (bo n n' m m' (hiI m m'))]) ∧ Below w.heap.size w w' := by
 by_cases h1 : n = 0
 ·subst h1
  have hq := hide (bo_1 n')
  go_enter Tryz.func102, Tryz.ntmps102
  go_wp2
  refine bodyPost_ret (v := .agg #[.int .i64 n', .int .i64 s', .int .i64 l', .int .i64 m']) (by simp [results, Tryz.results102, go_sem] <;> omega) rfl ⟨ret_agg4 (unhide hq _ _ _) (unhide hq _ _ _) (unhide hq _ _ _) (unhide hq _ _ _), ?_⟩
  exact (belC)
 have g1 : (n == 0) = false := by simpa using h1
 by_cases h2 : n' = 0
 ·subst h2
  have hq := hide (bo_2 h1)
  clear h1
  go_enter Tryz.func102, Tryz.ntmps102
  go_wp2
  refine bodyPost_ret (v := .agg #[.int .i64 n, .int .i64 s, .int .i64 l, .int .i64 m]) (by simp [results, Tryz.results102, go_sem] <;> omega) rfl ⟨ret_agg4 (unhide hq _ _ _) (unhide hq _ _ _) (unhide hq _ _ _) (unhide hq _ _ _), ?_⟩
  exact (belC)
 have g2 : (n' == 0) = false := by simpa using h2
 have hq := hide (bo_3 h1 h2)
 clear h1 h2
 by_cases h3 : l' < l <;> by_cases h4 : m < m'
 ·have k3 := hide (loI_c h3)
  have k4 := hide (hiI_d h4)
  go_enter Tryz.func102, Tryz.ntmps102
  go_wp2
  all_goals first
   | (exfalso; omega)
   | (refine bodyPost_ret (v := .agg #[.int .i64 (wrap64 (n + n')), .int .i64 (wrap64 (s + s')), .int .i64 l', .int .i64 m']) (by simp [results, Tryz.results102, go_sem] <;> omega) rfl ⟨ret_agg4 (unhide hq _ _ _) (unhide hq _ _ _) ((unhide hq _ _ _).trans (unhide k3)) ((unhide hq _ _ _).trans (unhide k4)), ?_⟩; exact (belC))
 ·have k3 := hide (loI_c h3)
  have k4 := hide (hiI_b h4)
  go_enter Tryz.func102, Tryz.ntmps102
  go_wp2
  all_goals first
   | (exfalso; omega)
   | (refine bodyPost_ret (v := .agg #[.int .i64 (wrap64 (n + n')), .int .i64 (wrap64 (s + s')), .int .i64 l', .int .i64 m]) (by simp [results, Tryz.results102, go_sem] <;> omega) rfl ⟨ret_agg4 (unhide hq _ _ _) (unhide hq _ _ _) ((unhide hq _ _ _).trans (unhide k3)) ((unhide hq _ _ _).trans (unhide k4)), ?_⟩; exact (belC))
 ·have k3 := hide (loI_a h3)
  have k4 := hide (hiI_d h4)
  go_enter Tryz.func102, Tryz.ntmps102
  go_wp2
  all_goals first
   | (exfalso; omega)
   | (refine bodyPost_ret (v := .agg #[.int .i64 (wrap64 (n + n')), .int .i64 (wrap64 (s + s')), .int .i64 l, .int .i64 m']) (by simp [results, Tryz.results102, go_sem] <;> omega) rfl ⟨ret_agg4 (unhide hq _ _ _) (unhide hq _ _ _) ((unhide hq _ _ _).trans (unhide k3)) ((unhide hq _ _ _).trans (unhide k4)), ?_⟩; exact (belC))
 ·have k3 := hide (loI_a h3)
  have k4 := hide (hiI_b h4)
  go_enter Tryz.func102, Tryz.ntmps102
  go_wp2
  all_goals first
   | (exfalso; omega)
   | (refine bodyPost_ret (v := .agg #[.int .i64 (wrap64 (n + n')), .int .i64 (wrap64 (s + s')), .int .i64 l, .int .i64 m]) (by simp [results, Tryz.results102, go_sem] <;> omega) rfl ⟨ret_agg4 (unhide hq _ _ _) (unhide hq _ _ _) ((unhide hq _ _ _).trans (unhide k3)) ((unhide hq _ _ _).trans (unhide k4)), ?_⟩; exact (belC))
set_option maxHeartbeats 1000000 in
theorem specboth_any (n s l m n' s' l' m' : Int) (w : World) : Calls Tryz.prog 65 #[.agg #[.int .i64 n, .int .i64 s, .int .i64 l, .int .i64 m], .agg #[.int .i64 n', .int .i64 s', .int .i64 l', .int .i64 m']] w fun e w' => e = .returned (.agg #[.int .i64 (bo n n' n n' (wrap64 (n + n'))), .int .i64 (bo n n' s s' (wrap64 (s + s'))), .int .i64 (bo n n' l l' (loI l l')), .int .i64 (bo n n' m m' (hiI m m'))]) ∧ Below w.heap.size w w' := by
 by_cases h1 : n = 0
 ·subst h1
  have hq := hide (bo_1 n')
  go_enter Tryz.func65, Tryz.ntmps65
  go_wp2
  refine bodyPost_ret (v := .agg #[.int .i64 n', .int .i64 s', .int .i64 l', .int .i64 m']) (by simp [results, Tryz.results65, go_sem] <;> omega) rfl ⟨ret_agg4 (unhide hq _ _ _) (unhide hq _ _ _) (unhide hq _ _ _) (unhide hq _ _ _), ?_⟩
  exact (belC)
 have g1 : (n == 0) = false := by simpa using h1
 by_cases h2 : n' = 0
 ·subst h2
  have hq := hide (bo_2 h1)
  clear h1
  go_enter Tryz.func65, Tryz.ntmps65
  go_wp2
  refine bodyPost_ret (v := .agg #[.int .i64 n, .int .i64 s, .int .i64 l, .int .i64 m]) (by simp [results, Tryz.results65, go_sem] <;> omega) rfl ⟨ret_agg4 (unhide hq _ _ _) (unhide hq _ _ _) (unhide hq _ _ _) (unhide hq _ _ _), ?_⟩
  exact (belC)
 have g2 : (n' == 0) = false := by simpa using h2
 have hq := hide (bo_3 h1 h2)
 clear h1 h2
 by_cases h3 : l' < l <;> by_cases h4 : m < m'
 ·have k3 := hide (loI_c h3)
  have k4 := hide (hiI_d h4)
  go_enter Tryz.func65, Tryz.ntmps65
  go_wp2
  all_goals first
   | (exfalso; omega)
   | (refine bodyPost_ret (v := .agg #[.int .i64 (wrap64 (n + n')), .int .i64 (wrap64 (s + s')), .int .i64 l', .int .i64 m']) (by simp [results, Tryz.results65, go_sem] <;> omega) rfl ⟨ret_agg4 (unhide hq _ _ _) (unhide hq _ _ _) ((unhide hq _ _ _).trans (unhide k3)) ((unhide hq _ _ _).trans (unhide k4)), ?_⟩; exact (belC))
 ·have k3 := hide (loI_c h3)
  have k4 := hide (hiI_b h4)
  go_enter Tryz.func65, Tryz.ntmps65
  go_wp2
  all_goals first
   | (exfalso; omega)
   | (refine bodyPost_ret (v := .agg #[.int .i64 (wrap64 (n + n')), .int .i64 (wrap64 (s + s')), .int .i64 l', .int .i64 m]) (by simp [results, Tryz.results65, go_sem] <;> omega) rfl ⟨ret_agg4 (unhide hq _ _ _) (unhide hq _ _ _) ((unhide hq _ _ _).trans (unhide k3)) ((unhide hq _ _ _).trans (unhide k4)), ?_⟩; exact (belC))
 ·have k3 := hide (loI_a h3)
  have k4 := hide (hiI_d h4)
  go_enter Tryz.func65, Tryz.ntmps65
  go_wp2
  all_goals first
   | (exfalso; omega)
   | (refine bodyPost_ret (v := .agg #[.int .i64 (wrap64 (n + n')), .int .i64 (wrap64 (s + s')), .int .i64 l, .int .i64 m']) (by simp [results, Tryz.results65, go_sem] <;> omega) rfl ⟨ret_agg4 (unhide hq _ _ _) (unhide hq _ _ _) ((unhide hq _ _ _).trans (unhide k3)) ((unhide hq _ _ _).trans (unhide k4)), ?_⟩; exact (belC))
 ·have k3 := hide (loI_a h3)
  have k4 := hide (hiI_b h4)
  go_enter Tryz.func65, Tryz.ntmps65
  go_wp2
  all_goals first
   | (exfalso; omega)
   | (refine bodyPost_ret (v := .agg #[.int .i64 (wrap64 (n + n')), .int .i64 (wrap64 (s + s')), .int .i64 l, .int .i64 m]) (by simp [results, Tryz.results65, go_sem] <;> omega) rfl ⟨ret_agg4 (unhide hq _ _ _) (unhide hq _ _ _) ((unhide hq _ _ _).trans (unhide k3)) ((unhide hq _ _ _).trans (unhide k4)), ?_⟩; exact (belC))
theorem with_any (n s l m v : Int) (w : World) : Calls Tryz.prog 100 #[.agg #[.int .i64 n, .int .i64 s, .int .i64 l, .int .i64 m], .int .i64 v] w fun e w' => e = .returned (.agg #[.int .i64 (bo n 1 n 1 (wrap64 (n + 1))), .int .i64 (bo n 1 s v (wrap64 (s + v))), .int .i64 (bo n 1 l v (loI l v)), .int .i64 (bo n 1 m v (hiI m v))]) ∧ Below w.heap.size w w' := by
 go_enter Tryz.func100, Tryz.ntmps100
 go_wp2_with (first
  | (go_at_call 102; refine (both_any _ _ _ _ _ _ _ _ _).mono ?_; rintro e w' ⟨rfl, hb⟩; obtain ⟨hc, hf, hs⟩ := bcell hb; (try have hz0 := zA hb w.heap.size); (try have hz1 := zA hb (w.heap.size + 1)); (try have hz2 := zA hb (w.heap.size + 2))))
 refine bodyPost_ret (v := .agg #[.int .i64 (bo n 1 n 1 (wrap64 (n + 1))), .int .i64 (bo n 1 s v (wrap64 (s + v))), .int .i64 (bo n 1 l v (loI l v)), .int .i64 (bo n 1 m v (hiI m v))]) (by simp [results, Tryz.results100, go_sem, hc]) rfl ⟨rfl, ?_⟩
 exact (belC)
theorem specadd_any (n s l m v : Int) (w : World) : Calls Tryz.prog 63 #[.agg #[.int .i64 n, .int .i64 s, .int .i64 l, .int .i64 m], .int .i64 v] w fun e w' => e = .returned (.agg #[.int .i64 (bo n 1 n 1 (wrap64 (n + 1))), .int .i64 (bo n 1 s v (wrap64 (s + v))), .int .i64 (bo n 1 l v (loI l v)), .int .i64 (bo n 1 m v (hiI m v))]) ∧ Below w.heap.size w w' := by
 go_enter Tryz.func63, Tryz.ntmps63
 go_wp2_with (first
  | (go_at_call 65; refine (specboth_any _ _ _ _ _ _ _ _ _).mono ?_; rintro e w' ⟨rfl, hb⟩; obtain ⟨hc, hf, hs⟩ := bcell hb; (try have hz0 := zA hb w.heap.size); (try have hz1 := zA hb (w.heap.size + 1)); (try have hz2 := zA hb (w.heap.size + 2))))
 refine bodyPost_ret (v := .agg #[.int .i64 (bo n 1 n 1 (wrap64 (n + 1))), .int .i64 (bo n 1 s v (wrap64 (s + v))), .int .i64 (bo n 1 l v (loI l v)), .int .i64 (bo n 1 m v (hiI m v))]) (by simp [results, Tryz.results63, go_sem, hc]) rfl ⟨rfl, ?_⟩
 exact (belC)
/-- A row of 2 numbers. -/
structure WnR where
 a : Int
 b : Int
/-- A row lies in its cells; rows lie one behind the other; a slice's value holds rows. -/
def WnRAt (W : World) (g o : Nat) (x : WnR) : Prop := W.cell? ⟨g, o, none⟩ = some (.int .i64 x.a) ∧ W.cell? ⟨g, o + 1, none⟩ = some (.int .i64 x.b)
def WnRsAt (W : World) (g o : Nat) (xs : List WnR) : Prop := ∀ i x, xs[i]? = some x → WnRAt W g (o + i * 2) x
def WnRs (W : World) (a : Option Addr) (len : Nat) (xs : List WnR) : Prop := xs.length = len ∧ len ≤ maxLen ∧ (len = 0 ∨ ∃ g o, a = some ⟨g, o, none⟩ ∧ WnRsAt W g o xs)
theorem WnRAt.lt {W : World} {g o : Nat} {x : WnR} (h : WnRAt W g o x) : g < W.heap.size := by
 obtain ⟨h0, _⟩ := h
 rcases Nat.lt_or_ge g W.heap.size with hl | hg
 ·exact hl
 ·simp [World.cell?, Array.getElem?_eq_none hg] at h0
theorem WnRsAt.lt {W : World} {g o : Nat} {xs : List WnR} (h : WnRsAt W g o xs) (hp : 0 < xs.length) : g < W.heap.size := (h 0 xs[0] (List.getElem?_eq_getElem hp)).lt
theorem WnRAt.below {W W' : World} {B g o : Nat} {x : WnR} (h : WnRAt W g o x) (hb : Below B W W') (hg : g < B) : WnRAt W' g o x := by
 obtain ⟨h0, h1⟩ := h
 exact ⟨(hb.cell (p := ⟨g, _, none⟩) hg).trans h0, (hb.cell (p := ⟨g, _, none⟩) hg).trans h1⟩
theorem WnRsAt.below {W W' : World} {B g o : Nat} {xs : List WnR} (h : WnRsAt W g o xs) (hb : Below B W W') (hg : 0 < xs.length → g < B) : WnRsAt W' g o xs := by
 intro i x hx
 have hlt : i < xs.length := (List.getElem?_eq_some_iff.1 hx).1
 exact (h i x hx).below hb (hg (by omega))
theorem WnRs.below {W W' : World} {a : Option Addr} {len : Nat} {xs : List WnR} (h : WnRs W a len xs) (hb : Below W.heap.size W W') : WnRs W' a len xs := by
 obtain ⟨h1, h2, h3⟩ := h
 refine ⟨h1, h2, ?_⟩
 rcases h3 with h3 | ⟨g, o, ha, hr⟩
 ·exact Or.inl h3
 ·exact Or.inr ⟨g, o, ha, hr.below hb (fun hp => hr.lt hp)⟩
theorem WnRAt.grown {W W' : World} {row : Option Nat} {g o : Nat} {x : WnR} (h : WnRAt W g o x) (hg : W.grownBy W' row) (hne : some g ≠ row) : WnRAt W' g o x := by
 have hbk := hg.block g h.lt hne
 obtain ⟨h0, h1⟩ := h
 exact ⟨(World.cell?_of_block (w := W) hbk).trans h0, (World.cell?_of_block (w := W) hbk).trans h1⟩
theorem WnRs.grown {W W' : World} {row : Option Nat} {a : Option Addr} {n : Nat} {xs : List WnR} (h : WnRs W a n xs) (hg : W.grownBy W' row) (hne : ∀ g o, 0 < n → a = some ⟨g, o, none⟩ → some g ≠ row) : WnRs W' a n xs := by
 obtain ⟨h1, h2, h3⟩ := h
 refine ⟨h1, h2, ?_⟩
 rcases h3 with h3 | ⟨g, o, ha, hr⟩
 ·exact Or.inl h3
 ·refine Or.inr ⟨g, o, ha, fun i x hx => (hr i x hx).grown hg (hne g o ?_ ha)⟩
  have hlt : i < xs.length := (List.getElem?_eq_some_iff.1 hx).1
  omega
theorem WnRs.lt {W : World} {g o n : Nat} {xs : List WnR} (h : WnRs W (some ⟨g, o, none⟩) n xs) (hp : 0 < n) : g < W.heap.size := by
 obtain ⟨h1, h2, h3⟩ := h
 obtain ⟨g', o', ha, hr⟩ := h3.resolve_left (by omega)
 simp at ha
 have := hr.lt (by omega)
 omega
/-- A row is stored; a block of rows, known whole. -/
def setWn (W : World) (g o : Nat) (x : WnR) : World := ((W.setCell ⟨g, o, none⟩ (.int .i64 x.a)).setCell ⟨g, o + 1, none⟩ (.int .i64 x.b))
def BlkWn (W : World) (g ty len : Nat) : Prop := ∃ cur, W.heap[g]? = some (.cells cur ty (0, 0)) ∧ cur.size = len * 2
theorem BlkWn.set {W : World} {g ty len i : Nat} (h : BlkWn W g ty len) (v : Value) : BlkWn (W.setCell ⟨g, i, none⟩ v) g ty len := by
 obtain ⟨cur, h1, h2⟩ := h
 exact ⟨_, Joins.block_setCell h1 v, by simp [h2]⟩
theorem BlkWn.below {W W' : World} {g ty len B : Nat} (h : BlkWn W g ty len) (hb : Below B W W') (hg : g < B) : BlkWn W' g ty len := by
 obtain ⟨cur, h1, h2⟩ := h
 exact ⟨cur, (hb.block g hg).trans h1, h2⟩
theorem BlkWn.lt {W : World} {g ty len : Nat} (h : BlkWn W g ty len) : g < W.heap.size := by
 obtain ⟨cur, h1, h2⟩ := h
 exact (Array.getElem?_eq_some_iff.1 h1).1
theorem BlkWn.cell {W : World} {g ty len i : Nat} (h : BlkWn W g ty len) (hi : i < len * 2) : ∃ u, W.cell? ⟨g, i, none⟩ = some u := by
 obtain ⟨cur, h1, h2⟩ := h
 exact ⟨_, (Joins.cell_of_block h1 i).trans (Array.getElem?_eq_getElem (by omega))⟩
theorem BlkWn.frozen {W : World} {g ty len i : Nat} (h : BlkWn W g ty len) : W.frozen? ⟨g, i, none⟩ = false := by
 obtain ⟨cur, h1, h2⟩ := h
 exact Joins.unfrozen_of_block h1 i
theorem BlkWn.cells {W : World} {g ty len k : Nat} (h : BlkWn W g ty len) (hk : k < len) : (∃ u, W.cell? ⟨g, k * 2, none⟩ = some u) ∧ (∃ u, W.cell? ⟨g, k * 2 + 1, none⟩ = some u) := ⟨h.cell (by omega), h.cell (by omega)⟩
theorem BlkWn.sets {W : World} {g ty len o : Nat} (h : BlkWn W g ty len) (x : WnR) : BlkWn (setWn W g o x) g ty len := ((h.set _).set _)
/-- The cells of rows; a slice of the call's own that holds rows. -/
def WnR.cells (x : WnR) : List Value := [.int .i64 x.a, .int .i64 x.b]
def flatWn (xs : List WnR) : List Value := xs.flatMap WnR.cells
theorem flatWn_snoc (xs : List WnR) (x : WnR) : flatWn (xs ++ [x]) = flatWn xs ++ x.cells := by simp [flatWn]
theorem flatWn_get {xs : List WnR} {i : Nat} {x : WnR} (h : xs[i]? = some x) : (flatWn xs)[i * 2]? = some (.int .i64 x.a) ∧ (flatWn xs)[i * 2 + 1]? = some (.int .i64 x.b) := by
 induction xs generalizing i with
 | nil => simp at h
 | cons y r ih =>
  have hf : flatWn (y :: r) = y.cells ++ flatWn r := rfl
  cases i with
  | zero =>
   simp at h
   subst h
   rw [hf]
   exact ⟨rfl, rfl⟩
  | succ i =>
   simp at h
   obtain ⟨h0, h1⟩ := ih h
   have hl : y.cells.length = 2 := rfl
   rw [hf]
   refine ⟨?_, ?_⟩
   ·rw [List.getElem?_append_right (by omega), hl, show (i + 1) * 2 - 2 = i * 2 by omega]; exact h0
   ·rw [List.getElem?_append_right (by omega), hl, show (i + 1) * 2 + 1 - 2 = i * 2 + 1 by omega]; exact h1
def OwnWn (W : World) (B : Nat) (v : Value) (ys : List WnR) : Prop := W.ownsRow B 64 2 v ys.length (flatWn ys)
theorem ownWn_ge {W : World} {B : Nat} {v : Value} {ys : List WnR} (h : OwnWn W B v ys) : ∀ k, v.ownBlock = some k → B ≤ k := by
 intro k hk
 rcases h.2 with ⟨rfl, _⟩ | ⟨g, cap, cur, rfl, hg, _⟩
 ·cases hk
 ·simp [Value.ownBlock] at hk; omega
theorem ownWn_snoc {w1 : World} {B : Nat} {v' : Value} {ys : List WnR} {x : WnR} (ho : w1.ownsRow B 64 2 v' (ys.length + 1) (flatWn ys ++ x.cells)) : OwnWn w1 B v' (ys ++ [x]) := by
 unfold OwnWn
 rw [flatWn_snoc]
 simpa using ho
theorem cells_newWn (w : World) (a b : Int) (ty : Nat) : ∀ j u, ([.int .i64 a, .int .i64 b] : List Value)[j]? = some u → (w.alloc (.cells #[.int .i64 a, .int .i64 b] ty)).cell? ((⟨w.heap.size, 0, none⟩ : Addr).add j) = some u := by
 intro j u hj
 have e : ((⟨w.heap.size, 0, none⟩ : Addr).add j) = ⟨w.heap.size, j, none⟩ := by
  unfold Addr.add
  split
  ·rename_i h0; rw [h0]
  ·simp
 rw [e]
 simpa [go_sem] using hj
theorem cells_atWn (w : World) (a b : Int) (ty : Nat) {g : Nat} (hg : g = w.heap.size) : ∀ j u, ([.int .i64 a, .int .i64 b] : List Value)[j]? = some u → (w.alloc (.cells #[.int .i64 a, .int .i64 b] ty)).cell? ((⟨g, 0, none⟩ : Addr).add j) = some u := by
 subst hg
 exact cells_newWn w a b ty
def markWn (i : Nat) : WnR := ⟨1 + 2 * (i : Int), 1 + 2 * (i : Int) + 1⟩
def WrWn (W : World) (a : Option Addr) (n cap : Nat) : Prop := n = 0 ∨ ∃ g, a = some ⟨g, 0, none⟩ ∧ BlkWn W g 64 cap ∧ n ≤ cap
def MarkedWn (W : World) (a : Option Addr) (n : Nat) : Prop := n = 0 ∨ ∃ g, a = some ⟨g, 0, none⟩ ∧ ∀ i, i < n → WnRAt W g (i * 2) (markWn i)
theorem grown0Wn {W W' : World} (h : Below W.heap.size W W') : W.grownBy W' none := ⟨h.os, h.tape, h.output, h.size, fun k hk _ => h.block k hk⟩
theorem MarkedWn.below {W W' : World} {a : Option Addr} {n : Nat} (h : MarkedWn W a n) (hb : Below W.heap.size W W') : MarkedWn W' a n := by
 rcases h with h | ⟨g, ha, hM⟩
 ·exact Or.inl h
 ·exact Or.inr ⟨g, ha, fun i hi => (hM i hi).below hb (hM i hi).lt⟩
theorem holdWn {W : World} {B : Nat} {v : Value} {ys : List WnR} (h : OwnWn W B v ys) (hl : ys.length ≤ 1048576) :
  ∃ a cap, v = .slice a ys.length cap ∧ WnRs W a ys.length ys ∧ WrWn W a ys.length cap ∧ ∀ g o, 0 < ys.length → a = some ⟨g, o, none⟩ → B ≤ g := by
 have hm : ys.length ≤ maxLen := by unfold maxLen; omega
 obtain ⟨hlen, h | ⟨g, cap, cur, rfl, hB, hblk, hnc, hcm, hsz, htk⟩⟩ := h
 ·obtain ⟨rfl, h0⟩ := h
  rw [h0]
  exact ⟨none, 0, rfl, ⟨h0, Nat.zero_le _, Or.inl rfl⟩, Or.inl rfl, fun _ _ hp => by omega⟩
 ·refine ⟨_, cap, rfl, ⟨rfl, hm, Or.inr ⟨g, 0, rfl, ?_⟩⟩, Or.inr ⟨g, rfl, ⟨cur, hblk, hsz⟩, hnc⟩, fun g' o' _ e => by simp at e; omega⟩
  intro i x hx
  have hi : i < ys.length := (List.getElem?_eq_some_iff.1 hx).1
  have hcell : ∀ j u, j < ys.length * 2 → (flatWn ys)[j]? = some u → W.cell? ⟨g, j, none⟩ = some u := by
   intro j u hj hu
   rw [Joins.cell_of_block hblk j, ← Array.getElem?_toList]
   rw [← htk, List.getElem?_take_of_lt hj] at hu
   exact hu
  obtain ⟨f0, f1⟩ := flatWn_get hx
  rw [Nat.zero_add]
  exact ⟨hcell _ _ (by omega) f0, hcell _ _ (by omega) f1⟩
theorem WrWn.below {W W' : World} {a : Option Addr} {n cap : Nat} (h : WrWn W a n cap) (hb : Below W.heap.size W W') : WrWn W' a n cap := by
 rcases h with h | ⟨g, ha, hB, hc⟩
 ·exact Or.inl h
 ·exact Or.inr ⟨g, ha, hB.below hb hB.lt, hc⟩
theorem WrWn.grown {W W' : World} {row : Option Nat} {a : Option Addr} {n cap : Nat} (h : WrWn W a n cap) (hg : W.grownBy W' row) (hne : ∀ g o, 0 < n → a = some ⟨g, o, none⟩ → some g ≠ row) : WrWn W' a n cap := by
 rcases h with h | ⟨g, ha, hB, hc⟩
 ·exact Or.inl h
 ·by_cases h0 : n = 0
  ·exact Or.inl h0
  ·obtain ⟨cur, c1, c2⟩ := hB
   exact Or.inr ⟨g, ha, ⟨cur, (hg.block g (Array.getElem?_eq_some_iff.1 c1).1 (hne g 0 (by omega) ha)).trans c1, c2⟩, hc⟩
set_option linter.unusedSimpArgs false
abbrev A4 := Int × Int × Int × Int
def addA (g : A4) (v : Int) : A4 := (bo g.1 1 g.1 1 (wrap64 (g.1 + 1)), bo g.1 1 g.2.1 v (wrap64 (g.2.1 + v)), bo g.1 1 g.2.2.1 v (loI g.2.2.1 v), bo g.1 1 g.2.2.2 v (hiI g.2.2.2 v))
def bothA (g h : A4) : A4 := (bo g.1 h.1 g.1 h.1 (wrap64 (g.1 + h.1)), bo g.1 h.1 g.2.1 h.2.1 (wrap64 (g.2.1 + h.2.1)), bo g.1 h.1 g.2.2.1 h.2.2.1 (loI g.2.2.1 h.2.2.1), bo g.1 h.1 g.2.2.2 h.2.2.2 (hiI g.2.2.2 h.2.2.2))
def allA (x : OrR) : A4 := (x.an, x.asu, x.ale, x.amo)
def frA (x : OrR) : A4 := (x.fn, x.fsu, x.fle, x.fmo)
/-- A row that knows of one value more; a new row; the row of no window. -/
def knowX (x : OrR) (v : Int) : OrR := ⟨x.ky, x.st, x.en, (addA (allA x) v).1, (addA (allA x) v).2.1, (addA (allA x) v).2.2.1, (addA (allA x) v).2.2.2, (addA (frA x) v).1, (addA (frA x) v).2.1, (addA (frA x) v).2.2.1, (addA (frA x) v).2.2.2, x.td, x.tm⟩
def newX (q : P3) (g : A4) : OrR := ⟨q.1, q.2.1, q.2.2, g.1, g.2.1, g.2.2.1, g.2.2.2, g.1, g.2.1, g.2.2.1, g.2.2.2, 0, false⟩
def zerO (q : P3) : OrR := ⟨q.1, q.2.1, q.2.2, 0, 0, 0, 0, 0, 0, 0, 0, 0, false⟩
theorem knowX_zero (q : P3) (v : Int) : knowX (zerO q) v = newX q (addA (0, 0, 0, 0) v) := rfl
instance decPl (a b : P3) : Decidable (ltPl a b) := by unfold ltPl; infer_instance
abbrev RiseO (xs : List OrR) : Prop := xs.Pairwise (fun x y => ltPl (plO x) (plO y))
def insO (r : OrR) : List OrR → List OrR
 | [] => [r]
 | x :: xs => if ltPl (plO r) (plO x) then r :: x :: xs else x :: insO r xs
def offO (q : P3) (xs : List OrR) : List OrR := xs.filter (fun x => !decide (plO x = q))
def putO (r : OrR) (xs : List OrR) : List OrR := insO r (offO (plO r) xs)
def fndO (q : P3) (xs : List OrR) : Option OrR := xs.find? (fun x => decide (plO x = q))
/-- The row of a place that knows of one value more. -/
def nexO (q : P3) (v : Int) (xs : List OrR) : OrR := knowX ((fndO q xs).getD (zerO q)) v
def gTx (m : Int) (x : OrR) : OrR := if telB m x = true then toldX x else x
def tlF (pc : Bool) (m : Int) (xs : List OrR) (r : OrR) : List OrR × List PnR := if m < r.en then (putO r xs, []) else (putO (toldX r) xs, [panX pc r])
theorem gTx_pl (m : Int) (x : OrR) : plO (gTx m x) = plO x := by unfold gTx; split <;> rfl
theorem fndO_pl {q : P3} {xs : List OrR} {x : OrR} (h : fndO q xs = some x) : plO x = q ∧ x ∈ xs := ⟨by simpa using List.find?_some h, List.mem_of_find?_eq_some h⟩
theorem nexO_pl (q : P3) (v : Int) (xs : List OrR) : plO (nexO q v xs) = q := by
 unfold nexO
 cases h : fndO q xs with
 | none => rfl
 | some x => exact (fndO_pl h).1
theorem insO_map {f : OrR → OrR} (hf : ∀ x, plO (f x) = plO x) (r : OrR) : ∀ xs : List OrR, (insO r xs).map f = insO (f r) (xs.map f)
 | [] => rfl
 | x :: xs => by
  simp only [insO, List.map_cons, hf]
  by_cases h : ltPl (plO r) (plO x)
  ·rw [if_pos h, if_pos h]; rfl
  ·rw [if_neg h, if_neg h, List.map_cons, insO_map hf r xs]
theorem offO_map {f : OrR → OrR} (hf : ∀ x, plO (f x) = plO x) (q : P3) (xs : List OrR) : (offO q xs).map f = offO q (xs.map f) := by
 unfold offO
 rw [List.filter_map]
 congr 1
 refine List.filter_congr (fun x _ => ?_)
 simp only [Function.comp, hf]
theorem putO_map {f : OrR → OrR} (hf : ∀ x, plO (f x) = plO x) (r : OrR) (xs : List OrR) : (putO r xs).map f = putO (f r) (xs.map f) := by
 unfold putO
 rw [insO_map hf, offO_map hf, hf]
theorem insO_mem {r : OrR} : ∀ {xs : List OrR} {y : OrR}, y ∈ insO r xs ↔ y = r ∨ y ∈ xs
 | [], y => by simp [insO]
 | x :: xs, y => by
  unfold insO
  split
  ·simp
  ·rw [List.mem_cons, insO_mem, List.mem_cons]
   constructor
   ·rintro (h | h | h) <;> simp [h]
   ·rintro (h | h | h) <;> simp [h]
theorem offO_mem {q : P3} {xs : List OrR} {y : OrR} : y ∈ offO q xs ↔ y ∈ xs ∧ ¬ plO y = q := by
 unfold offO
 rw [List.mem_filter]
 simp
theorem putO_mem {r : OrR} {xs : List OrR} {y : OrR} : y ∈ putO r xs ↔ y = r ∨ (y ∈ xs ∧ ¬ plO y = plO r) := by
 unfold putO
 rw [insO_mem, offO_mem]
theorem insO_rise {r : OrR} : ∀ {xs : List OrR}, RiseO xs → (∀ x ∈ xs, ¬ plO x = plO r) → RiseO (insO r xs)
 | [], _, _ => by simp [insO, RiseO]
 | x :: xs, h, hn => by
  have hc := List.pairwise_cons.1 h
  unfold insO
  split
  ·rename_i hl
   refine List.pairwise_cons.2 ⟨fun y hy => ?_, h⟩
   rcases List.mem_cons.1 hy with rfl | hy
   ·exact hl
   ·exact ltPl_tr hl (hc.1 y hy)
  ·rename_i hl
   refine List.pairwise_cons.2 ⟨fun y hy => ?_, insO_rise hc.2 (fun z hz => hn z (List.mem_cons_of_mem _ hz))⟩
   rcases insO_mem.1 hy with rfl | hy
   ·rcases ltPl_tri (plO x) (plO y) with h9 | h9 | h9
    ·exact h9
    ·exact absurd h9 (hn x (by simp))
    ·exact absurd h9 hl
   ·exact hc.1 y hy
theorem putO_rise {r : OrR} {xs : List OrR} (h : RiseO xs) : RiseO (putO r xs) := insO_rise (h.sublist List.filter_sublist) (fun x hx => (offO_mem.1 hx).2)
theorem putO_len (r : OrR) (xs : List OrR) : (putO r xs).length ≤ xs.length + 1 := by
 have h1 : ∀ ys : List OrR, (insO r ys).length = ys.length + 1 := by
  intro ys
  induction ys with
  | nil => rfl
  | cons y ys ih => unfold insO; split <;> simp [ih]
 unfold putO
 rw [h1]
 have := List.length_filter_le (fun x : OrR => !decide (plO x = plO r)) xs
 unfold offO
 omega
/-- What is picked behind a put row, where all that was picked lies ahead of it. -/
theorem ins_filter_behind {p : OrR → Bool} {r : OrR} (hr : p r = true) : ∀ {xs : List OrR}, RiseO xs → (∀ x ∈ xs, p x = true → ltPl (plO x) (plO r)) → (insO r xs).filter p = xs.filter p ++ [r]
 | [], _, _ => by simp [insO, hr]
 | x :: xs, h, hp => by
  have hc := List.pairwise_cons.1 h
  unfold insO
  split
  ·rename_i hl
   have hno : ∀ y ∈ x :: xs, p y = false := by
    intro y hy
    cases hy9 : p y with
    | false => rfl
    | true =>
     have h1 := hp y hy hy9
     have h2 : ltPl (plO r) (plO y) := by
      rcases List.mem_cons.1 hy with rfl | hy
      ·exact hl
      ·exact ltPl_tr hl (hc.1 y hy)
     exact absurd (ltPl_tr h1 h2) (ltPl_irr _)
   have h0 : (x :: xs).filter p = [] := List.filter_eq_nil_iff.2 (fun y hy => by rw [hno y hy]; simp)
   rw [List.filter_cons, if_pos hr, h0]
   rfl
  ·rw [List.filter_cons, List.filter_cons, ins_filter_behind hr hc.2 (fun y hy => hp y (List.mem_cons_of_mem _ hy))]
   split <;> rfl
theorem ins_filter_not {p : OrR → Bool} {r : OrR} (hr : p r = false) : ∀ {xs : List OrR}, (insO r xs).filter p = xs.filter p
 | [] => by simp [insO, hr]
 | x :: xs => by
  unfold insO
  split
  ·rw [List.filter_cons (x := r), if_neg (by rw [hr]; simp)]
  ·rw [List.filter_cons, List.filter_cons, ins_filter_not hr]
theorem off_filter {p : OrR → Bool} {q : P3} {xs : List OrR} (h : ∀ x ∈ xs, plO x = q → p x = false) : (offO q xs).filter p = xs.filter p := by
 unfold offO
 rw [List.filter_filter]
 refine List.filter_congr (fun x hx => ?_)
 by_cases h9 : plO x = q
 ·simp [h x hx h9]
 ·simp [h9]
/-- How a row is told behind one value more. -/
theorem know_fn {x : OrR} {v : Int} (h : 0 ≤ x.fn ∧ x.fn ≤ 1000000) : 0 < (knowX x v).fn := by
 show 0 < bo x.fn 1 x.fn 1 (wrap64 (x.fn + 1))
 unfold bo
 split
 ·decide
 ·have : wrap64 (x.fn + 1) = x.fn + 1 := by unfold wrap64; omega
  simp [this]
  omega
theorem tel_know {m : Int} {x : OrR} {v : Int} (h : 0 ≤ x.fn ∧ x.fn ≤ 1000000) : telB m (knowX x v) = decide (x.en ≤ m) := by
 unfold telB
 have := know_fn (v := v) h
 simp [this]
 rfl
structure TkI (pc : Bool) (m : Int) (xs ys : List OrR) (ps : List PnR) (q : P3) : Prop where
 rows : xs = ys.map (gTx m)
 pans : ps = (ys.filter (telB m)).map (panX pc)
 rise : RiseO ys
 ahead : ∀ y ∈ ys, telB m y = true → ltPl (plO y) q
 fresh : ∀ y ∈ ys, ¬ ltPl (plO y) q → 0 ≤ y.fn ∧ y.fn ≤ 1000000
theorem TkI.same {pc : Bool} {m : Int} {xs ys : List OrR} {ps : List PnR} {q : P3} (h : TkI pc m xs ys ps q) : fndO q xs = fndO q ys := by
 rw [h.rows]
 unfold fndO
 rw [List.find?_map]
 have e1 : ((fun x : OrR => decide (plO x = q)) ∘ gTx m) = fun x => decide (plO x = q) := by funext x; simp only [Function.comp, gTx_pl]
 rw [e1]
 cases hf : ys.find? (fun x => decide (plO x = q)) with
 | none => rfl
 | some y =>
  have hy : plO y = q := by simpa using List.find?_some hf
  have hm : y ∈ ys := List.mem_of_find?_eq_some hf
  show some (gTx m y) = some y
  congr 1
  unfold gTx
  rw [if_neg]
  intro h9
  have := h.ahead y hm h9
  rw [hy] at this
  exact ltPl_irr _ this
/-- A row more: the specification tells of it at once, the program behind all of them. -/
theorem TkI.put {pc : Bool} {m : Int} {xs ys : List OrR} {ps : List PnR} {q : P3} (h : TkI pc m xs ys ps q) {r : OrR} (hp : plO r = q) (htel : telB m r = decide (r.en ≤ m)) {q' : P3} (hq : ltPl q q') :
  TkI pc m (tlF pc m xs r).1 (putO r ys) (ps ++ (tlF pc m xs r).2) q' := by
 have hno : ∀ y ∈ ys, plO y = q → telB m y = false := by
  intro y hy h9
  cases h8 : telB m y with
  | false => rfl
  | true =>
   have := h.ahead y hy h8
   rw [h9] at this
   exact absurd this (ltPl_irr _)
 have hrise : RiseO (offO q ys) := h.rise.sublist List.filter_sublist
 have hah : ∀ y ∈ offO q ys, telB m y = true → ltPl (plO y) (plO r) := fun y hy h9 => by rw [hp]; exact h.ahead y (offO_mem.1 hy).1 h9
 have hfr : ∀ y ∈ putO r ys, ¬ ltPl (plO y) q' → 0 ≤ y.fn ∧ y.fn ≤ 1000000 := by
  intro y hy h9
  rcases putO_mem.1 hy with rfl | ⟨hy, _⟩
  ·rw [hp] at h9
   exact absurd hq h9
  ·exact h.fresh y hy (fun h8 => h9 (ltPl_tr h8 hq))
 have hah2 : ∀ y ∈ putO r ys, telB m y = true → ltPl (plO y) q' := by
  intro y hy h9
  rcases putO_mem.1 hy with rfl | ⟨hy, _⟩
  ·rw [hp]; exact hq
  ·exact ltPl_tr (h.ahead y hy h9) hq
 by_cases hm : m < r.en
 ·have ht : telB m r = false := by rw [htel]; simp; omega
  have e1 : tlF pc m xs r = (putO r xs, []) := by unfold tlF; rw [if_pos hm]
  rw [e1]
  refine ⟨?_, ?_, putO_rise h.rise, hah2, hfr⟩
  ·rw [putO_map (gTx_pl m), ← h.rows]
   have : gTx m r = r := by unfold gTx; rw [if_neg (by rw [ht]; simp)]
   rw [this]
  ·show ps ++ [] = _
   rw [List.append_nil, h.pans]
   unfold putO
   rw [ins_filter_not ht, hp, off_filter hno]
 ·have ht : telB m r = true := by rw [htel]; simp; omega
  have e1 : tlF pc m xs r = (putO (toldX r) xs, [panX pc r]) := by unfold tlF; rw [if_neg hm]
  rw [e1]
  refine ⟨?_, ?_, putO_rise h.rise, hah2, hfr⟩
  ·rw [putO_map (gTx_pl m), ← h.rows]
   have : gTx m r = toldX r := by unfold gTx; rw [if_pos ht]
   rw [this]
  ·show ps ++ [panX pc r] = _
   rw [h.pans]
   unfold putO
   rw [hp, ins_filter_behind ht hrise hah, off_filter hno, List.map_append]
   rfl
theorem TkI.step {pc : Bool} {m : Int} {xs ys : List OrR} {ps : List PnR} {q : P3} (h : TkI pc m xs ys ps q) (v : Int) {q' : P3} (hq : ltPl q q') :
  TkI pc m (tlF pc m xs (nexO q v xs)).1 (putO (nexO q v ys) ys) (ps ++ (tlF pc m xs (nexO q v xs)).2) q' := by
 have hs : nexO q v xs = nexO q v ys := by unfold nexO; rw [h.same]
 rw [hs]
 refine h.put (nexO_pl q v ys) ?_ hq
 unfold nexO
 cases hf : fndO q ys with
 | none => exact tel_know ⟨(show (0 : Int) ≤ 0 by decide), (show (0 : Int) ≤ 1000000 by decide)⟩
 | some y =>
  have := fndO_pl hf
  exact tel_know (h.fresh y this.2 (by rw [this.1]; exact ltPl_irr _))
theorem TkI.next {pc : Bool} {m : Int} {xs ys : List OrR} {ps : List PnR} {q q' : P3} (h : TkI pc m xs ys ps q) (hq : ltPl q q') : TkI pc m xs ys ps q' := ⟨h.rows, h.pans, h.rise, fun y hy h9 => ltPl_tr (h.ahead y hy h9) hq, fun y hy h9 => h.fresh y hy (fun h8 => h9 (ltPl_tr h8 hq))⟩
theorem TkI.start {pc : Bool} {l m : Int} {xs : List OrR} (h : RiseO xs) (hok : ∀ x ∈ xs, x.okB l m = true) (hf : ∀ x ∈ xs, x.fn ≤ 1000000) (q : P3) : TkI pc m xs xs [] q := by
 have hno : ∀ x ∈ xs, telB m x = false := fun x hx => tel_no (hok x hx)
 refine ⟨?_, ?_, h, (fun y hy h9 => by rw [hno y hy] at h9; cases h9), fun y hy _ => ⟨(okB_all (hok y hy)).2.2.1, hf y hy⟩⟩
 ·have : xs.map (gTx m) = xs.map id := List.map_congr_left (fun x hx => by unfold gTx; rw [if_neg (by rw [hno x hx]; simp)]; rfl)
  rw [this, List.map_id]
 ·rw [List.filter_eq_nil_iff.2 (fun y hy => by rw [hno y hy]; simp)]
  rfl
/-- The specification: into a window that does not grow; into a session; all windows of a record, one behind the other. -/
def inF (pc : Bool) (l m : Int) (xs : List OrR) (ky v st en : Int) : List OrR × List PnR × Bool := if en + l ≤ m then (xs, [], false) else ((tlF pc m xs (nexO (ky, st, en) v xs)).1, (tlF pc m xs (nexO (ky, st, en) v xs)).2, true)
def touO (ky st en : Int) (x : OrR) : Bool := decide (x.ky = ky) && touchB x.st x.en st en
def spnO (st en : Int) (old : List OrR) : Int × Int := old.foldl (fun p x => (loI p.1 x.st, hiI p.2 x.en)) (st, en)
def allO (v : Int) (old : List OrR) : A4 := old.foldl (fun g x => bothA g (allA x)) (addA (0, 0, 0, 0) v)
def gonX (x : OrR) : PnR := ⟨x.ky, x.st, x.en, x.td, 3, 0, 0, 0, 0⟩
def gonO (old : List OrR) : List PnR := (old.filter (fun x => decide (0 < x.td))).map gonX
/-- One row alone that is as wide as all of it. -/
def oneO (sp : Int × Int) (old : List OrR) : Bool := match old with
 | [x] => decide (x.st = sp.1) && decide (x.en = sp.2)
 | _ => false
def seF (pc : Bool) (l m : Int) (xs : List OrR) (ky v st en : Int) : List OrR × List PnR × Bool :=
 let old := xs.filter (touO ky st en)
 let sp := spnO st en old
 if sp.2 + l ≤ m then (xs, [], false)
 else if oneO sp old = true then inF pc l m xs ky v sp.1 sp.2
 else ((tlF pc m (xs.filter (fun x => !touO ky st en x)) (newX (ky, sp.1, sp.2) (allO v old))).1, gonO old ++ (tlF pc m (xs.filter (fun x => !touO ky st en x)) (newX (ky, sp.1, sp.2) (allO v old))).2, true)
def spStep (ses pc : Bool) (l m ky v : Int) (a : List OrR × List PnR × List WnR) (w : WnR) : List OrR × List PnR × List WnR :=
 let r := if ses = true then seF pc l m a.1 ky v w.a w.b else inF pc l m a.1 ky v w.a w.b
 (r.1, a.2.1 ++ r.2.1, if r.2.2 = true then a.2.2 else a.2.2 ++ [w])
def spTake (ses pc : Bool) (l m ky v : Int) (xs : List OrR) (ws : List WnR) : List OrR × List PnR × List WnR := ws.foldl (spStep ses pc l m ky v) (xs, [], [])
/-- The program, ahead of what is gathered: the rows that a window meets. -/
def metO (ses : Bool) (ky st en : Int) (xs : List OrR) : List OrR := if ses = true then xs.filter (touO ky st en) else (fndO (ky, st, en) xs).toList
def imStep (ses : Bool) (l m ky v : Int) (a : List OrR × List PnR × List WnR) (w : WnR) : List OrR × List PnR × List WnR :=
 let met := metO ses ky w.a w.b a.1
 let sp := spnO w.a w.b met
 if sp.2 + l ≤ m then (a.1, a.2.1, a.2.2 ++ [w])
 else if oneO sp met = true then (putO (nexO (ky, sp.1, sp.2) v a.1) a.1, a.2.1, a.2.2)
 else (putO (newX (ky, sp.1, sp.2) (allO v met)) (a.1.filter (fun x => !met.any (fun y => decide (plO y = plO x)))), a.2.1 ++ gonO met, a.2.2)
def imTake (ses : Bool) (l m ky v : Int) (xs : List OrR) (ws : List WnR) : List OrR × List PnR × List WnR := ws.foldl (imStep ses l m ky v) (xs, [], [])
def sucP (q : P3) : P3 := (q.1, q.2.1, q.2.2 + 1)
theorem suc_lt (q : P3) : ltPl q (sucP q) := .inr ⟨rfl, .inr ⟨rfl, by show q.2.2 < q.2.2 + 1; omega⟩⟩
theorem suc_le {q p : P3} (h : ltPl q p) : sucP q = p ∨ ltPl (sucP q) p := by
 rcases ltPl_tri (sucP q) p with h9 | h9 | h9
 ·exact .inr h9
 ·exact .inl h9
 ·exfalso
  unfold ltPl sucP at *
  simp only at *
  omega
/-- Where windows do not grow the program puts the very row that the specification puts. -/
theorem loI_same (a : Int) : loI a a = a := by unfold loI; simp
theorem hiI_same (a : Int) : hiI a a = a := by unfold hiI; simp
theorem imStep_fix {l m ky v : Int} {a : List OrR × List PnR × List WnR} {w : WnR} : imStep false l m ky v a w = if w.b + l ≤ m then (a.1, a.2.1, a.2.2 ++ [w]) else (putO (nexO (ky, w.a, w.b) v a.1) a.1, a.2.1, a.2.2) := by
 unfold imStep metO
 cases hf : fndO (ky, w.a, w.b) a.1 with
 | none =>
  simp only [Bool.false_eq_true, if_false, Option.toList, spnO, List.foldl_nil, oneO, allO, gonO, List.filter_nil, List.map_nil, List.append_nil, List.any_nil, Bool.not_false]
  have e1 : nexO (ky, w.a, w.b) v a.1 = newX (ky, w.a, w.b) (addA (0, 0, 0, 0) v) := by unfold nexO; rw [hf]; exact knowX_zero _ _
  rw [e1, List.filter_eq_self.2 (fun _ _ => rfl)]
 | some y =>
  have hy := fndO_pl hf
  have h1 : y.ky = ky ∧ y.st = w.a ∧ y.en = w.b := by have := hy.1; unfold plO at this; simp only [Prod.mk.injEq] at this; exact this
  simp only [Bool.false_eq_true, if_false, Option.toList, spnO, List.foldl_cons, List.foldl_nil, oneO, h1.2.1, h1.2.2, loI_same, hiI_same, decide_true, Bool.and_self, if_true]
theorem take_fix {pc : Bool} {l m ky v : Int} : ∀ (ws : List WnR) (a : List OrR × List PnR × List WnR) (ys : List OrR) (q : P3), TkI pc m a.1 ys a.2.1 q → (∀ w ∈ ws, q = (ky, w.a, w.b) ∨ ltPl q (ky, w.a, w.b)) → ws.Pairwise (fun x y => ltPl (ky, x.a, x.b) (ky, y.a, y.b)) →
  ∃ q', TkI pc m (ws.foldl (spStep false pc l m ky v) a).1 (ws.foldl (imStep false l m ky v) (ys, [], a.2.2)).1 (ws.foldl (spStep false pc l m ky v) a).2.1 q' ∧ (ws.foldl (imStep false l m ky v) (ys, [], a.2.2)).2.1 = [] ∧ (ws.foldl (spStep false pc l m ky v) a).2.2 = (ws.foldl (imStep false l m ky v) (ys, [], a.2.2)).2.2
 | [], a, ys, q, h, _, _ => ⟨q, h, rfl, rfl⟩
 | w :: ws, a, ys, q, h, hq, hw => by
  have hc := List.pairwise_cons.1 hw
  have h1 : TkI pc m a.1 ys a.2.1 (ky, w.a, w.b) := by
   rcases hq w (by simp) with h9 | h9
   ·rw [← h9]; exact h
   ·exact h.next h9
  have hq2 : ∀ w' ∈ ws, sucP (ky, w.a, w.b) = (ky, w'.a, w'.b) ∨ ltPl (sucP (ky, w.a, w.b)) (ky, w'.a, w'.b) := fun w' hw' => suc_le (hc.1 w' hw')
  rw [List.foldl_cons, List.foldl_cons, imStep_fix]
  by_cases hs : w.b + l ≤ m
  ·have e1 : spStep false pc l m ky v a w = (a.1, a.2.1, a.2.2 ++ [w]) := by
    unfold spStep inF
    simp [hs]
   rw [e1, if_pos hs]
   exact take_fix ws (a.1, a.2.1, a.2.2 ++ [w]) ys (sucP (ky, w.a, w.b)) (h1.next (suc_lt _)) hq2 hc.2
  ·have e1 : spStep false pc l m ky v a w = ((tlF pc m a.1 (nexO (ky, w.a, w.b) v a.1)).1, a.2.1 ++ (tlF pc m a.1 (nexO (ky, w.a, w.b) v a.1)).2, a.2.2) := by
    unfold spStep inF
    simp [hs]
   rw [e1, if_neg hs]
   exact take_fix ws (_, _, a.2.2) (putO (nexO (ky, w.a, w.b) v ys) ys) (sucP (ky, w.a, w.b)) (h1.step v (suc_lt _)) hq2 hc.2
end Go.Proofs.YtflignpbboiahaaGreat
