/- Laid together: what the claim needs of the texts that were built one by one. -/
import Derived.Test.YtflignpbboiahaaGreatQ2
import Derived.Test.YtflignpbboiahaaGreatQ6
import Derived.Test.YtflignpbboiahaaGreatQ0
import Derived.Deep.Onto
import Derived.Maps.Own
import Derived.Test.YtflignpbboiahaaGreatQ1
set_option linter.unusedVariables false
namespace Go.Proofs.YtflignpbboiahaaGreat
open Go.ChangeShapes Go.WideShapes Go.ChangeAt Go.RowKit
/-- The windows that slide, from a start on. -/
def slideGo (z p t : Int) : Nat → Int → List WnR
 | 0, _ => []
 | n + 1, s => if s ≤ t then (if t < s + z then ⟨s, s + z⟩ :: slideGo z p t n (s + p) else slideGo z p t n (s + p)) else []
theorem slideGo_end {z p t : Int} {n : Nat} {s : Int} (h : ¬ s ≤ t) : slideGo z p t n s = [] := by
 cases n with
 | zero => rfl
 | succ n => exact if_neg h
theorem slideGo_in {z p t : Int} {n : Nat} {s : Int} (h : s ≤ t) (h2 : t < s + z) : slideGo z p t (n + 1) s = ⟨s, s + z⟩ :: slideGo z p t n (s + p) := by
 show (if s ≤ t then _ else _) = _
 rw [if_pos h, if_pos h2]
theorem slideGo_out {z p t : Int} {n : Nat} {s : Int} (h : s ≤ t) (h2 : ¬ t < s + z) : slideGo z p t (n + 1) s = slideGo z p t n (s + p) := by
 show (if s ≤ t then _ else _) = _
 rw [if_pos h, if_neg h2]
theorem slideGo_len (z p t : Int) (n : Nat) (s : Int) : (slideGo z p t n s).length ≤ n := by
 induction n generalizing s with
 | zero => exact Nat.le_refl _
 | succ n ih =>
  have := ih (s + p)
  show (if s ≤ t then _ else _ : List WnR).length ≤ _
  split
  ·split
   ·simp; omega
   ·omega
  ·simp
/-- The windows of a time. -/
def winsOf (k z p t : Int) : List WnR := if k = 1 then [⟨t - t % z, t - t % z + z⟩] else if k = 3 then [⟨t, t + z⟩] else slideGo z p t 61 0
theorem snocW (total ys rest : List WnR) (x : WnR) (h : total = ys ++ x :: rest) : total = (ys ++ [x]) ++ rest := by rw [h]; simp
theorem Tryz.infoWin : (Tryz.prog.info? 64).map (fun i => (i.zero, i.size, i.bytes)) = some (some (.agg #[.int .i64 0, .int .i64 0]), 2, 16) := by kernel_rfl
theorem own_lit1 {W : World} {B : Nat} (h : B ≤ W.heap.size) (a b : Int) : OwnWn (W.alloc (.cells #[.int .i64 a, .int .i64 b] 64)) B (.slice (some ⟨W.heap.size, 0, none⟩) 1 1) [⟨a, b⟩] :=
 World.ownsRow_lit (base := B) (size := 2) W #[.int .i64 a, .int .i64 b] 1 h (by decide) rfl
theorem World.ownsRow.below {W W' : World} {B : Nat} {e : TypeId} {size n : Nat} {v : Value} {xs : List Value} (h : W.ownsRow B e size v n xs) (hb : Below W.heap.size W W') : W'.ownsRow B e size v n xs :=
 h.kept (grown0Wn hb) (by cases h5 : v.ownBlock <;> simp)
theorem own_lit0 {W : World} {B g : Nat} (h : B ≤ W.heap.size) (hg : g = W.heap.size) : OwnWn (W.alloc (.cells #[] 64)) B (.slice (some ⟨g, 0, none⟩) 0 0) [] := by
 subst hg
 exact World.ownsRow_lit (base := B) (size := 2) W #[] 0 h (by decide) rfl
theorem from_any (s t k z p l e : Int) (b : Bool) (v r : Int) (st : Int) (hs : 0 ≤ st ∧ st ≤ 1000) (hz : 1 ≤ z ∧ z ≤ 20) (w : World) : Calls Tryz.prog 92 #[.agg #[.int .i64 s, .int .i64 t, .int .i64 k, .int .i64 z, .int .i64 p, .int .i64 l, .int .i64 e, .bool b, .int .i64 v, .int .i64 r], .int .i64 st] w fun e' w' => e' = .returned (.agg #[.int .i64 st, .int .i64 (st + z)]) ∧ Below w.heap.size w w' := by
 go_enter Tryz.func92, Tryz.ntmps92
 go_wp2
 refine bodyPost_ret (v := .agg #[.int .i64 st, .int .i64 (st + z)]) (by simp [results, Tryz.results92, go_sem]) rfl ⟨rfl, ?_⟩
 exact (belB)
theorem fixed_any (s t k z p l e : Int) (b : Bool) (v r : Int) (T : Int) (hT : 0 ≤ T ∧ T ≤ 60) (hz : 1 ≤ z ∧ z ≤ 20) (w : World) : Calls Tryz.prog 76 #[.agg #[.int .i64 s, .int .i64 t, .int .i64 k, .int .i64 z, .int .i64 p, .int .i64 l, .int .i64 e, .bool b, .int .i64 v, .int .i64 r], .int .i64 T] w fun e' w' => ∃ v', e' = .returned v' ∧ OwnWn w' w.heap.size v' ([⟨T - T % z, T - T % z + z⟩]) ∧ Below w.heap.size w w' := by
 have hmod : 0 ≤ T % z ∧ T % z ≤ T := ⟨Int.emod_nonneg _ (by omega), by have := Int.emod_add_mul_ediv T z; have := Int.ediv_nonneg (a := T) (b := z) (by omega) (by omega); have := Int.mul_nonneg (a := z) (b := T / z) (by omega) (by omega); omega⟩
 have hwr : IntKind.i64.wrap (T - T % z) = T - T % z := IntWalk.i64_in _ (by omega)
 go_enter Tryz.func76, Tryz.ntmps76
 go_wp2
 go_region_with (first
  | (go_at_call 92; (try rw [hwr]); refine (from_any _ _ _ _ _ _ _ _ _ _ _ (by omega) (by omega) _).mono ?_; rintro e' w' ⟨rfl, hb⟩; obtain ⟨hc, hf, hs⟩ := bcell hb; (try have hz0 := zA hb w.heap.size)))
 all_goals go_wp2
 all_goals
  go_ret
  refine ⟨_, rfl, own_lit1 (by have := hb.size; simp at this; omega) _ _, (belB)⟩
theorem session_any (s t k z p l e : Int) (b : Bool) (v r : Int) (T : Int) (hT : 0 ≤ T ∧ T ≤ 60) (hz : 1 ≤ z ∧ z ≤ 20) (w : World) : Calls Tryz.prog 78 #[.agg #[.int .i64 s, .int .i64 t, .int .i64 k, .int .i64 z, .int .i64 p, .int .i64 l, .int .i64 e, .bool b, .int .i64 v, .int .i64 r], .int .i64 T] w fun e' w' => ∃ v', e' = .returned v' ∧ OwnWn w' w.heap.size v' ([⟨T, T + z⟩]) ∧ Below w.heap.size w w' := by
 have hmod : 0 ≤ T % z ∧ T % z ≤ T := ⟨Int.emod_nonneg _ (by omega), by have := Int.emod_add_mul_ediv T z; have := Int.ediv_nonneg (a := T) (b := z) (by omega) (by omega); have := Int.mul_nonneg (a := z) (b := T / z) (by omega) (by omega); omega⟩
 have hwr : IntKind.i64.wrap (T - T % z) = T - T % z := IntWalk.i64_in _ (by omega)
 go_enter Tryz.func78, Tryz.ntmps78
 go_wp2_with (first
  | (go_at_call 92; (try rw [hwr]); refine (from_any _ _ _ _ _ _ _ _ _ _ _ (by omega) (by omega) _).mono ?_; rintro e' w' ⟨rfl, hb⟩; obtain ⟨hc, hf, hs⟩ := bcell hb; (try have hz0 := zA hb w.heap.size)))
 all_goals
  go_ret
  refine ⟨_, rfl, own_lit1 (by have := hb.size; simp at this; omega) _ _, (belB)⟩
set_option maxRecDepth 20000 in
set_option maxHeartbeats 2000000 in
theorem specslide_any (s t k z p l e : Int) (b : Bool) (v r : Int) (T : Int) (hT : 0 ≤ T ∧ T ≤ 60) (hz : 1 ≤ z ∧ z ≤ 20) (hp : 1 ≤ p ∧ p ≤ 20) (hk : k = 2) (w : World) : Calls Tryz.prog 40 #[.agg #[.int .i64 s, .int .i64 t, .int .i64 k, .int .i64 z, .int .i64 p, .int .i64 l, .int .i64 e, .bool b, .int .i64 v, .int .i64 r], .int .i64 T] w fun e' w' => ∃ v', e' = .returned v' ∧ OwnWn w' w.heap.size v' (slideGo z p T 61 0) ∧ Below w.heap.size w w' := by
 subst hk
 obtain ⟨i0, hi, hz0, hz1, hz2⟩ := info_parts Tryz.infoWin
 go_enter Tryz.func40, Tryz.ntmps40
 go_wp2
 go_loopw [5, 6] (fun v' s' wr => ∃ (st : Int) (n : Nat) (ys : List WnR), s' = .int .i64 st ∧ 0 ≤ st ∧ st ≤ 80 ∧ T + 1 ≤ st + n ∧ n + ys.length ≤ 61 ∧ Hid (slideGo z p T 61 0 = ys ++ slideGo z p T n st) ∧ OwnWn wr (w.heap.size + 1) v' ys ∧ Below (w.heap.size + 1) (w.alloc (.cells #[.int .i64 s, .int .i64 t, .int .i64 2, .int .i64 z, .int .i64 p, .int .i64 l, .int .i64 e, .bool b, .int .i64 v, .int .i64 r] 37)) wr) (fun _ s' _ => (T + 1 - intOf s').toNat)
 case atStart => exact ⟨0, 61, [], rfl, by omega, by omega, by omega, by simp, hide rfl, own_lit0 (W := (w.alloc (.cells #[.int .i64 s, .int .i64 t, .int .i64 2, .int .i64 z, .int .i64 p, .int .i64 l, .int .i64 e, .bool b, .int .i64 v, .int .i64 r] 37))) (B := w.heap.size + 1) (by simp) (by simp), (Below.refl (w.heap.size + 1) (w.alloc (.cells #[.int .i64 s, .int .i64 t, .int .i64 2, .int .i64 z, .int .i64 p, .int .i64 l, .int .i64 e, .bool b, .int .i64 v, .int .i64 r] 37))).alloc (by simp) _⟩
 case round =>
  obtain ⟨st, n, ys, rfl, hs0, hs1, hsn, hyn, HQ, hO, hbw⟩ := hrel
  have hws : w.heap.size + 1 ≤ wr.heap.size := by have := hbw.size; simpa using this
  have hgs : w.heap.size < wr.heap.size := by omega
  have c0 : wr.cell? ⟨w.heap.size, 0, none⟩ = some (.int .i64 s) := (hbw.cell (p := ⟨w.heap.size, 0, none⟩) (by simp)).trans (by simp [go_sem])
  have c1 : wr.cell? ⟨w.heap.size, 1, none⟩ = some (.int .i64 t) := (hbw.cell (p := ⟨w.heap.size, 1, none⟩) (by simp)).trans (by simp [go_sem])
  have c2 : wr.cell? ⟨w.heap.size, 2, none⟩ = some (.int .i64 2) := (hbw.cell (p := ⟨w.heap.size, 2, none⟩) (by simp)).trans (by simp [go_sem])
  have c3 : wr.cell? ⟨w.heap.size, 3, none⟩ = some (.int .i64 z) := (hbw.cell (p := ⟨w.heap.size, 3, none⟩) (by simp)).trans (by simp [go_sem])
  have c4 : wr.cell? ⟨w.heap.size, 4, none⟩ = some (.int .i64 p) := (hbw.cell (p := ⟨w.heap.size, 4, none⟩) (by simp)).trans (by simp [go_sem])
  have c5 : wr.cell? ⟨w.heap.size, 5, none⟩ = some (.int .i64 l) := (hbw.cell (p := ⟨w.heap.size, 5, none⟩) (by simp)).trans (by simp [go_sem])
  have c6 : wr.cell? ⟨w.heap.size, 6, none⟩ = some (.int .i64 e) := (hbw.cell (p := ⟨w.heap.size, 6, none⟩) (by simp)).trans (by simp [go_sem])
  have c7 : wr.cell? ⟨w.heap.size, 7, none⟩ = some (.bool b) := (hbw.cell (p := ⟨w.heap.size, 7, none⟩) (by simp)).trans (by simp [go_sem])
  have c8 : wr.cell? ⟨w.heap.size, 8, none⟩ = some (.int .i64 v) := (hbw.cell (p := ⟨w.heap.size, 8, none⟩) (by simp)).trans (by simp [go_sem])
  have c9 : wr.cell? ⟨w.heap.size, 9, none⟩ = some (.int .i64 r) := (hbw.cell (p := ⟨w.heap.size, 9, none⟩) (by simp)).trans (by simp [go_sem])
  have HO := hide hO
  have hge := hide (ownWn_ge hO)
  clear hO
  by_cases h1 : st ≤ T
  ·obtain ⟨n, rfl⟩ : ∃ m, n = m + 1 := ⟨n - 1, by omega⟩
   by_cases h2 : T < st + z
   ·have HQ2 := hide (snocW _ _ _ _ ((unhide HQ).trans (by rw [slideGo_in h1 h2])))
    clear HQ
    go_wp2_with (first
     | (at_builtin; go_loud (refine wpList_append_own _ rfl _ _ 80 rfl (w.heap.size + 1) 64 i0 _ 2 16 Tryz.underlying80 hi hz0 hz1 hz2 rfl (by decide) u5 _ _ rfl (World.ownsRow.alloc (unhide HO) _) ⟨wr.heap.size, 0, none⟩ 1 1 [.int .i64 st, .int .i64 (st + z)] rfl rfl (cells_newWn wr st (st + z) _) (by simp [Value.oneCell']) (by unfold maxLen; omega) (by omega) (by have := hbw.size; simp at this ⊢; omega) ?_); intro v' w1 hown' hgrow _; go_loud (have hb1 := (hbw.alloc hws _).grown hgrow (by simp; omega) (unhide hge)); go_loud (have d4 : w1.cell? ⟨w.heap.size, 4, none⟩ = some (.int .i64 p) := (hb1.cell (p := ⟨w.heap.size, 4, none⟩) (by simp)).trans (by simp [go_sem]))))
    go_roundw
    case rel => exact ⟨st + p, n, ys ++ [⟨st, st + z⟩], rfl, by omega, by omega, by omega, by simp; omega, HQ2, ownWn_snoc (x := ⟨st, st + z⟩) hown', hb1⟩
    case measure => simp [intOf]; omega
   ·have HQ2 := hide ((unhide HQ).trans (by rw [slideGo_out h1 h2]))
    clear HQ
    go_wp2
    go_roundw
    case rel => exact ⟨st + p, n, ys, rfl, by omega, by omega, by omega, by omega, HQ2, unhide HO, hbw⟩
    case measure => simp [intOf]; omega
  ·have HQ2 : Hid (slideGo z p T 61 0 = ys) := hide ((unhide HQ).trans (by rw [slideGo_end h1]; simp))
   clear HQ
   go_wp2
   go_ret
   refine ⟨_, rfl, ?_, ?_⟩
   ·rw [unhide HQ2]; exact World.ownsRow.mono (unhide HO) (by omega)
   ·exact bel_trans (bel_one _ _) (by simpa using hbw)
set_option maxRecDepth 20000 in
set_option maxHeartbeats 2000000 in
theorem slide_any (s t k z p l e : Int) (b : Bool) (v r : Int) (T : Int) (hT : 0 ≤ T ∧ T ≤ 60) (hz : 1 ≤ z ∧ z ≤ 20) (hp : 1 ≤ p ∧ p ≤ 20) (w : World) : Calls Tryz.prog 77 #[.agg #[.int .i64 s, .int .i64 t, .int .i64 k, .int .i64 z, .int .i64 p, .int .i64 l, .int .i64 e, .bool b, .int .i64 v, .int .i64 r], .int .i64 T] w fun e' w' => ∃ v', e' = .returned v' ∧ OwnWn w' w.heap.size v' (slideGo z p T 61 0) ∧ Below w.heap.size w w' := by
 skip
 obtain ⟨i0, hi, hz0, hz1, hz2⟩ := info_parts Tryz.infoWin
 go_enter Tryz.func77, Tryz.ntmps77
 go_wp2
 go_loopw [5, 6] (fun v' s' wr => ∃ (st : Int) (n : Nat) (ys : List WnR), s' = .int .i64 st ∧ 0 ≤ st ∧ st ≤ 80 ∧ T + 1 ≤ st + n ∧ n + ys.length ≤ 61 ∧ Hid (slideGo z p T 61 0 = ys ++ slideGo z p T n st) ∧ OwnWn wr (w.heap.size + 1) v' ys ∧ Below (w.heap.size + 1) (w.alloc (.cells #[.int .i64 s, .int .i64 t, .int .i64 k, .int .i64 z, .int .i64 p, .int .i64 l, .int .i64 e, .bool b, .int .i64 v, .int .i64 r] 37)) wr) (fun _ s' _ => (T + 1 - intOf s').toNat)
 case atStart => exact ⟨0, 61, [], rfl, by omega, by omega, by omega, by simp, hide rfl, World.ownsRow_nil _ _ _ _, Below.refl _ _⟩
 case round =>
  obtain ⟨st, n, ys, rfl, hs0, hs1, hsn, hyn, HQ, hO, hbw⟩ := hrel
  have hws : w.heap.size + 1 ≤ wr.heap.size := by have := hbw.size; simpa using this
  have hgs : w.heap.size < wr.heap.size := by omega
  have c0 : wr.cell? ⟨w.heap.size, 0, none⟩ = some (.int .i64 s) := (hbw.cell (p := ⟨w.heap.size, 0, none⟩) (by simp)).trans (by simp [go_sem])
  have c1 : wr.cell? ⟨w.heap.size, 1, none⟩ = some (.int .i64 t) := (hbw.cell (p := ⟨w.heap.size, 1, none⟩) (by simp)).trans (by simp [go_sem])
  have c2 : wr.cell? ⟨w.heap.size, 2, none⟩ = some (.int .i64 k) := (hbw.cell (p := ⟨w.heap.size, 2, none⟩) (by simp)).trans (by simp [go_sem])
  have c3 : wr.cell? ⟨w.heap.size, 3, none⟩ = some (.int .i64 z) := (hbw.cell (p := ⟨w.heap.size, 3, none⟩) (by simp)).trans (by simp [go_sem])
  have c4 : wr.cell? ⟨w.heap.size, 4, none⟩ = some (.int .i64 p) := (hbw.cell (p := ⟨w.heap.size, 4, none⟩) (by simp)).trans (by simp [go_sem])
  have c5 : wr.cell? ⟨w.heap.size, 5, none⟩ = some (.int .i64 l) := (hbw.cell (p := ⟨w.heap.size, 5, none⟩) (by simp)).trans (by simp [go_sem])
  have c6 : wr.cell? ⟨w.heap.size, 6, none⟩ = some (.int .i64 e) := (hbw.cell (p := ⟨w.heap.size, 6, none⟩) (by simp)).trans (by simp [go_sem])
  have c7 : wr.cell? ⟨w.heap.size, 7, none⟩ = some (.bool b) := (hbw.cell (p := ⟨w.heap.size, 7, none⟩) (by simp)).trans (by simp [go_sem])
  have c8 : wr.cell? ⟨w.heap.size, 8, none⟩ = some (.int .i64 v) := (hbw.cell (p := ⟨w.heap.size, 8, none⟩) (by simp)).trans (by simp [go_sem])
  have c9 : wr.cell? ⟨w.heap.size, 9, none⟩ = some (.int .i64 r) := (hbw.cell (p := ⟨w.heap.size, 9, none⟩) (by simp)).trans (by simp [go_sem])
  have HO := hide hO
  have hge := hide (ownWn_ge hO)
  clear hO
  by_cases h1 : st ≤ T
  ·obtain ⟨n, rfl⟩ : ∃ m, n = m + 1 := ⟨n - 1, by omega⟩
   by_cases h2 : T < st + z
   ·have HQ2 := hide (snocW _ _ _ _ ((unhide HQ).trans (by rw [slideGo_in h1 h2])))
    clear HQ
    go_wp2_with (first
     | (go_at_call 92; refine (from_any _ _ _ _ _ _ _ _ _ _ _ (by omega) (by omega) _).mono ?_; rintro e' wf ⟨rfl, hb⟩; obtain ⟨hc, hf, hsz⟩ := bcell hb; have hzf : w.heap.size < wf.heap.size := Nat.lt_of_lt_of_le hgs hb.size)
     | (at_builtin; go_loud (refine wpList_append_own _ rfl _ _ 80 rfl (w.heap.size + 1) 64 i0 _ 2 16 Tryz.underlying80 hi hz0 hz1 hz2 rfl (by decide) u5 _ _ rfl (World.ownsRow.alloc (World.ownsRow.alloc (World.ownsRow.below (unhide HO) hb) _) _) ⟨wf.heap.size + 1, 0, none⟩ 1 1 [.int .i64 st, .int .i64 (st + z)] rfl rfl (cells_atWn _ st (st + z) _ (by simp)) (by simp [Value.oneCell']) (by unfold maxLen; omega) (by omega) (by have := hbw.size; simp at this ⊢; omega) ?_); intro v' w1 hown' hgrow _; go_loud (have hb0 := (hbw.trans (hb.mono hws)); have hb1 := ((hb0.alloc (by omega) _).alloc (by simp; omega) _).grown hgrow (by simp; omega) (unhide hge)); go_loud (have d4 : w1.cell? ⟨w.heap.size, 4, none⟩ = some (.int .i64 p) := (hb1.cell (p := ⟨w.heap.size, 4, none⟩) (by simp)).trans (by simp [go_sem]))))
    go_roundw
    case rel => exact ⟨st + p, n, ys ++ [⟨st, st + z⟩], rfl, by omega, by omega, by omega, by simp; omega, HQ2, ownWn_snoc (x := ⟨st, st + z⟩) hown', hb1⟩
    case measure => simp [intOf]; omega
   ·have HQ2 := hide ((unhide HQ).trans (by rw [slideGo_out h1 h2]))
    clear HQ
    go_wp2_with (go_at_call 92; refine (from_any _ _ _ _ _ _ _ _ _ _ _ (by omega) (by omega) _).mono ?_; rintro e' wf ⟨rfl, hb⟩; obtain ⟨hc, hf, hsz⟩ := bcell hb; have hzf : w.heap.size < wf.heap.size := Nat.lt_of_lt_of_le hgs hb.size)
    go_roundw
    case rel => exact ⟨st + p, n, ys, rfl, by omega, by omega, by omega, by omega, HQ2, World.ownsRow.alloc (World.ownsRow.below (unhide HO) hb) _, (hbw.trans (hb.mono hws)).alloc (by omega) _⟩
    case measure => simp [intOf]; omega
  ·have HQ2 : Hid (slideGo z p T 61 0 = ys) := hide ((unhide HQ).trans (by rw [slideGo_end h1]; simp))
   clear HQ
   go_wp2
   go_ret
   refine ⟨_, rfl, ?_, ?_⟩
   ·rw [unhide HQ2]; exact World.ownsRow.mono (unhide HO) (by omega)
   ·exact bel_trans (bel_one _ _) (by simpa using hbw)
end Go.Proofs.YtflignpbboiahaaGreat
namespace Go.Proofs.YtflignpbboiahaaGreat
open Go.ChangeShapes Go.WideShapes Go.ChangeAt Go.RowKit Go.Maps
/-- A function in a map is read as its number. -/
def rdF (v : Value) : Option (DataW Unit × List MemPlace) := match v with
 | .func (.func n) f c => if f.size = 0 ∧ c.size = 0 then some (.lit (.int .i64 n), []) else none
 | .nilFunc => some (.lit (.int .i64 (-1)), [])
 | _ => none
theorem rdF_inv {v : Value} {n : Nat} {ps : List MemPlace} (h : rdF v = some (.lit (.int .i64 (n : Int)), ps)) : v = .func (.func n) #[] #[] := by
 unfold rdF at h
 split at h
 ·rename_i m f c
  split at h
  ·rename_i hc
   simp only [Option.some.injEq, Prod.mk.injEq, DataW.lit.injEq, Lit.int.injEq, true_and] at h
   obtain ⟨h1, h2⟩ := hc
   have e1 : f = #[] := Array.eq_empty_of_size_eq_zero h1
   have e2 : c = #[] := Array.eq_empty_of_size_eq_zero h2
   have e3 : m = n := Int.ofNat.inj h.1
   rw [e1, e2, e3]
  ·cases h
 ·simp only [Option.some.injEq, Prod.mk.injEq, DataW.lit.injEq, Lit.int.injEq, true_and] at h
  have := h.1
  omega
 ·cases h
/-- The map of functions, behind none, one, two and three entries. -/
def dF0 : DataW Unit := .map []
def dF1 : DataW Unit := dF0.put (.int .i64 1) (.lit (.int .i64 ((76 : Nat) : Int)))
def dF2 : DataW Unit := dF1.put (.int .i64 2) (.lit (.int .i64 ((77 : Nat) : Int)))
def dF3 : DataW Unit := dF2.put (.int .i64 3) (.lit (.int .i64 ((78 : Nat) : Int)))
theorem zeroF (w : World) : (zeroValue 81).run Tryz.prog w = .ok .nilFunc w := by kernel_rfl
theorem keyI : Keyed Tryz.prog 3 := int_keyed Tryz.underlying3
theorem kI (n : Int) (h : (Lit.int .i64 n).wf = true) : keyOf Tryz.prog 3 (.int .i64 n) = some (.int .i64 n) := by
 exact keyOf_int_mk Tryz.underlying3 h
theorem mapMade : ∃ u1 u2 u3 : World → World, (∀ W : World, (Instr.mapUpdate 126 (.map (some W.heap.size)) (.int .i64 1) (.func (.func 76) #[] #[])).run Tryz.prog (W.alloc (.map #[] 0)) = .ok () (u1 W)) ∧ (∀ W : World, (Instr.mapUpdate 126 (.map (some W.heap.size)) (.int .i64 2) (.func (.func 77) #[] #[])).run Tryz.prog (u1 W) = .ok () (u2 W)) ∧ (∀ W : World, (Instr.mapUpdate 126 (.map (some W.heap.size)) (.int .i64 3) (.func (.func 78) #[] #[])).run Tryz.prog (u2 W) = .ok () (u3 W)) ∧
  (∀ W : World, (Instr.lookup 126 (.map (some W.heap.size)) (.int .i64 1) false).run Tryz.prog (u3 W) = .ok (.func (.func 76) #[] #[]) (u3 W)) ∧ (∀ W : World, (Instr.lookup 126 (.map (some W.heap.size)) (.int .i64 2) false).run Tryz.prog (u3 W) = .ok (.func (.func 77) #[] #[]) (u3 W)) ∧ (∀ W : World, (Instr.lookup 126 (.map (some W.heap.size)) (.int .i64 3) false).run Tryz.prog (u3 W) = .ok (.func (.func 78) #[] #[]) (u3 W)) ∧ (∀ W : World, Below W.heap.size W (u3 W)) := by
 have H1 : ∀ W : World, ∃ w2, (Instr.mapUpdate 126 (.map (some W.heap.size)) (.int .i64 1) (.func (.func 76) #[] #[])).run Tryz.prog (W.alloc (.map #[] 0)) = .ok () (w2) ∧ w2.ownsMap Tryz.prog 3 rdF W.heap.size 1 dF1 ∧ Below W.heap.size W w2 := fun W => by
  obtain ⟨w2, h1, h2, h3⟩ := World.ownsMap.update (World.ownsMap_made W Tryz.prog 3 rdF) keyI Tryz.underlying126 (by decide) (kI 1 (by decide)) (show rdF (.func (.func 76) #[] #[]) = some (.lit (.int .i64 ((76 : Nat) : Int)), []) from rfl)
  exact ⟨w2, h1, h2, (bel_one W _).grown h3 (by simp) (by intro k hk; cases hk; omega)⟩
 obtain ⟨u1, hu1⟩ := Classical.skolem.1 H1
 have H2 : ∀ W : World, ∃ w2, (Instr.mapUpdate 126 (.map (some W.heap.size)) (.int .i64 2) (.func (.func 77) #[] #[])).run Tryz.prog (u1 W) = .ok () (w2) ∧ w2.ownsMap Tryz.prog 3 rdF W.heap.size 2 dF2 ∧ Below W.heap.size W w2 := fun W => by
  obtain ⟨w2, h1, h2, h3⟩ := World.ownsMap.update (hu1 W).2.1 keyI Tryz.underlying126 (by decide) (kI 2 (by decide)) (show rdF (.func (.func 77) #[] #[]) = some (.lit (.int .i64 ((77 : Nat) : Int)), []) from rfl)
  exact ⟨w2, h1, h2, (hu1 W).2.2.grown h3 (hu1 W).2.2.size (by intro k hk; cases hk; omega)⟩
 obtain ⟨u2, hu2⟩ := Classical.skolem.1 H2
 have H3 : ∀ W : World, ∃ w2, (Instr.mapUpdate 126 (.map (some W.heap.size)) (.int .i64 3) (.func (.func 78) #[] #[])).run Tryz.prog (u2 W) = .ok () (w2) ∧ w2.ownsMap Tryz.prog 3 rdF W.heap.size 3 dF3 ∧ Below W.heap.size W w2 := fun W => by
  obtain ⟨w2, h1, h2, h3⟩ := World.ownsMap.update (hu2 W).2.1 keyI Tryz.underlying126 (by decide) (kI 3 (by decide)) (show rdF (.func (.func 78) #[] #[]) = some (.lit (.int .i64 ((78 : Nat) : Int)), []) from rfl)
  exact ⟨w2, h1, h2, (hu2 W).2.2.grown h3 (hu2 W).2.2.size (by intro k hk; cases hk; omega)⟩
 obtain ⟨u3, hu3⟩ := Classical.skolem.1 H3
 have L : ∀ (W : World) (k : Int) (fn : Nat), (Lit.int .i64 k).wf = true → dF3.atKey (.int .i64 k) (.lit (.int .i64 (-1))) = .lit (.int .i64 (fn : Int)) → (Instr.lookup 126 (.map (some W.heap.size)) (.int .i64 k) false).run Tryz.prog (u3 W) = .ok (.func (.func fn) #[] #[]) (u3 W) := fun W k fn hk ha => by
  obtain ⟨v, ps, h1, h2⟩ := World.ownsMap.lookup (hu3 W).2.1 keyI Tryz.underlying126 (zeroF (u3 W)) (show rdF .nilFunc = some (.lit (.int .i64 (-1)), []) from rfl) (kI k hk)
  rw [ha] at h2
  rw [h1, rdF_inv h2]
 exact ⟨u1, u2, u3, fun W => (hu1 W).1, fun W => (hu2 W).1, fun W => (hu3 W).1, fun W => L W 1 _ (by decide) rfl, fun W => L W 2 _ (by decide) rfl, fun W => L W 3 _ (by decide) rfl, fun W => (hu3 W).2.2⟩
/-- The windows of a time, none if the job is not ok or there is no such time. -/
def winsAll (s t k z p l e v r T : Int) : List WnR := if (okJob s t k z p l e v r && inB T 0 60) = true then winsOf k z p T else []
theorem winsAll_tt {s t k z p l e v r T : Int} (h : okJob s t k z p l e v r = true) (h2 : inB T 0 60 = true) : winsAll s t k z p l e v r T = winsOf k z p T := by simp [winsAll, h, h2]
theorem winsAll_f1 {s t k z p l e v r T : Int} (h : okJob s t k z p l e v r = false) : winsAll s t k z p l e v r T = [] := by simp [winsAll, h]
theorem winsAll_f2 {s t k z p l e v r T : Int} (h2 : inB T 0 60 = false) : winsAll s t k z p l e v r T = [] := by simp [winsAll, h2]
theorem okJob_parts {s t k z p l e v r : Int} (h : okJob s t k z p l e v r = true) : (1 ≤ k ∧ k ≤ 3) ∧ (1 ≤ z ∧ z ≤ 20) ∧ stepB k z p = true := by
 simp only [okJob, Bool.and_eq_true] at h
 obtain ⟨⟨⟨⟨⟨⟨⟨⟨h1, h2⟩, h3⟩, h4⟩, h5⟩, h6⟩, h7⟩, h8⟩, h9⟩ := h
 exact ⟨inB_iff.1 h3, inB_iff.1 h4, h5⟩
theorem stepB_in {z p : Int} (hz : 1 ≤ z ∧ z ≤ 20) (h : stepB 2 z p = true) : 1 ≤ p ∧ p ≤ 20 := by
 rw [stepB_2, Bool.and_eq_true] at h
 have := inB_iff.1 h.1
 omega
theorem winsOf_1 (z p T : Int) : winsOf 1 z p T = [⟨T - T % z, T - T % z + z⟩] := rfl
theorem winsOf_2 (z p T : Int) : winsOf 2 z p T = slideGo z p T 61 0 := rfl
theorem winsOf_3 (z p T : Int) : winsOf 3 z p T = [⟨T, T + z⟩] := rfl
theorem implw1 (s t z p l e : Int) (b : Bool) (v r : Int) (T : Int) (hT : inB T 0 60 = true) (hj : okJob s t 1 z p l e v r = true) (w : World) : Calls Tryz.prog 53 #[.agg #[.int .i64 s, .int .i64 t, .int .i64 1, .int .i64 z, .int .i64 p, .int .i64 l, .int .i64 e, .bool b, .int .i64 v, .int .i64 r], .int .i64 T] w fun e' w' => ∃ v', e' = .returned v' ∧ OwnWn w' w.heap.size v' (winsOf 1 z p T) ∧ Below w.heap.size w w' := by
 have hmm := @run_makeMap Tryz.prog
 obtain ⟨u1, u2, u3, hr1, hr2, hr3, hl1, hl2, hl3, hu⟩ := mapMade
 obtain ⟨hk, hz, hp⟩ := okJob_parts hj
 have hT' := inB_iff.1 hT
 rw [winsOf_1]
 go_enter Tryz.func53, Tryz.ntmps53
 go_wp2_with (first
  | (go_at_call 44; refine (impljobok_any _ _ _ _ _ _ _ _ _ _ _).mono ?_; rintro e' w1 ⟨rfl, hb⟩; obtain ⟨hc, hf, hsz⟩ := bcell hb; (try have hz0 : w.heap.size < w1.heap.size := (zB hb)); obtain ⟨hc3, hf3, hs3⟩ := bcell (hu w1))
  | (go_at_call 45; refine (within_any _ _ _ _).mono ?_; rintro e' w' ⟨rfl, rfl⟩)
  | (go_at_call 76; refine (fixed_any _ _ _ _ _ _ _ _ _ _ _ (by omega) (by omega) _).mono ?_; rintro e' w2 ⟨v2, rfl, hO, hb2⟩))
 go_ret
 have h9 := hb.size
 have h8 := (hu w').size
 simp at h9
 exact ⟨_, rfl, World.ownsRow.mono hO (by omega), bel_trans (bel_trans (bel_trans (bel_one _ _) hb) (hu w')) hb2⟩
theorem implw2 (s t z p l e : Int) (b : Bool) (v r : Int) (T : Int) (hT : inB T 0 60 = true) (hj : okJob s t 2 z p l e v r = true) (w : World) : Calls Tryz.prog 53 #[.agg #[.int .i64 s, .int .i64 t, .int .i64 2, .int .i64 z, .int .i64 p, .int .i64 l, .int .i64 e, .bool b, .int .i64 v, .int .i64 r], .int .i64 T] w fun e' w' => ∃ v', e' = .returned v' ∧ OwnWn w' w.heap.size v' (winsOf 2 z p T) ∧ Below w.heap.size w w' := by
 have hmm := @run_makeMap Tryz.prog
 obtain ⟨u1, u2, u3, hr1, hr2, hr3, hl1, hl2, hl3, hu⟩ := mapMade
 obtain ⟨hk, hz, hp⟩ := okJob_parts hj
 have hT' := inB_iff.1 hT
 have hp' := stepB_in hz hp
 rw [winsOf_2]
 go_enter Tryz.func53, Tryz.ntmps53
 go_wp2_with (first
  | (go_at_call 44; refine (impljobok_any _ _ _ _ _ _ _ _ _ _ _).mono ?_; rintro e' w1 ⟨rfl, hb⟩; obtain ⟨hc, hf, hsz⟩ := bcell hb; (try have hz0 : w.heap.size < w1.heap.size := (zB hb)); obtain ⟨hc3, hf3, hs3⟩ := bcell (hu w1))
  | (go_at_call 45; refine (within_any _ _ _ _).mono ?_; rintro e' w' ⟨rfl, rfl⟩)
  | (go_at_call 77; refine (slide_any _ _ _ _ _ _ _ _ _ _ _ (by omega) (by omega) (by omega) _).mono ?_; rintro e' w2 ⟨v2, rfl, hO, hb2⟩))
 go_ret
 have h9 := hb.size
 have h8 := (hu w').size
 simp at h9
 exact ⟨_, rfl, World.ownsRow.mono hO (by omega), bel_trans (bel_trans (bel_trans (bel_one _ _) hb) (hu w')) hb2⟩
theorem implw3 (s t z p l e : Int) (b : Bool) (v r : Int) (T : Int) (hT : inB T 0 60 = true) (hj : okJob s t 3 z p l e v r = true) (w : World) : Calls Tryz.prog 53 #[.agg #[.int .i64 s, .int .i64 t, .int .i64 3, .int .i64 z, .int .i64 p, .int .i64 l, .int .i64 e, .bool b, .int .i64 v, .int .i64 r], .int .i64 T] w fun e' w' => ∃ v', e' = .returned v' ∧ OwnWn w' w.heap.size v' (winsOf 3 z p T) ∧ Below w.heap.size w w' := by
 have hmm := @run_makeMap Tryz.prog
 obtain ⟨u1, u2, u3, hr1, hr2, hr3, hl1, hl2, hl3, hu⟩ := mapMade
 obtain ⟨hk, hz, hp⟩ := okJob_parts hj
 have hT' := inB_iff.1 hT
 rw [winsOf_3]
 go_enter Tryz.func53, Tryz.ntmps53
 go_wp2_with (first
  | (go_at_call 44; refine (impljobok_any _ _ _ _ _ _ _ _ _ _ _).mono ?_; rintro e' w1 ⟨rfl, hb⟩; obtain ⟨hc, hf, hsz⟩ := bcell hb; (try have hz0 : w.heap.size < w1.heap.size := (zB hb)); obtain ⟨hc3, hf3, hs3⟩ := bcell (hu w1))
  | (go_at_call 45; refine (within_any _ _ _ _).mono ?_; rintro e' w' ⟨rfl, rfl⟩)
  | (go_at_call 78; refine (session_any _ _ _ _ _ _ _ _ _ _ _ (by omega) (by omega) _).mono ?_; rintro e' w2 ⟨v2, rfl, hO, hb2⟩))
 go_ret
 have h9 := hb.size
 have h8 := (hu w').size
 simp at h9
 exact ⟨_, rfl, World.ownsRow.mono hO (by omega), bel_trans (bel_trans (bel_trans (bel_one _ _) hb) (hu w')) hb2⟩
theorem implwinof_any (s t k z p l e : Int) (b : Bool) (v r : Int) (T : Int) (w : World) : Calls Tryz.prog 53 #[.agg #[.int .i64 s, .int .i64 t, .int .i64 k, .int .i64 z, .int .i64 p, .int .i64 l, .int .i64 e, .bool b, .int .i64 v, .int .i64 r], .int .i64 T] w fun e' w' => ∃ v', e' = .returned v' ∧ OwnWn w' w.heap.size v' (winsAll s t k z p l e v r T) ∧ Below w.heap.size w w' := by
 cases c0 : okJob s t k z p l e v r
 ·rw [winsAll_f1 c0]
  go_enter Tryz.func53, Tryz.ntmps53
  go_wp2_with (first
   | (go_at_call 44; refine (impljobok_any _ _ _ _ _ _ _ _ _ _ _).mono ?_; rintro e' w1 ⟨rfl, hb⟩; obtain ⟨hc, hf, hsz⟩ := bcell hb)
   | (go_at_call 45; refine (within_any _ _ _ _).mono ?_; rintro e' w' ⟨rfl, rfl⟩))
  go_ret
  exact ⟨_, rfl, World.ownsRow_nil _ _ _ _, (belB)⟩
 cases c1 : inB T 0 60
 ·rw [winsAll_f2 c1]
  go_enter Tryz.func53, Tryz.ntmps53
  go_wp2_with (first
   | (go_at_call 44; refine (impljobok_any _ _ _ _ _ _ _ _ _ _ _).mono ?_; rintro e' w1 ⟨rfl, hb⟩; obtain ⟨hc, hf, hsz⟩ := bcell hb)
   | (go_at_call 45; refine (within_any _ _ _ _).mono ?_; rintro e' w' ⟨rfl, rfl⟩))
  go_ret
  exact ⟨_, rfl, World.ownsRow_nil _ _ _ _, (belB)⟩
 rw [winsAll_tt c0 c1]
 obtain ⟨hk, _, _⟩ := okJob_parts c0
 by_cases h1 : k = 1
 ·subst h1; exact implw1 s t z p l e b v r T c1 c0 w
 by_cases h2 : k = 2
 ·subst h2; exact implw2 s t z p l e b v r T c1 c0 w
 obtain rfl : k = 3 := by omega
 exact implw3 s t z p l e b v r T c1 c0 w
theorem own_lit1' {W : World} {B g : Nat} (h : B ≤ W.heap.size) (hg : g = W.heap.size) (a b : Int) : OwnWn (W.alloc (.cells #[.int .i64 a, .int .i64 b] 64)) B (.slice (some ⟨g, 0, none⟩) 1 1) [⟨a, b⟩] := by
 subst hg; exact own_lit1 h a b
theorem l4_1 (s t z p l e : Int) (b : Bool) (v r : Int) (T : Int) (hT : 0 ≤ T ∧ T ≤ 60) (hz : 1 ≤ z ∧ z ≤ 20) (w : World) : Calls Tryz.prog 40 #[.agg #[.int .i64 s, .int .i64 t, .int .i64 1, .int .i64 z, .int .i64 p, .int .i64 l, .int .i64 e, .bool b, .int .i64 v, .int .i64 r], .int .i64 T] w fun e' w' => ∃ v', e' = .returned v' ∧ OwnWn w' w.heap.size v' (winsOf 1 z p T) ∧ Below w.heap.size w w' := by
 have hmod : 0 ≤ T % z ∧ T % z ≤ T := ⟨Int.emod_nonneg _ (by omega), by have := Int.emod_add_mul_ediv T z; have := Int.ediv_nonneg (a := T) (b := z) (by omega) (by omega); have := Int.mul_nonneg (a := z) (b := T / z) (by omega) (by omega); omega⟩
 rw [winsOf_1]
 have hwr : IntKind.i64.wrap (T - T % z) = T - T % z := IntWalk.i64_in _ (by omega)
 have hwr2 : IntKind.i64.wrap (T - T % z + z) = T - T % z + z := IntWalk.i64_in _ (by omega)
 go_enter Tryz.func40, Tryz.ntmps40
 go_wp2
 go_region
 all_goals go_wp2
 all_goals
  go_ret
  exact ⟨_, rfl, own_lit1' (by simp) (by simp) _ _, (belB)⟩
theorem l4_3 (s t z p l e : Int) (b : Bool) (v r : Int) (T : Int) (hT : 0 ≤ T ∧ T ≤ 60) (hz : 1 ≤ z ∧ z ≤ 20) (w : World) : Calls Tryz.prog 40 #[.agg #[.int .i64 s, .int .i64 t, .int .i64 3, .int .i64 z, .int .i64 p, .int .i64 l, .int .i64 e, .bool b, .int .i64 v, .int .i64 r], .int .i64 T] w fun e' w' => ∃ v', e' = .returned v' ∧ OwnWn w' w.heap.size v' (winsOf 3 z p T) ∧ Below w.heap.size w w' := by
 have hmod : 0 ≤ T % z ∧ T % z ≤ T := ⟨Int.emod_nonneg _ (by omega), by have := Int.emod_add_mul_ediv T z; have := Int.ediv_nonneg (a := T) (b := z) (by omega) (by omega); have := Int.mul_nonneg (a := z) (b := T / z) (by omega) (by omega); omega⟩
 rw [winsOf_3]
 have hwr : IntKind.i64.wrap (T - T % z) = T - T % z := IntWalk.i64_in _ (by omega)
 have hwr2 : IntKind.i64.wrap (T - T % z + z) = T - T % z + z := IntWalk.i64_in _ (by omega)
 go_enter Tryz.func40, Tryz.ntmps40
 go_wp2
 all_goals
  go_ret
  exact ⟨_, rfl, own_lit1' (by simp) (by simp) _ _, (belB)⟩
end Go.Proofs.YtflignpbboiahaaGreat
namespace Go.Proofs.YtflignpbboiahaaGreat
open Go.ChangeShapes Go.WideShapes Go.ChangeAt Go.RowKit
/-- When a record, a mark, a wall, an item is ok. -/
def okRec (t k v n : Int) : Bool := inB t 0 60 && inB k 0 3 && inB v (-9) 9 && (n == 0)
def okMark (t k v n : Int) : Bool := (inB t 1 60 || t == 1000) && (k == 0) && (v == 0) && (n == 0)
def okWall (t k v n : Int) : Bool := inB n 1 900 && (t == 0) && (k == 0) && (v == 0)
def okWallS (t k v n : Int) : Bool := (t == 0) && (k == 0) && (v == 0) && inB n 1 900
def okItm (q t k v n : Int) : Bool := if q = 1 then okRec t k v n else if q = 2 then okMark t k v n else if q = 3 then okWall t k v n else false
theorem okWall_eq (t k v n : Int) : okWallS t k v n = okWall t k v n := by
 unfold okWallS okWall
 cases inB n 1 900 <;> cases (t == 0) <;> cases (k == 0) <;> cases (v == 0) <;> rfl
theorem okItm_1 (t k v n : Int) : okItm 1 t k v n = okRec t k v n := rfl
theorem okItm_2 (t k v n : Int) : okItm 2 t k v n = okMark t k v n := rfl
theorem okItm_3 (t k v n : Int) : okItm 3 t k v n = okWall t k v n := rfl
theorem okItm_n {q : Int} (h1 : q ≠ 1) (h2 : q ≠ 2) (h3 : q ≠ 3) (t k v n : Int) : okItm q t k v n = false := by unfold okItm; rw [if_neg h1, if_neg h2, if_neg h3]
theorem recok_any (q t k v n : Int) (w : World) : Calls Tryz.prog 140 #[.agg #[.int .i64 q, .int .i64 t, .int .i64 k, .int .i64 v, .int .i64 n]] w fun e w' => e = .returned (.bool (okRec t k v n)) ∧ Below w.heap.size w w' := by
 cases c0 : inB t 0 60
 ·have hq : Hid (okRec t k v n = false) := hide (by simp [okRec, c0])
  go_enter Tryz.func140, Tryz.ntmps140
  go_wp2_with (go_at_call 45; refine (within_any _ _ _ _).mono ?_; rintro e w' ⟨rfl, rfl⟩)
  go_ret
  exact ⟨ret_b (unhide hq).symm, (belC)⟩
 ·cases c1 : inB k 0 3
  ·have hq : Hid (okRec t k v n = false) := hide (by simp [okRec, c0, c1])
   go_enter Tryz.func140, Tryz.ntmps140
   go_wp2_with (go_at_call 45; refine (within_any _ _ _ _).mono ?_; rintro e w' ⟨rfl, rfl⟩)
   go_ret
   exact ⟨ret_b (unhide hq).symm, (belC)⟩
  ·cases c2 : inB v (-9) 9
   ·have hq : Hid (okRec t k v n = false) := hide (by simp [okRec, c0, c1, c2])
    go_enter Tryz.func140, Tryz.ntmps140
    go_wp2_with (go_at_call 45; refine (within_any _ _ _ _).mono ?_; rintro e w' ⟨rfl, rfl⟩)
    go_ret
    exact ⟨ret_b (unhide hq).symm, (belC)⟩
   ·have hq : Hid (okRec t k v n = (n == 0)) := hide (by simp [okRec, c0, c1, c2])
    go_enter Tryz.func140, Tryz.ntmps140
    go_wp2_with (go_at_call 45; refine (within_any _ _ _ _).mono ?_; rintro e w' ⟨rfl, rfl⟩)
    go_ret
    exact ⟨ret_b (unhide hq).symm, (belC)⟩
theorem markok_any (q t k v n : Int) (w : World) : Calls Tryz.prog 142 #[.agg #[.int .i64 q, .int .i64 t, .int .i64 k, .int .i64 v, .int .i64 n]] w fun e w' => e = .returned (.bool (okMark t k v n)) ∧ Below w.heap.size w w' := by
 cases m0 : inB t 1 60
 ·cases m1 : (t == 1000)
  ·have hq : Hid (okMark t k v n = false) := hide (by simp [okMark, m0, m1])
   go_enter Tryz.func142, Tryz.ntmps142
   go_wp2_with (go_at_call 45; refine (within_any _ _ _ _).mono ?_; rintro e w' ⟨rfl, rfl⟩)
   go_ret
   exact ⟨ret_b (unhide hq).symm, (belC)⟩
  ·cases c0 : (k == 0)
   ·have hq : Hid (okMark t k v n = false) := hide (by simp [okMark, m0, m1, c0])
    go_enter Tryz.func142, Tryz.ntmps142
    go_wp2_with (go_at_call 45; refine (within_any _ _ _ _).mono ?_; rintro e w' ⟨rfl, rfl⟩)
    go_ret
    exact ⟨ret_b (unhide hq).symm, (belC)⟩
   ·cases c1 : (v == 0)
    ·have hq : Hid (okMark t k v n = false) := hide (by simp [okMark, m0, m1, c0, c1])
     go_enter Tryz.func142, Tryz.ntmps142
     go_wp2_with (go_at_call 45; refine (within_any _ _ _ _).mono ?_; rintro e w' ⟨rfl, rfl⟩)
     go_ret
     exact ⟨ret_b (unhide hq).symm, (belC)⟩
    ·have hq : Hid (okMark t k v n = (n == 0)) := hide (by simp [okMark, m0, m1, c0, c1])
     go_enter Tryz.func142, Tryz.ntmps142
     go_wp2_with (go_at_call 45; refine (within_any _ _ _ _).mono ?_; rintro e w' ⟨rfl, rfl⟩)
     go_ret
     exact ⟨ret_b (unhide hq).symm, (belC)⟩
 ·cases c0 : (k == 0)
  ·have hq : Hid (okMark t k v n = false) := hide (by simp [okMark, m0, c0])
   go_enter Tryz.func142, Tryz.ntmps142
   go_wp2_with (go_at_call 45; refine (within_any _ _ _ _).mono ?_; rintro e w' ⟨rfl, rfl⟩)
   go_ret
   exact ⟨ret_b (unhide hq).symm, (belC)⟩
  ·cases c1 : (v == 0)
   ·have hq : Hid (okMark t k v n = false) := hide (by simp [okMark, m0, c0, c1])
    go_enter Tryz.func142, Tryz.ntmps142
    go_wp2_with (go_at_call 45; refine (within_any _ _ _ _).mono ?_; rintro e w' ⟨rfl, rfl⟩)
    go_ret
    exact ⟨ret_b (unhide hq).symm, (belC)⟩
   ·have hq : Hid (okMark t k v n = (n == 0)) := hide (by simp [okMark, m0, c0, c1])
    go_enter Tryz.func142, Tryz.ntmps142
    go_wp2_with (go_at_call 45; refine (within_any _ _ _ _).mono ?_; rintro e w' ⟨rfl, rfl⟩)
    go_ret
    exact ⟨ret_b (unhide hq).symm, (belC)⟩
theorem wallok_any (q t k v n : Int) (w : World) : Calls Tryz.prog 144 #[.agg #[.int .i64 q, .int .i64 t, .int .i64 k, .int .i64 v, .int .i64 n]] w fun e w' => e = .returned (.bool (okWall t k v n)) ∧ Below w.heap.size w w' := by
 cases c0 : inB n 1 900
 ·have hq : Hid (okWall t k v n = false) := hide (by simp [okWall, c0])
  go_enter Tryz.func144, Tryz.ntmps144
  go_wp2_with (go_at_call 45; refine (within_any _ _ _ _).mono ?_; rintro e w' ⟨rfl, rfl⟩)
  go_ret
  exact ⟨ret_b (unhide hq).symm, (belC)⟩
 ·cases c1 : (t == 0)
  ·have hq : Hid (okWall t k v n = false) := hide (by simp [okWall, c0, c1])
   go_enter Tryz.func144, Tryz.ntmps144
   go_wp2_with (go_at_call 45; refine (within_any _ _ _ _).mono ?_; rintro e w' ⟨rfl, rfl⟩)
   go_ret
   exact ⟨ret_b (unhide hq).symm, (belC)⟩
  ·cases c2 : (k == 0)
   ·have hq : Hid (okWall t k v n = false) := hide (by simp [okWall, c0, c1, c2])
    go_enter Tryz.func144, Tryz.ntmps144
    go_wp2_with (go_at_call 45; refine (within_any _ _ _ _).mono ?_; rintro e w' ⟨rfl, rfl⟩)
    go_ret
    exact ⟨ret_b (unhide hq).symm, (belC)⟩
   ·have hq : Hid (okWall t k v n = (v == 0)) := hide (by simp [okWall, c0, c1, c2])
    go_enter Tryz.func144, Tryz.ntmps144
    go_wp2_with (go_at_call 45; refine (within_any _ _ _ _).mono ?_; rintro e w' ⟨rfl, rfl⟩)
    go_ret
    exact ⟨ret_b (unhide hq).symm, (belC)⟩
theorem noneok_any (q t k v n : Int) (w : World) : Calls Tryz.prog 146 #[.agg #[.int .i64 q, .int .i64 t, .int .i64 k, .int .i64 v, .int .i64 n]] w fun e w' => e = .returned (.bool false) ∧ Below w.heap.size w w' := by
 go_enter Tryz.func146, Tryz.ntmps146
 go_wp2
 go_ret
 exact ⟨rfl, (belC)⟩
set_option maxHeartbeats 1000000 in
theorem specitm_any (q t k v n : Int) (w : World) : Calls Tryz.prog 21 #[.agg #[.int .i64 q, .int .i64 t, .int .i64 k, .int .i64 v, .int .i64 n]] w fun e w' => e = .returned (.bool (okItm q t k v n)) ∧ Below w.heap.size w w' := by
 by_cases h1 : q = 1
 ·subst h1
  rw [okItm_1]
  cases c0 : inB t 0 60
  ·have hq : Hid (okRec t k v n = false) := hide (by simp [okRec, c0])
   go_enter Tryz.func21, Tryz.ntmps21
   go_wp2_with (go_at_call 36; refine (l1In_any _ _ _ _).mono ?_; rintro e w' ⟨rfl, rfl⟩)
   go_ret
   exact ⟨ret_b (unhide hq).symm, (belC)⟩
  ·cases c1 : inB k 0 3
   ·have hq : Hid (okRec t k v n = false) := hide (by simp [okRec, c0, c1])
    go_enter Tryz.func21, Tryz.ntmps21
    go_wp2_with (go_at_call 36; refine (l1In_any _ _ _ _).mono ?_; rintro e w' ⟨rfl, rfl⟩)
    go_ret
    exact ⟨ret_b (unhide hq).symm, (belC)⟩
   ·cases c2 : inB v (-9) 9
    ·have hq : Hid (okRec t k v n = false) := hide (by simp [okRec, c0, c1, c2])
     go_enter Tryz.func21, Tryz.ntmps21
     go_wp2_with (go_at_call 36; refine (l1In_any _ _ _ _).mono ?_; rintro e w' ⟨rfl, rfl⟩)
     go_ret
     exact ⟨ret_b (unhide hq).symm, (belC)⟩
    ·have hq : Hid (okRec t k v n = (n == 0)) := hide (by simp [okRec, c0, c1, c2])
     go_enter Tryz.func21, Tryz.ntmps21
     go_wp2_with (go_at_call 36; refine (l1In_any _ _ _ _).mono ?_; rintro e w' ⟨rfl, rfl⟩)
     go_ret
     exact ⟨ret_b (unhide hq).symm, (belC)⟩
 by_cases h2 : q = 2
 ·subst h2
  rw [okItm_2]
  cases m0 : inB t 1 60
  ·cases m1 : (t == 1000)
   ·have hq : Hid (okMark t k v n = false) := hide (by simp [okMark, m0, m1])
    go_enter Tryz.func21, Tryz.ntmps21
    go_wp2_with (go_at_call 36; refine (l1In_any _ _ _ _).mono ?_; rintro e w' ⟨rfl, rfl⟩)
    go_ret
    exact ⟨ret_b (unhide hq).symm, (belC)⟩
   ·cases c0 : (k == 0)
    ·have hq : Hid (okMark t k v n = false) := hide (by simp [okMark, m0, m1, c0])
     go_enter Tryz.func21, Tryz.ntmps21
     go_wp2_with (go_at_call 36; refine (l1In_any _ _ _ _).mono ?_; rintro e w' ⟨rfl, rfl⟩)
     go_ret
     exact ⟨ret_b (unhide hq).symm, (belC)⟩
    ·cases c1 : (v == 0)
     ·have hq : Hid (okMark t k v n = false) := hide (by simp [okMark, m0, m1, c0, c1])
      go_enter Tryz.func21, Tryz.ntmps21
      go_wp2_with (go_at_call 36; refine (l1In_any _ _ _ _).mono ?_; rintro e w' ⟨rfl, rfl⟩)
      go_ret
      exact ⟨ret_b (unhide hq).symm, (belC)⟩
     ·have hq : Hid (okMark t k v n = (n == 0)) := hide (by simp [okMark, m0, m1, c0, c1])
      go_enter Tryz.func21, Tryz.ntmps21
      go_wp2_with (go_at_call 36; refine (l1In_any _ _ _ _).mono ?_; rintro e w' ⟨rfl, rfl⟩)
      go_ret
      exact ⟨ret_b (unhide hq).symm, (belC)⟩
  ·cases c0 : (k == 0)
   ·have hq : Hid (okMark t k v n = false) := hide (by simp [okMark, m0, c0])
    go_enter Tryz.func21, Tryz.ntmps21
    go_wp2_with (go_at_call 36; refine (l1In_any _ _ _ _).mono ?_; rintro e w' ⟨rfl, rfl⟩)
    go_ret
    exact ⟨ret_b (unhide hq).symm, (belC)⟩
   ·cases c1 : (v == 0)
    ·have hq : Hid (okMark t k v n = false) := hide (by simp [okMark, m0, c0, c1])
     go_enter Tryz.func21, Tryz.ntmps21
     go_wp2_with (go_at_call 36; refine (l1In_any _ _ _ _).mono ?_; rintro e w' ⟨rfl, rfl⟩)
     go_ret
     exact ⟨ret_b (unhide hq).symm, (belC)⟩
    ·have hq : Hid (okMark t k v n = (n == 0)) := hide (by simp [okMark, m0, c0, c1])
     go_enter Tryz.func21, Tryz.ntmps21
     go_wp2_with (go_at_call 36; refine (l1In_any _ _ _ _).mono ?_; rintro e w' ⟨rfl, rfl⟩)
     go_ret
     exact ⟨ret_b (unhide hq).symm, (belC)⟩
 have g1 : (q == 1) = false := by simpa using h1
 have g2 : (q == 2) = false := by simpa using h2
 by_cases h3 : q = 3
 ·subst h3
  rw [okItm_3, ← okWall_eq]
  clear g1 g2
  cases c0 : (t == 0)
  ·have hq : Hid (okWallS t k v n = false) := hide (by simp [okWallS, c0])
   go_enter Tryz.func21, Tryz.ntmps21
   go_wp2_with (go_at_call 36; refine (l1In_any _ _ _ _).mono ?_; rintro e w' ⟨rfl, rfl⟩)
   go_ret
   exact ⟨ret_b (unhide hq).symm, (belC)⟩
  ·cases c1 : (k == 0)
   ·have hq : Hid (okWallS t k v n = false) := hide (by simp [okWallS, c0, c1])
    go_enter Tryz.func21, Tryz.ntmps21
    go_wp2_with (go_at_call 36; refine (l1In_any _ _ _ _).mono ?_; rintro e w' ⟨rfl, rfl⟩)
    go_ret
    exact ⟨ret_b (unhide hq).symm, (belC)⟩
   ·cases c2 : (v == 0)
    ·have hq : Hid (okWallS t k v n = false) := hide (by simp [okWallS, c0, c1, c2])
     go_enter Tryz.func21, Tryz.ntmps21
     go_wp2_with (go_at_call 36; refine (l1In_any _ _ _ _).mono ?_; rintro e w' ⟨rfl, rfl⟩)
     go_ret
     exact ⟨ret_b (unhide hq).symm, (belC)⟩
    ·have hq : Hid (okWallS t k v n = inB n 1 900) := hide (by simp [okWallS, c0, c1, c2])
     go_enter Tryz.func21, Tryz.ntmps21
     go_wp2_with (go_at_call 36; refine (l1In_any _ _ _ _).mono ?_; rintro e w' ⟨rfl, rfl⟩)
     go_ret
     exact ⟨ret_b (unhide hq).symm, (belC)⟩
 have g3 : (q == 3) = false := by simpa using h3
 have hq : Hid (okItm q t k v n = false) := hide (okItm_n h1 h2 h3 t k v n)
 clear h1 h2 h3
 go_enter Tryz.func21, Tryz.ntmps21
 go_wp2_with (go_at_call 36; refine (l1In_any _ _ _ _).mono ?_; rintro e w' ⟨rfl, rfl⟩)
 go_ret
 exact ⟨ret_b (unhide hq).symm, (belC)⟩
/-- The interface value that an item is, by its kind. -/
def partV (q t k v n : Int) : Value := .iface (if q = 1 then 120 else if q = 2 then 121 else if q = 3 then 122 else 123) (.agg #[.int .i64 q, .int .i64 t, .int .i64 k, .int .i64 v, .int .i64 n])
theorem partOf_any (q t k v n : Int) (w : World) : Calls Tryz.prog 49 #[.agg #[.int .i64 q, .int .i64 t, .int .i64 k, .int .i64 v, .int .i64 n]] w fun e w' => e = .returned (partV q t k v n) ∧ Below w.heap.size w w' := by
 by_cases h1 : q = 1
 ·subst h1
  go_enter Tryz.func49, Tryz.ntmps49
  go_wp2
  go_ret
  exact ⟨rfl, (belC)⟩
 by_cases h2 : q = 2
 ·subst h2
  go_enter Tryz.func49, Tryz.ntmps49
  go_wp2
  go_ret
  exact ⟨rfl, (belC)⟩
 by_cases h3 : q = 3
 ·subst h3
  go_enter Tryz.func49, Tryz.ntmps49
  go_wp2
  go_ret
  exact ⟨rfl, (belC)⟩
 have hq : Hid (partV q t k v n = .iface 123 (.agg #[.int .i64 q, .int .i64 t, .int .i64 k, .int .i64 v, .int .i64 n])) := hide (by unfold partV; rw [if_neg h1, if_neg h2, if_neg h3])
 have g1 : (q == 1) = false := by simpa using h1
 have g2 : (q == 2) = false := by simpa using h2
 have g3 : (q == 3) = false := by simpa using h3
 clear h1 h2 h3
 go_enter Tryz.func49, Tryz.ntmps49
 go_wp2
 go_ret
 exact ⟨by rw [unhide hq]; rfl, (belC)⟩
theorem implitm_any (q t k v n : Int) (w : World) : Calls Tryz.prog 50 #[.agg #[.int .i64 q, .int .i64 t, .int .i64 k, .int .i64 v, .int .i64 n]] w fun e w' => e = .returned (.bool (okItm q t k v n)) ∧ Below w.heap.size w w' := by
 by_cases h1 : q = 1
 ·subst h1
  rw [okItm_1]
  have hp : partV 1 t k v n = .iface 120 (.agg #[.int .i64 1, .int .i64 t, .int .i64 k, .int .i64 v, .int .i64 n]) := rfl
  have hm : ∀ w : World, (method 296 120 (.agg #[.int .i64 1, .int .i64 t, .int .i64 k, .int .i64 v, .int .i64 n]) "loop.example/freshet/impl.ok").run Tryz.prog w = .ok (140, .agg #[.int .i64 1, .int .i64 t, .int .i64 k, .int .i64 v, .int .i64 n]) w := fun _ => by kernel_rfl
  go_enter Tryz.func50, Tryz.ntmps50
  go_wp2_with (first
   | (go_at_call 49; refine (partOf_any _ _ _ _ _ _).mono ?_; rintro e w' ⟨rfl, hb⟩)
   | (go_at_call 140; refine (recok_any _ _ _ _ _ _).mono ?_; rintro e w' ⟨rfl, hb⟩))
  go_ret
  exact ⟨rfl, (belC)⟩
 by_cases h2 : q = 2
 ·subst h2
  rw [okItm_2]
  have hp : partV 2 t k v n = .iface 121 (.agg #[.int .i64 2, .int .i64 t, .int .i64 k, .int .i64 v, .int .i64 n]) := rfl
  have hm : ∀ w : World, (method 296 121 (.agg #[.int .i64 2, .int .i64 t, .int .i64 k, .int .i64 v, .int .i64 n]) "loop.example/freshet/impl.ok").run Tryz.prog w = .ok (142, .agg #[.int .i64 2, .int .i64 t, .int .i64 k, .int .i64 v, .int .i64 n]) w := fun _ => by kernel_rfl
  go_enter Tryz.func50, Tryz.ntmps50
  go_wp2_with (first
   | (go_at_call 49; refine (partOf_any _ _ _ _ _ _).mono ?_; rintro e w' ⟨rfl, hb⟩)
   | (go_at_call 142; refine (markok_any _ _ _ _ _ _).mono ?_; rintro e w' ⟨rfl, hb⟩))
  go_ret
  exact ⟨rfl, (belC)⟩
 by_cases h3 : q = 3
 ·subst h3
  rw [okItm_3]
  have hp : partV 3 t k v n = .iface 122 (.agg #[.int .i64 3, .int .i64 t, .int .i64 k, .int .i64 v, .int .i64 n]) := rfl
  have hm : ∀ w : World, (method 296 122 (.agg #[.int .i64 3, .int .i64 t, .int .i64 k, .int .i64 v, .int .i64 n]) "loop.example/freshet/impl.ok").run Tryz.prog w = .ok (144, .agg #[.int .i64 3, .int .i64 t, .int .i64 k, .int .i64 v, .int .i64 n]) w := fun _ => by kernel_rfl
  go_enter Tryz.func50, Tryz.ntmps50
  go_wp2_with (first
   | (go_at_call 49; refine (partOf_any _ _ _ _ _ _).mono ?_; rintro e w' ⟨rfl, hb⟩)
   | (go_at_call 144; refine (wallok_any _ _ _ _ _ _).mono ?_; rintro e w' ⟨rfl, hb⟩))
  go_ret
  exact ⟨rfl, (belC)⟩
 have hq : Hid (okItm q t k v n = false) := hide (okItm_n h1 h2 h3 t k v n)
 have hr : partV q t k v n = .iface 123 (.agg #[.int .i64 q, .int .i64 t, .int .i64 k, .int .i64 v, .int .i64 n]) := by unfold partV; rw [if_neg h1, if_neg h2, if_neg h3]
 clear h1 h2 h3
 have hp : partV q t k v n = .iface 123 (.agg #[.int .i64 q, .int .i64 t, .int .i64 k, .int .i64 v, .int .i64 n]) := hr
 have hm : ∀ w : World, (method 296 123 (.agg #[.int .i64 q, .int .i64 t, .int .i64 k, .int .i64 v, .int .i64 n]) "loop.example/freshet/impl.ok").run Tryz.prog w = .ok (146, .agg #[.int .i64 q, .int .i64 t, .int .i64 k, .int .i64 v, .int .i64 n]) w := fun _ => by kernel_rfl
 go_enter Tryz.func50, Tryz.ntmps50
 go_wp2_with (first
  | (go_at_call 49; refine (partOf_any _ _ _ _ _ _).mono ?_; rintro e w' ⟨rfl, hb⟩)
  | (go_at_call 146; refine (noneok_any _ _ _ _ _ _).mono ?_; rintro e w' ⟨rfl, hb⟩))
 go_ret
 exact ⟨ret_b (unhide hq).symm, (belC)⟩
theorem partV_1 (t k v n : Int) : partV 1 t k v n = .iface 120 (.agg #[.int .i64 1, .int .i64 t, .int .i64 k, .int .i64 v, .int .i64 n]) := rfl
theorem partV_2 (t k v n : Int) : partV 2 t k v n = .iface 121 (.agg #[.int .i64 2, .int .i64 t, .int .i64 k, .int .i64 v, .int .i64 n]) := rfl
theorem partV_3 (t k v n : Int) : partV 3 t k v n = .iface 122 (.agg #[.int .i64 3, .int .i64 t, .int .i64 k, .int .i64 v, .int .i64 n]) := rfl
theorem partV_n {q : Int} (h1 : q ≠ 1) (h2 : q ≠ 2) (h3 : q ≠ 3) (t k v n : Int) : partV q t k v n = .iface 123 (.agg #[.int .i64 q, .int .i64 t, .int .i64 k, .int .i64 v, .int .i64 n]) := by unfold partV; rw [if_neg h1, if_neg h2, if_neg h3]
theorem taRR (x : Value) (w : World) : (Instr.typeAssert (.iface 120 x) 94 120 true).run Tryz.prog w = .ok (.tuple #[x, .bool true]) w := by kernel_rfl
theorem taRM (x : Value) (w : World) : (Instr.typeAssert (.iface 120 x) 94 121 true).run Tryz.prog w = .ok (.tuple #[.agg #[.int .i64 0, .int .i64 0, .int .i64 0, .int .i64 0, .int .i64 0], .bool false]) w := by kernel_rfl
theorem taMR (x : Value) (w : World) : (Instr.typeAssert (.iface 121 x) 94 120 true).run Tryz.prog w = .ok (.tuple #[.agg #[.int .i64 0, .int .i64 0, .int .i64 0, .int .i64 0, .int .i64 0], .bool false]) w := by kernel_rfl
theorem taMM (x : Value) (w : World) : (Instr.typeAssert (.iface 121 x) 94 121 true).run Tryz.prog w = .ok (.tuple #[x, .bool true]) w := by kernel_rfl
theorem taWR (x : Value) (w : World) : (Instr.typeAssert (.iface 122 x) 94 120 true).run Tryz.prog w = .ok (.tuple #[.agg #[.int .i64 0, .int .i64 0, .int .i64 0, .int .i64 0, .int .i64 0], .bool false]) w := by kernel_rfl
theorem taWM (x : Value) (w : World) : (Instr.typeAssert (.iface 122 x) 94 121 true).run Tryz.prog w = .ok (.tuple #[.agg #[.int .i64 0, .int .i64 0, .int .i64 0, .int .i64 0, .int .i64 0], .bool false]) w := by kernel_rfl
theorem taNR (x : Value) (w : World) : (Instr.typeAssert (.iface 123 x) 94 120 true).run Tryz.prog w = .ok (.tuple #[.agg #[.int .i64 0, .int .i64 0, .int .i64 0, .int .i64 0, .int .i64 0], .bool false]) w := by kernel_rfl
theorem taNM (x : Value) (w : World) : (Instr.typeAssert (.iface 123 x) 94 121 true).run Tryz.prog w = .ok (.tuple #[.agg #[.int .i64 0, .int .i64 0, .int .i64 0, .int .i64 0, .int .i64 0], .bool false]) w := by kernel_rfl
/-- What recordOf tells. -/
def recIt (q t k v n : Int) : Value := if q = 1 then .agg #[.int .i64 1, .int .i64 t, .int .i64 k, .int .i64 v, .int .i64 n] else .agg #[.int .i64 0, .int .i64 0, .int .i64 0, .int .i64 0, .int .i64 0]
theorem recIt_1 (t k v n : Int) : recIt 1 t k v n = .agg #[.int .i64 1, .int .i64 t, .int .i64 k, .int .i64 v, .int .i64 n] := rfl
theorem recIt_n {q : Int} (h : q ≠ 1) (t k v n : Int) : recIt q t k v n = .agg #[.int .i64 0, .int .i64 0, .int .i64 0, .int .i64 0, .int .i64 0] := if_neg h
theorem ret_rec {a b : Value} {c d : Bool} (h : a = b) (k : c = d) : Ending.returned (.tuple #[a, .bool c]) = .returned (.tuple #[b, .bool d]) := by rw [h, k]
theorem record_any (q t k v n : Int) (w : World) : Calls Tryz.prog 48 #[partV q t k v n] w fun e w' => e = .returned (.tuple #[recIt q t k v n, .bool (q == 1)]) ∧ Below w.heap.size w w' := by
 by_cases h1 : q = 1
 ·subst h1
  rw [partV_1]
  have rR := taRR
  have mR := taRM
  go_enter Tryz.func48, Tryz.ntmps48
  go_wp2
  refine bodyPost_ret (v := .tuple #[.agg #[.int .i64 1, .int .i64 t, .int .i64 k, .int .i64 v, .int .i64 n], .bool true]) (by simp [results, Tryz.results48, go_sem]) rfl ⟨rfl, ?_⟩
  exact (belC)
 have hq := hide (recIt_n h1 t k v n)
 have hp : Hid ((q == 1) = false) := hide (by simpa using h1)
 by_cases h2 : q = 2
 ·subst h2
  rw [partV_2]
  have rM := taMR
  have mM := taMM
  go_enter Tryz.func48, Tryz.ntmps48
  go_wp2
  refine bodyPost_ret (v := .tuple #[.agg #[.int .i64 0, .int .i64 0, .int .i64 0, .int .i64 0, .int .i64 0], .bool false]) (by simp [results, Tryz.results48, go_sem]) rfl ⟨ret_rec (unhide hq).symm (unhide hp).symm, ?_⟩
  exact (belC)
 by_cases h3 : q = 3
 ·subst h3
  rw [partV_3]
  have rW := taWR
  have mW := taWM
  go_enter Tryz.func48, Tryz.ntmps48
  go_wp2
  refine bodyPost_ret (v := .tuple #[.agg #[.int .i64 0, .int .i64 0, .int .i64 0, .int .i64 0, .int .i64 0], .bool false]) (by simp [results, Tryz.results48, go_sem]) rfl ⟨ret_rec (unhide hq).symm (unhide hp).symm, ?_⟩
  exact (belC)
 ·rw [partV_n h1 h2 h3]
  have rN := taNR
  have mN := taNM
  clear h1 h2 h3
  go_enter Tryz.func48, Tryz.ntmps48
  go_wp2
  refine bodyPost_ret (v := .tuple #[.agg #[.int .i64 0, .int .i64 0, .int .i64 0, .int .i64 0, .int .i64 0], .bool false]) (by simp [results, Tryz.results48, go_sem]) rfl ⟨ret_rec (unhide hq).symm (unhide hp).symm, ?_⟩
  exact (belC)
def isRecB (q t k v n : Int) : Bool := (q == 1) && okRec t k v n
theorem isRecB_n {q : Int} (h : q ≠ 1) (t k v n : Int) : isRecB q t k v n = false := by simp [isRecB, h]
theorem isRecB_1 (t k v n : Int) : isRecB 1 t k v n = okRec t k v n := by simp [isRecB]
theorem okItm_rec (t k v n : Int) : okItm 1 t k v n = okRec t k v n := rfl
set_option maxHeartbeats 1000000 in
theorem isrec_any (q t k v n : Int) (w : World) : Calls Tryz.prog 26 #[.agg #[.int .i64 q, .int .i64 t, .int .i64 k, .int .i64 v, .int .i64 n]] w fun e' w' => e' = .returned (.bool (isRecB q t k v n)) ∧ Below w.heap.size w w' := by
 by_cases h1 : q = 1
 ·subst h1
  have hq := hide ((isRecB_1 t k v n).trans (okItm_rec t k v n).symm)
  have hr := recIt_1 t k v n
  go_enter Tryz.func26, Tryz.ntmps26
  go_wp2_with (first
   | (go_at_call 49; refine (partOf_any _ _ _ _ _ _).mono ?_; rintro e w' ⟨rfl, hb⟩; obtain ⟨hc, hf, hs⟩ := bcell hb; (try have hz0 := zA hb w.heap.size); (try have hz1 := zA hb (w.heap.size + 1)))
   | (go_at_call 48; refine (record_any _ _ _ _ _ _).mono ?_; rintro e w' ⟨rfl, hb⟩; obtain ⟨hc, hf, hs⟩ := bcell hb; (try have hz0 := zA hb w.heap.size); (try have hz1 := zA hb (w.heap.size + 1)))
   | (go_at_call 50; refine (implitm_any _ _ _ _ _ _).mono ?_; rintro e w' ⟨rfl, hb⟩; obtain ⟨hc, hf, hs⟩ := bcell hb; (try have hz0 := zA hb w.heap.size); (try have hz1 := zA hb (w.heap.size + 1))))
  go_ret
  exact ⟨ret_b (unhide hq).symm, (belB)⟩
 ·have hq := hide (isRecB_n h1 t k v n)
  have hr := recIt_n h1 t k v n
  have h1' : (q == 1) = false := by simpa using h1
  clear h1
  go_enter Tryz.func26, Tryz.ntmps26
  go_wp2_with (first
   | (go_at_call 49; refine (partOf_any _ _ _ _ _ _).mono ?_; rintro e w' ⟨rfl, hb⟩; obtain ⟨hc, hf, hs⟩ := bcell hb; (try have hz0 := zA hb w.heap.size); (try have hz1 := zA hb (w.heap.size + 1)))
   | (go_at_call 48; refine (record_any _ _ _ _ _ _).mono ?_; rintro e w' ⟨rfl, hb⟩; obtain ⟨hc, hf, hs⟩ := bcell hb; (try have hz0 := zA hb w.heap.size); (try have hz1 := zA hb (w.heap.size + 1)))
   | (go_at_call 50; refine (implitm_any _ _ _ _ _ _).mono ?_; rintro e w' ⟨rfl, hb⟩; obtain ⟨hc, hf, hs⟩ := bcell hb; (try have hz0 := zA hb w.heap.size); (try have hz1 := zA hb (w.heap.size + 1))))
  go_ret
  exact ⟨ret_b (unhide hq).symm, (belB)⟩
theorem hd_7_7 {b0 b1 a0 a1 a2 a3 a4 a5 a6 c0 c1 c2 c3 c4 c5 c6 : Nat} {k0 k1 k2 k3 k4 k5 k6 l0 l1 l2 l3 l4 l5 l6 : Value} {W W' : World} (h : ((W.cell? ⟨b0, a0, none⟩ = some k0 ∧ W.cell? ⟨b0, a1, none⟩ = some k1 ∧ W.cell? ⟨b0, a2, none⟩ = some k2 ∧ W.cell? ⟨b0, a3, none⟩ = some k3 ∧ W.cell? ⟨b0, a4, none⟩ = some k4 ∧ W.cell? ⟨b0, a5, none⟩ = some k5 ∧ W.cell? ⟨b0, a6, none⟩ = some k6 ∧ W.cell? ⟨b1, c0, none⟩ = some l0 ∧ W.cell? ⟨b1, c1, none⟩ = some l1 ∧ W.cell? ⟨b1, c2, none⟩ = some l2 ∧ W.cell? ⟨b1, c3, none⟩ = some l3 ∧ W.cell? ⟨b1, c4, none⟩ = some l4 ∧ W.cell? ⟨b1, c5, none⟩ = some l5 ∧ W.cell? ⟨b1, c6, none⟩ = some l6) ∧ b0 < W.heap.size ∧ b1 < W.heap.size)) (hb : Below W.heap.size W W') : ((W'.cell? ⟨b0, a0, none⟩ = some k0 ∧ W'.cell? ⟨b0, a1, none⟩ = some k1 ∧ W'.cell? ⟨b0, a2, none⟩ = some k2 ∧ W'.cell? ⟨b0, a3, none⟩ = some k3 ∧ W'.cell? ⟨b0, a4, none⟩ = some k4 ∧ W'.cell? ⟨b0, a5, none⟩ = some k5 ∧ W'.cell? ⟨b0, a6, none⟩ = some k6 ∧ W'.cell? ⟨b1, c0, none⟩ = some l0 ∧ W'.cell? ⟨b1, c1, none⟩ = some l1 ∧ W'.cell? ⟨b1, c2, none⟩ = some l2 ∧ W'.cell? ⟨b1, c3, none⟩ = some l3 ∧ W'.cell? ⟨b1, c4, none⟩ = some l4 ∧ W'.cell? ⟨b1, c5, none⟩ = some l5 ∧ W'.cell? ⟨b1, c6, none⟩ = some l6) ∧ b0 < W'.heap.size ∧ b1 < W'.heap.size) := by
 obtain ⟨h99, s0, s1⟩ := h
 have e0 : ∀ z, W'.cell? ⟨b0, z, none⟩ = W.cell? ⟨b0, z, none⟩ := fun z => hb.cell s0
 have e1 : ∀ z, W'.cell? ⟨b1, z, none⟩ = W.cell? ⟨b1, z, none⟩ := fun z => hb.cell s1
 refine ⟨?_, Nat.lt_of_lt_of_le s0 hb.size, Nat.lt_of_lt_of_le s1 hb.size⟩
 simp only [e0, e1]
 exact h99
theorem hd_7_7_set {b0 b1 a0 a1 a2 a3 a4 a5 a6 c0 c1 c2 c3 c4 c5 c6 : Nat} {k0 k1 k2 k3 k4 k5 k6 l0 l1 l2 l3 l4 l5 l6 : Value} {W : World} {p : Addr} (h : ((W.cell? ⟨b0, a0, none⟩ = some k0 ∧ W.cell? ⟨b0, a1, none⟩ = some k1 ∧ W.cell? ⟨b0, a2, none⟩ = some k2 ∧ W.cell? ⟨b0, a3, none⟩ = some k3 ∧ W.cell? ⟨b0, a4, none⟩ = some k4 ∧ W.cell? ⟨b0, a5, none⟩ = some k5 ∧ W.cell? ⟨b0, a6, none⟩ = some k6 ∧ W.cell? ⟨b1, c0, none⟩ = some l0 ∧ W.cell? ⟨b1, c1, none⟩ = some l1 ∧ W.cell? ⟨b1, c2, none⟩ = some l2 ∧ W.cell? ⟨b1, c3, none⟩ = some l3 ∧ W.cell? ⟨b1, c4, none⟩ = some l4 ∧ W.cell? ⟨b1, c5, none⟩ = some l5 ∧ W.cell? ⟨b1, c6, none⟩ = some l6) ∧ b0 < W.heap.size ∧ b1 < W.heap.size)) (p0 : p.block ≠ b0) (p1 : p.block ≠ b1) (u : Value) : (((W.setCell p u).cell? ⟨b0, a0, none⟩ = some k0 ∧ (W.setCell p u).cell? ⟨b0, a1, none⟩ = some k1 ∧ (W.setCell p u).cell? ⟨b0, a2, none⟩ = some k2 ∧ (W.setCell p u).cell? ⟨b0, a3, none⟩ = some k3 ∧ (W.setCell p u).cell? ⟨b0, a4, none⟩ = some k4 ∧ (W.setCell p u).cell? ⟨b0, a5, none⟩ = some k5 ∧ (W.setCell p u).cell? ⟨b0, a6, none⟩ = some k6 ∧ (W.setCell p u).cell? ⟨b1, c0, none⟩ = some l0 ∧ (W.setCell p u).cell? ⟨b1, c1, none⟩ = some l1 ∧ (W.setCell p u).cell? ⟨b1, c2, none⟩ = some l2 ∧ (W.setCell p u).cell? ⟨b1, c3, none⟩ = some l3 ∧ (W.setCell p u).cell? ⟨b1, c4, none⟩ = some l4 ∧ (W.setCell p u).cell? ⟨b1, c5, none⟩ = some l5 ∧ (W.setCell p u).cell? ⟨b1, c6, none⟩ = some l6) ∧ b0 < (W.setCell p u).heap.size ∧ b1 < (W.setCell p u).heap.size) := by
 obtain ⟨h99, s0, s1⟩ := h
 have hb : W.heap.size ≤ (W.setCell p u).heap.size := by simp [World.setCell]
 have e0 : ∀ z, (W.setCell p u).cell? ⟨b0, z, none⟩ = W.cell? ⟨b0, z, none⟩ := fun z => cell_set_ne p0
 have e1 : ∀ z, (W.setCell p u).cell? ⟨b1, z, none⟩ = W.cell? ⟨b1, z, none⟩ := fun z => cell_set_ne p1
 refine ⟨?_, Nat.lt_of_lt_of_le s0 hb, Nat.lt_of_lt_of_le s1 hb⟩
 simp only [e0, e1]
 exact h99
theorem hd_7_7_re {b0 b1 a0 a1 a2 a3 a4 a5 a6 c0 c1 c2 c3 c4 c5 c6 : Nat} {k0 k1 k2 k3 k4 k5 k6 l0 l1 l2 l3 l4 l5 l6 : Value} {W : World} {o o' : Obj} (h : (((W.alloc o).cell? ⟨b0, a0, none⟩ = some k0 ∧ (W.alloc o).cell? ⟨b0, a1, none⟩ = some k1 ∧ (W.alloc o).cell? ⟨b0, a2, none⟩ = some k2 ∧ (W.alloc o).cell? ⟨b0, a3, none⟩ = some k3 ∧ (W.alloc o).cell? ⟨b0, a4, none⟩ = some k4 ∧ (W.alloc o).cell? ⟨b0, a5, none⟩ = some k5 ∧ (W.alloc o).cell? ⟨b0, a6, none⟩ = some k6 ∧ (W.alloc o).cell? ⟨b1, c0, none⟩ = some l0 ∧ (W.alloc o).cell? ⟨b1, c1, none⟩ = some l1 ∧ (W.alloc o).cell? ⟨b1, c2, none⟩ = some l2 ∧ (W.alloc o).cell? ⟨b1, c3, none⟩ = some l3 ∧ (W.alloc o).cell? ⟨b1, c4, none⟩ = some l4 ∧ (W.alloc o).cell? ⟨b1, c5, none⟩ = some l5 ∧ (W.alloc o).cell? ⟨b1, c6, none⟩ = some l6) ∧ b0 < (W.alloc o).heap.size ∧ b1 < (W.alloc o).heap.size)) (p0 : b0 < W.heap.size) (p1 : b1 < W.heap.size) : (((W.alloc o').cell? ⟨b0, a0, none⟩ = some k0 ∧ (W.alloc o').cell? ⟨b0, a1, none⟩ = some k1 ∧ (W.alloc o').cell? ⟨b0, a2, none⟩ = some k2 ∧ (W.alloc o').cell? ⟨b0, a3, none⟩ = some k3 ∧ (W.alloc o').cell? ⟨b0, a4, none⟩ = some k4 ∧ (W.alloc o').cell? ⟨b0, a5, none⟩ = some k5 ∧ (W.alloc o').cell? ⟨b0, a6, none⟩ = some k6 ∧ (W.alloc o').cell? ⟨b1, c0, none⟩ = some l0 ∧ (W.alloc o').cell? ⟨b1, c1, none⟩ = some l1 ∧ (W.alloc o').cell? ⟨b1, c2, none⟩ = some l2 ∧ (W.alloc o').cell? ⟨b1, c3, none⟩ = some l3 ∧ (W.alloc o').cell? ⟨b1, c4, none⟩ = some l4 ∧ (W.alloc o').cell? ⟨b1, c5, none⟩ = some l5 ∧ (W.alloc o').cell? ⟨b1, c6, none⟩ = some l6) ∧ b0 < (W.alloc o').heap.size ∧ b1 < (W.alloc o').heap.size) := by
 obtain ⟨h99, s0, s1⟩ := h
 have hb : Below W.heap.size (W.alloc o) (W.alloc o') := bel_re W o o'
 have e0 : ∀ z, (W.alloc o').cell? ⟨b0, z, none⟩ = (W.alloc o).cell? ⟨b0, z, none⟩ := fun z => hb.cell p0
 have e1 : ∀ z, (W.alloc o').cell? ⟨b1, z, none⟩ = (W.alloc o).cell? ⟨b1, z, none⟩ := fun z => hb.cell p1
 refine ⟨?_, Nat.lt_of_lt_of_le s0 hb.size, Nat.lt_of_lt_of_le s1 hb.size⟩
 simp only [e0, e1]
 exact h99
end Go.Proofs.YtflignpbboiahaaGreat
