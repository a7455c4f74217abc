/- Laid together: what the claim needs of the texts that were built one by one. -/
import Derived.Test.YtikidpcgnmffcaaGreatPkJob
import Derived.Test.YtikidpcgnmffcaaGreatPkRwWin
import Derived.Test.YtikidpcgnmffcaaGreatPkBase
namespace Go.Proofs.YtikidpcgnmffcaaGreat
open Go.ChangeShapes Go.WideShapes Go.ChangeAt Go.RowKit
set_option linter.unusedVariables false

/-- The windows that slide, from a start on. -/
def slideGo (z p t : Int) : Nat → Int → List WnR
  | 0, _ => []
  | n + 1, s => if s ≤ t then (if t < s + z then ⟨s, s + z⟩ :: slideGo z p t n (s + p) else slideGo z p t n (s + p)) else []

theorem slideGo_end {z p t : Int} {n : Nat} {s : Int} (h : ¬ s ≤ t) : slideGo z p t n s = [] := by
  cases n with
  | zero => rfl
  | succ n => exact if_neg h

theorem slideGo_in {z p t : Int} {n : Nat} {s : Int} (h : s ≤ t) (h2 : t < s + z) : slideGo z p t (n + 1) s = ⟨s, s + z⟩ :: slideGo z p t n (s + p) := by
  show (if s ≤ t then _ else _) = _
  rw [if_pos h, if_pos h2]

theorem slideGo_out {z p t : Int} {n : Nat} {s : Int} (h : s ≤ t) (h2 : ¬ t < s + z) : slideGo z p t (n + 1) s = slideGo z p t n (s + p) := by
  show (if s ≤ t then _ else _) = _
  rw [if_pos h, if_neg h2]

theorem slideGo_len (z p t : Int) (n : Nat) (s : Int) : (slideGo z p t n s).length ≤ n := by
  induction n generalizing s with
  | zero => exact Nat.le_refl _
  | succ n ih =>
    have := ih (s + p)
    show (if s ≤ t then _ else _ : List WnR).length ≤ _
    split
    · split
      · simp; omega
      · omega
    · simp

/-- The windows of a time. -/
def winsOf (k z p t : Int) : List WnR := if k = 1 then [⟨t - t % z, t - t % z + z⟩] else if k = 3 then [⟨t, t + z⟩] else slideGo z p t 61 0

theorem winsOf_len (k z p t : Int) : (winsOf k z p t).length ≤ 61 := by
  unfold winsOf
  split
  · simp
  · split
    · simp
    · exact slideGo_len _ _ _ _ _

theorem snocW (total ys rest : List WnR) (x : WnR) (h : total = ys ++ x :: rest) : total = (ys ++ [x]) ++ rest := by rw [h]; simp

theorem Tryz.infoWin : (Tryz.prog.info? 42).map (fun i => (i.zero, i.size, i.bytes)) = some (some (.agg #[.int .i64 0, .int .i64 0]), 2, 16) := by kernel_rfl

theorem own_lit1 {W : World} {B : Nat} (h : B ≤ W.heap.size) (a b : Int) : OwnWn (W.alloc (.cells #[.int .i64 a, .int .i64 b] 42)) B (.slice (some ⟨W.heap.size, 0, none⟩) 1 1) [⟨a, b⟩] :=
  World.ownsRow_lit (base := B) (size := 2) W #[.int .i64 a, .int .i64 b] 1 h (by decide) rfl

theorem World.ownsRow.below {W W' : World} {B : Nat} {e : TypeId} {size n : Nat} {v : Value} {xs : List Value} (h : W.ownsRow B e size v n xs) (hb : Below W.heap.size W W') : W'.ownsRow B e size v n xs :=
  h.kept (grown0Wn hb) (by cases h5 : v.ownBlock <;> simp)

theorem own_lit0 {W : World} {B g : Nat} (h : B ≤ W.heap.size) (hg : g = W.heap.size) : OwnWn (W.alloc (.cells #[] 42)) B (.slice (some ⟨g, 0, none⟩) 0 0) [] := by
  subst hg
  exact World.ownsRow_lit (base := B) (size := 2) W #[] 0 h (by decide) rfl

theorem from_any (s t k z p l e : Int) (b : Bool) (v r : Int) (st : Int) (hs : 0 ≤ st ∧ st ≤ 1000) (hz : 1 ≤ z ∧ z ≤ 20) (w : World) : Calls Tryz.prog 66 #[.agg #[.int .i64 s, .int .i64 t, .int .i64 k, .int .i64 z, .int .i64 p, .int .i64 l, .int .i64 e, .bool b, .int .i64 v, .int .i64 r], .int .i64 st] w fun e' w' => e' = .returned (.agg #[.int .i64 st, .int .i64 (st + z)]) ∧ Below w.heap.size w w' := by
  go_enter Tryz.func66, Tryz.ntmps66
  go_wp2
  refine bodyPost_ret (v := .agg #[.int .i64 st, .int .i64 (st + z)]) (by simp [results, Tryz.results66, go_sem]) rfl ⟨rfl, ?_⟩
  exact (belB)

theorem fixed_any (s t k z p l e : Int) (b : Bool) (v r : Int) (T : Int) (hT : 0 ≤ T ∧ T ≤ 60) (hz : 1 ≤ z ∧ z ≤ 20) (w : World) : Calls Tryz.prog 54 #[.agg #[.int .i64 s, .int .i64 t, .int .i64 k, .int .i64 z, .int .i64 p, .int .i64 l, .int .i64 e, .bool b, .int .i64 v, .int .i64 r], .int .i64 T] w fun e' w' => ∃ v', e' = .returned v' ∧ OwnWn w' w.heap.size v' ([⟨T - T % z, T - T % z + z⟩]) ∧ Below w.heap.size w w' := by
  have hmod : 0 ≤ T % z ∧ T % z ≤ T := ⟨Int.emod_nonneg _ (by omega), by have := Int.emod_add_mul_ediv T z; have := Int.ediv_nonneg (a := T) (b := z) (by omega) (by omega); have := Int.mul_nonneg (a := z) (b := T / z) (by omega) (by omega); omega⟩
  have hwr : IntKind.i64.wrap (T - T % z) = T - T % z := IntWalk.i64_in _ (by omega)
  go_enter Tryz.func54, Tryz.ntmps54
  go_wp2
  go_region_with (first
    | (go_at_call 66; (try rw [hwr]); refine (from_any _ _ _ _ _ _ _ _ _ _ _ (by omega) (by omega) _).mono ?_; rintro e' w' ⟨rfl, hb⟩; obtain ⟨hc, hf, hs⟩ := bcell hb; (try have hz0 : w.heap.size < w'.heap.size := (by have h9 := hb.size; (try simp at h9); omega))))
  all_goals go_wp2
  all_goals
    go_ret
    refine ⟨_, rfl, own_lit1 (by have := hb.size; simp at this; omega) _ _, (belB)⟩

theorem session_any (s t k z p l e : Int) (b : Bool) (v r : Int) (T : Int) (hT : 0 ≤ T ∧ T ≤ 60) (hz : 1 ≤ z ∧ z ≤ 20) (w : World) : Calls Tryz.prog 56 #[.agg #[.int .i64 s, .int .i64 t, .int .i64 k, .int .i64 z, .int .i64 p, .int .i64 l, .int .i64 e, .bool b, .int .i64 v, .int .i64 r], .int .i64 T] w fun e' w' => ∃ v', e' = .returned v' ∧ OwnWn w' w.heap.size v' ([⟨T, T + z⟩]) ∧ Below w.heap.size w w' := by
  have hmod : 0 ≤ T % z ∧ T % z ≤ T := ⟨Int.emod_nonneg _ (by omega), by have := Int.emod_add_mul_ediv T z; have := Int.ediv_nonneg (a := T) (b := z) (by omega) (by omega); have := Int.mul_nonneg (a := z) (b := T / z) (by omega) (by omega); omega⟩
  have hwr : IntKind.i64.wrap (T - T % z) = T - T % z := IntWalk.i64_in _ (by omega)
  go_enter Tryz.func56, Tryz.ntmps56
  go_wp2_with (first
    | (go_at_call 66; (try rw [hwr]); refine (from_any _ _ _ _ _ _ _ _ _ _ _ (by omega) (by omega) _).mono ?_; rintro e' w' ⟨rfl, hb⟩; obtain ⟨hc, hf, hs⟩ := bcell hb; (try have hz0 : w.heap.size < w'.heap.size := (by have h9 := hb.size; (try simp at h9); omega))))
  all_goals
    go_ret
    refine ⟨_, rfl, own_lit1 (by have := hb.size; simp at this; omega) _ _, (belB)⟩
end Go.Proofs.YtikidpcgnmffcaaGreat
