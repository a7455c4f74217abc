/- Laid together: what the claim needs of the texts that were built one by one. -/
import Derived.Test.YtflignpbboiahaaGreatRows
import Derived.Test.YtflignpbboiahaaGreatQ0
import Derived.Deep.RegionHeld3
import Derived.Deep.DeepCutAuto
import Derived.Test.YtflignpbboiahaaGreatQ1
set_option linter.unusedVariables false
namespace Go.Proofs.YtflignpbboiahaaGreat
open Go.ChangeShapes Go.WideShapes Go.ChangeAt Go.RowKit
theorem within_any (n a b : Int) (w : World) : Calls Tryz.prog 45 #[.int .i64 n, .int .i64 a, .int .i64 b] w fun e w' => e = .returned (.bool (inB n a b)) ∧ w' = w := by
 by_cases h1 : a ≤ n
 ·by_cases h2 : n ≤ b
  ·have h3 := hide (inB_tt h1 h2)
   go_enter Tryz.func45, Tryz.ntmps45
   go_wp2
   go_ret
   exact ⟨ret_b (unhide h3).symm, rfl⟩
  ·have h3 := hide (inB_ff (n := n) (a := a) (b := b) (by omega))
   go_enter Tryz.func45, Tryz.ntmps45
   go_wp2
   go_ret
   exact ⟨ret_b (unhide h3).symm, rfl⟩
 ·have h3 := hide (inB_ff (n := n) (a := a) (b := b) (by omega))
  go_enter Tryz.func45, Tryz.ntmps45
  go_wp2
  go_ret
  exact ⟨ret_b (unhide h3).symm, rfl⟩
theorem l1In_any (n a b : Int) (w : World) : Calls Tryz.prog 36 #[.int .i64 n, .int .i64 a, .int .i64 b] w fun e w' => e = .returned (.bool (inB n a b)) ∧ w' = w := by
 by_cases h1 : a ≤ n
 ·by_cases h2 : n ≤ b
  ·have h3 := hide (inB_tt h1 h2)
   go_enter Tryz.func36, Tryz.ntmps36
   go_wp2
   go_ret
   exact ⟨ret_b (unhide h3).symm, rfl⟩
  ·have h3 := hide (inB_ff (n := n) (a := a) (b := b) (by omega))
   go_enter Tryz.func36, Tryz.ntmps36
   go_wp2
   go_ret
   exact ⟨ret_b (unhide h3).symm, rfl⟩
 ·have h3 := hide (inB_ff (n := n) (a := a) (b := b) (by omega))
  go_enter Tryz.func36, Tryz.ntmps36
  go_wp2
  go_ret
  exact ⟨ret_b (unhide h3).symm, rfl⟩
theorem toWin_any (a b : Int) (w : World) : Calls Tryz.prog 68 #[.agg #[.int .i64 a, .int .i64 b]] w fun e w' => e = .returned (.agg #[.int .i64 a, .int .i64 b]) ∧ Below w.heap.size w w' := by
 go_enter Tryz.func68, Tryz.ntmps68
 go_wp2
 exact bodyPost_ret (v := .agg #[.int .i64 a, .int .i64 b]) (by simp [results, Tryz.results68, go_sem]) rfl ⟨rfl, bel_alloc (bel_alloc (bel_one _ _) _) _⟩
/-- When a window is ok. -/
def okWin (a b : Int) : Bool := inB a 0 60 && inB b (a + 1) 120
theorem winok_any (a b : Int) (w : World) : Calls Tryz.prog 89 #[.agg #[.int .i64 a, .int .i64 b]] w fun e w' => e = .returned (.bool (okWin a b)) ∧ Below w.heap.size w w' := by
 by_cases h1 : 0 ≤ a ∧ a ≤ 60
 ·obtain ⟨h1, h2⟩ := h1
  have h3 := inB_tt h1 h2
  have h4 : Hid (okWin a b = inB b (a + 1) 120) := hide (by simp [okWin, h3])
  go_enter Tryz.func89, Tryz.ntmps89
  go_wp2_with (go_at_call 45; refine (within_any _ _ _ _).mono ?_; rintro e w' ⟨rfl, rfl⟩)
  go_ret
  exact ⟨ret_b (unhide h4).symm, bel_one _ _⟩
 ·have h3 := inB_ff (n := a) (a := 0) (b := 60) (by omega)
  have h4 : Hid (okWin a b = false) := hide (by simp [okWin, h3])
  go_enter Tryz.func89, Tryz.ntmps89
  go_wp2_with (go_at_call 45; refine (within_any _ _ _ _).mono ?_; rintro e w' ⟨rfl, rfl⟩)
  go_ret
  exact ⟨ret_b (unhide h4).symm, bel_one _ _⟩
theorem specwinok_any (a b : Int) (w : World) : Calls Tryz.prog 60 #[.agg #[.int .i64 a, .int .i64 b]] w fun e w' => e = .returned (.bool (okWin a b)) ∧ Below w.heap.size w w' := by
 by_cases h1 : 0 ≤ a ∧ a ≤ 60
 ·obtain ⟨h1, h2⟩ := h1
  have h3 := inB_tt h1 h2
  have h4 : Hid (okWin a b = inB b (a + 1) 120) := hide (by simp [okWin, h3])
  go_enter Tryz.func60, Tryz.ntmps60
  go_wp2_with (go_at_call 36; refine (l1In_any _ _ _ _).mono ?_; rintro e w' ⟨rfl, rfl⟩)
  go_ret
  exact ⟨ret_b (unhide h4).symm, bel_one _ _⟩
 ·have h3 := inB_ff (n := a) (a := 0) (b := 60) (by omega)
  have h4 : Hid (okWin a b = false) := hide (by simp [okWin, h3])
  go_enter Tryz.func60, Tryz.ntmps60
  go_wp2_with (go_at_call 36; refine (l1In_any _ _ _ _).mono ?_; rintro e w' ⟨rfl, rfl⟩)
  go_ret
  exact ⟨ret_b (unhide h4).symm, bel_one _ _⟩
theorem toAgg_any (n s l m : Int) (w : World) : Calls Tryz.prog 69 #[.agg #[.int .i64 n, .int .i64 s, .int .i64 l, .int .i64 m]] w fun e w' => e = .returned (.agg #[.int .i64 n, .int .i64 s, .int .i64 l, .int .i64 m]) ∧ Below w.heap.size w w' := by
 go_enter Tryz.func69, Tryz.ntmps69
 go_wp2
 refine bodyPost_ret (v := .agg #[.int .i64 n, .int .i64 s, .int .i64 l, .int .i64 m]) (by simp [results, Tryz.results69, go_sem]) rfl ⟨rfl, ?_⟩
 exact (belC)
/-- When what is known is ok. -/
def okAgg (n s l m : Int) : Bool := if n = 0 then (s == 0) && (l == 0) && (m == 0) else inB n 1 1000 && inB l (-9) 9 && inB m l 9 && inB s (n * l) (n * m)
theorem okAgg_0 (s l m : Int) : okAgg 0 s l m = ((s == 0) && (l == 0) && (m == 0)) := rfl
theorem okAgg_n {n : Int} (h : n ≠ 0) (s l m : Int) : okAgg n s l m = (inB n 1 1000 && inB l (-9) 9 && inB m l 9 && inB s (n * l) (n * m)) := if_neg h
theorem mul_in {n l : Int} (h1 : inB n 1 1000 = true) (h2 : inB l (-9) 9 = true) : -9000 ≤ n * l ∧ n * l ≤ 9000 := by
 rw [inB_iff] at h1 h2
 have a := Int.mul_le_mul_of_nonneg_left h2.2 (show (0 : Int) ≤ n by omega)
 have b := Int.mul_le_mul_of_nonneg_left h2.1 (show (0 : Int) ≤ n by omega)
 omega
theorem inB_up {m l : Int} (h1 : inB l (-9) 9 = true) (h2 : inB m l 9 = true) : inB m (-9) 9 = true := by
 rw [inB_iff] at *
 omega
theorem specaggok_any (n s l m : Int) (w : World) : Calls Tryz.prog 61 #[.agg #[.int .i64 n, .int .i64 s, .int .i64 l, .int .i64 m]] w fun e w' => e = .returned (.bool (okAgg n s l m)) ∧ Below w.heap.size w w' := by
 by_cases h0 : n = 0
 ·subst h0
  rw [okAgg_0]
  cases c0 : (s == 0) <;> cases c1 : (l == 0) <;> cases c2 : (m == 0)
  all_goals
   have hq : Hid (true = true) := hide rfl
   go_enter Tryz.func61, Tryz.ntmps61
   go_wp2_with (go_at_call 36; refine (l1In_any _ _ _ _).mono ?_; rintro e w' ⟨rfl, rfl⟩)
   go_ret
   exact ⟨rfl, (belC)⟩
 rw [okAgg_n h0]
 have g0 : (n == 0) = false := by simpa using h0
 clear h0
 cases c0 : inB n 1 1000
 ·have hq : Hid ((false && inB l (-9) 9 && inB m l 9 && inB s (n * l) (n * m)) = false) := hide (by simp)
  go_enter Tryz.func61, Tryz.ntmps61
  go_wp2_with (go_at_call 36; refine (l1In_any _ _ _ _).mono ?_; rintro e w' ⟨rfl, rfl⟩)
  go_ret
  exact ⟨ret_b (unhide hq).symm, (belC)⟩
 cases c1 : inB l (-9) 9
 ·have hq : Hid ((true && false && inB m l 9 && inB s (n * l) (n * m)) = false) := hide (by simp)
  go_enter Tryz.func61, Tryz.ntmps61
  go_wp2_with (go_at_call 36; refine (l1In_any _ _ _ _).mono ?_; rintro e w' ⟨rfl, rfl⟩)
  go_ret
  exact ⟨ret_b (unhide hq).symm, (belC)⟩
 cases c2 : inB m l 9
 ·have hq : Hid ((true && true && false && inB s (n * l) (n * m)) = false) := hide (by simp)
  go_enter Tryz.func61, Tryz.ntmps61
  go_wp2_with (go_at_call 36; refine (l1In_any _ _ _ _).mono ?_; rintro e w' ⟨rfl, rfl⟩)
  go_ret
  exact ⟨ret_b (unhide hq).symm, (belC)⟩
 have m1 := mul_in c0 c1
 have m2 := mul_in c0 (inB_up c1 c2)
 have hq : Hid ((true && true && true && inB s (n * l) (n * m)) = inB s (n * l) (n * m)) := hide (by simp)
 go_enter Tryz.func61, Tryz.ntmps61
 go_wp2_with (go_at_call 36; refine (l1In_any _ _ _ _).mono ?_; rintro e w' ⟨rfl, rfl⟩)
 go_ret
 exact ⟨ret_b (unhide hq).symm, (belC)⟩
theorem aggok_any (n s l m : Int) (w : World) : Calls Tryz.prog 72 #[.agg #[.int .i64 n, .int .i64 s, .int .i64 l, .int .i64 m]] w fun e w' => e = .returned (.bool (okAgg n s l m)) ∧ Below w.heap.size w w' := by
 by_cases h0 : n = 0
 ·subst h0
  rw [okAgg_0]
  cases c0 : (s == 0) <;> cases c1 : (l == 0) <;> cases c2 : (m == 0)
  all_goals
   have hq : Hid (true = true) := hide rfl
   go_enter Tryz.func72, Tryz.ntmps72
   go_wp2_with (go_at_call 45; refine (within_any _ _ _ _).mono ?_; rintro e w' ⟨rfl, rfl⟩)
   go_ret
   exact ⟨rfl, (belC)⟩
 rw [okAgg_n h0]
 have g0 : (n == 0) = false := by simpa using h0
 clear h0
 cases c0 : inB n 1 1000
 ·have hq : Hid ((false && inB l (-9) 9 && inB m l 9 && inB s (n * l) (n * m)) = false) := hide (by simp)
  go_enter Tryz.func72, Tryz.ntmps72
  go_wp2_with (go_at_call 45; refine (within_any _ _ _ _).mono ?_; rintro e w' ⟨rfl, rfl⟩)
  go_ret
  exact ⟨ret_b (unhide hq).symm, (belC)⟩
 cases c1 : inB l (-9) 9
 ·have hq : Hid ((true && false && inB m l 9 && inB s (n * l) (n * m)) = false) := hide (by simp)
  go_enter Tryz.func72, Tryz.ntmps72
  go_wp2_with (go_at_call 45; refine (within_any _ _ _ _).mono ?_; rintro e w' ⟨rfl, rfl⟩)
  go_ret
  exact ⟨ret_b (unhide hq).symm, (belC)⟩
 cases c2 : inB m l 9
 ·have hq : Hid ((true && true && false && inB s (n * l) (n * m)) = false) := hide (by simp)
  go_enter Tryz.func72, Tryz.ntmps72
  go_wp2_with (go_at_call 45; refine (within_any _ _ _ _).mono ?_; rintro e w' ⟨rfl, rfl⟩)
  go_ret
  exact ⟨ret_b (unhide hq).symm, (belC)⟩
 have m1 := mul_in c0 c1
 have m2 := mul_in c0 (inB_up c1 c2)
 have hq : Hid ((true && true && true && inB s (n * l) (n * m)) = inB s (n * l) (n * m)) := hide (by simp)
 go_enter Tryz.func72, Tryz.ntmps72
 go_wp2_with (go_at_call 45; refine (within_any _ _ _ _).mono ?_; rintro e w' ⟨rfl, rfl⟩)
 go_ret
 exact ⟨ret_b (unhide hq).symm, (belC)⟩
end Go.Proofs.YtflignpbboiahaaGreat
namespace Go.Proofs.YtflignpbboiahaaGreat
open Go.ChangeShapes Go.WideShapes Go.ChangeAt Go.RowKit Go.Deep
/-- Each number is an int. -/
def OrR.ok64 (x : OrR) : Prop := (-9223372036854775808 ≤ x.ky ∧ x.ky ≤ 9223372036854775807) ∧ (-9223372036854775808 ≤ x.st ∧ x.st ≤ 9223372036854775807) ∧ (-9223372036854775808 ≤ x.en ∧ x.en ≤ 9223372036854775807) ∧ (-9223372036854775808 ≤ x.an ∧ x.an ≤ 9223372036854775807) ∧ (-9223372036854775808 ≤ x.asu ∧ x.asu ≤ 9223372036854775807) ∧ (-9223372036854775808 ≤ x.ale ∧ x.ale ≤ 9223372036854775807) ∧ (-9223372036854775808 ≤ x.amo ∧ x.amo ≤ 9223372036854775807) ∧ (-9223372036854775808 ≤ x.fn ∧ x.fn ≤ 9223372036854775807) ∧ (-9223372036854775808 ≤ x.fsu ∧ x.fsu ≤ 9223372036854775807) ∧ (-9223372036854775808 ≤ x.fle ∧ x.fle ≤ 9223372036854775807) ∧ (-9223372036854775808 ≤ x.fmo ∧ x.fmo ≤ 9223372036854775807) ∧ (-9223372036854775808 ≤ x.td ∧ x.td ≤ 9223372036854775807)
section
variable {H : Type} {enc : TypeId × Value → H} {P : Program} {w : World} {base : Nat} {spare : Nat → Bool} {held : Bool}
theorem cellsOr {a : Addr} {cs : List Value} (h : w.cells? base a 13 = some cs) (f0 : Fits cs [false, false, false, false, false, false, false, false, false, false, false, false, true]) : a.spot = none ∧ ∃ x : OrR, OrRAt w a.block a.off x ∧ x.ok64 := by
 obtain ⟨z0, r0, rfl, y0, f1⟩ := fits_int f0
 clear f0
 obtain ⟨z1, r1, rfl, y1, f2⟩ := fits_int f1
 clear f1
 obtain ⟨z2, r2, rfl, y2, f3⟩ := fits_int f2
 clear f2
 obtain ⟨z3, r3, rfl, y3, f4⟩ := fits_int f3
 clear f3
 obtain ⟨z4, r4, rfl, y4, f5⟩ := fits_int f4
 clear f4
 obtain ⟨z5, r5, rfl, y5, f6⟩ := fits_int f5
 clear f5
 obtain ⟨z6, r6, rfl, y6, f7⟩ := fits_int f6
 clear f6
 obtain ⟨z7, r7, rfl, y7, f8⟩ := fits_int f7
 clear f7
 obtain ⟨z8, r8, rfl, y8, f9⟩ := fits_int f8
 clear f8
 obtain ⟨z9, r9, rfl, y9, f10⟩ := fits_int f9
 clear f9
 obtain ⟨z10, r10, rfl, y10, f11⟩ := fits_int f10
 clear f10
 obtain ⟨z11, r11, rfl, y11, f12⟩ := fits_int f11
 clear f11
 obtain ⟨z12, r12, rfl, f13⟩ := fits_bool f12
 clear f12
 obtain rfl := fits_nil f13
 obtain ⟨_, hlen, hc⟩ := World.cells?_some h
 have c0 := hc 0 (by omega)
 have c1 := hc 1 (by omega)
 have c2 := hc 2 (by omega)
 have c3 := hc 3 (by omega)
 have c4 := hc 4 (by omega)
 have c5 := hc 5 (by omega)
 have c6 := hc 6 (by omega)
 have c7 := hc 7 (by omega)
 have c8 := hc 8 (by omega)
 have c9 := hc 9 (by omega)
 have c10 := hc 10 (by omega)
 have c11 := hc 11 (by omega)
 have c12 := hc 12 (by omega)
 obtain ⟨g, o, sp⟩ := a
 have ha0 : (⟨g, o, sp⟩ : Addr).add 0 = ⟨g, o, sp⟩ := by simp [Addr.add]
 have hsp : sp = none := World.cell?_spot (w := w) (a := ⟨g, o, sp⟩) (v := .int .i64 z0) (by rw [← ha0]; simpa using c0)
 subst hsp
 exact ⟨rfl, ⟨z0, z1, z2, z3, z4, z5, z6, z7, z8, z9, z10, z11, z12⟩, ⟨by simpa [Addr.add] using c0, by simpa [Addr.add] using c1, by simpa [Addr.add] using c2, by simpa [Addr.add] using c3, by simpa [Addr.add] using c4, by simpa [Addr.add] using c5, by simpa [Addr.add] using c6, by simpa [Addr.add] using c7, by simpa [Addr.add] using c8, by simpa [Addr.add] using c9, by simpa [Addr.add] using c10, by simpa [Addr.add] using c11, by simpa [Addr.add] using c12⟩, bnd64 y0, bnd64 y1, bnd64 y2, bnd64 y3, bnd64 y4, bnd64 y5, bnd64 y6, bnd64 y7, bnd64 y8, bnd64 y9, bnd64 y10, bnd64 y11⟩
theorem openOr {t e : TypeId} {a : Option Addr} {len cap : Nat} {d : DataW H} {p : List MemPlace} (ht : P.underlying t = some (.slice e)) (hk : flatK P 5 e = some [false, false, false, false, false, false, false, false, false, false, false, false, true]) (hC : P.cellsOf e = 13)
  (h : DataW.Trod enc P w base spare held t (.slice a len cap) d p) : ∃ xs : List OrR, OrRs w a len xs ∧ ∀ x ∈ xs, x.ok64 := by
 obtain ⟨fuel, hf⟩ := h
 rcases open_slice ht hf with ⟨hcs, _⟩ | ⟨a', len', cap', m, n, D, Pl, hcs, _, hl, hm, hmm, _, hx⟩
 ·simp [Value.cells] at hcs
  obtain ⟨rfl, rfl, rfl⟩ := hcs
  exact ⟨[], ⟨rfl, Nat.zero_le _, Or.inl rfl⟩, by simp⟩
 ·simp [Value.cells] at hcs
  obtain ⟨rfl, rfl, rfl⟩ := hcs
  have hlm : len ≤ m := by rw [hmm]; split <;> omega
  have hall : ∀ i, i < len → ∃ x : OrR, (i = 0 → a'.spot = none) ∧ OrRAt w a'.block (a'.off + i * 13) x ∧ x.ok64 := by
   intro i hi
   obtain ⟨cs', h1, h2⟩ := hx i (by omega)
   rw [hC] at h1
   obtain ⟨hsp, x, hxa, hxo⟩ := cellsOr h1 (fits_trod 5 hk h2)
   have hb : (a'.add (i * 13)).block = a'.block ∧ (a'.add (i * 13)).off = a'.off + i * 13 := by
    unfold Addr.add
    split
    ·exact ⟨rfl, by omega⟩
    ·exact ⟨rfl, rfl⟩
   rw [hb.1, hb.2] at hxa
   refine ⟨x, fun h0 => ?_, hxa, hxo⟩
   subst h0
   simpa [Addr.add] using hsp
  by_cases h0 : len = 0
  ·subst h0
   exact ⟨[], ⟨rfl, Nat.zero_le _, Or.inl rfl⟩, by simp⟩
  have hinh : Inhabited OrR := ⟨⟨0, 0, 0, 0, 0, 0, 0, 0, 0, 0, 0, 0, false⟩⟩
  obtain ⟨f, hf'⟩ := choose_lt hall
  have hsp := (hf' 0 (by omega)).1 rfl
  refine ⟨(List.range len).map f, ⟨by simp, by omega, Or.inr ⟨a'.block, a'.off, by cases a'; simp_all, ?_⟩⟩, ?_⟩
  ·intro i x hix
   simp only [List.getElem?_map, Option.map_eq_some_iff] at hix
   obtain ⟨j, hj, rfl⟩ := hix
   have hil : i < len := by
    rcases Nat.lt_or_ge i len with h' | h'
    ·exact h'
    ·rw [List.getElem?_eq_none (by simpa using h')] at hj; cases hj
   rw [List.getElem?_eq_getElem (by simpa using hil)] at hj
   simp at hj
   subst hj
   exact (hf' i hil).2.1
  ·intro x hxm
   simp only [List.mem_map, List.mem_range] at hxm
   obtain ⟨i, hi, rfl⟩ := hxm
   exact (hf' i hi).2.2
end
theorem szOr_small (a : Option Addr) (len cap : Nat) (w : World) (h : len ≤ maxLen) (h1 : (len : Int) ≤ 1048576) : Calls Tryz.prog 19 #[.slice a len cap, .int .i64 1048576] w fun e w' => e = .returned (.int .i64 (1048576 - (len : Int))) ∧ w' = w := by
 unfold maxLen at h
 go_enter Tryz.func19, Tryz.ntmps19
 go_wp2
 go_ret
 exact ⟨rfl, rfl⟩
theorem szOr_big (a : Option Addr) (len cap : Nat) (w : World) (h : len ≤ maxLen) (h1 : ¬ (len : Int) ≤ 1048576) : Calls Tryz.prog 19 #[.slice a len cap, .int .i64 1048576] w fun e w' => e = .returned (.int .i64 (-1)) ∧ w' = w := by
 unfold maxLen at h
 go_enter Tryz.func19, Tryz.ntmps19
 go_wp2
 go_ret
 exact ⟨rfl, rfl⟩
theorem Tryz.infoOr : (Tryz.prog.info? 76).map (fun i => (i.zero, i.size, i.bytes)) = some (some (.agg #[.int .i64 0, .int .i64 0, .int .i64 0, .int .i64 0, .int .i64 0, .int .i64 0, .int .i64 0, .int .i64 0, .int .i64 0, .int .i64 0, .int .i64 0, .int .i64 0, .bool false]), 13, 104) := by kernel_rfl
theorem mkOr (len : Nat) (hl : len ≤ 1048576) : ∃ C : Array Value, C.size = len * 13 ∧ ∀ w : World, (Instr.makeSlice 30 (.int .i64 (len : Int)) (.int .i64 (len : Int))).run Tryz.prog w = .ok (.slice (some ⟨w.heap.size, 0, none⟩) len len) (w.alloc (.cells C 76)) := by
 obtain ⟨i0, hi, hz0, hz1, hz2⟩ := info_parts Tryz.infoOr
 refine ⟨madeCells (Value.agg #[.int .i64 0, .int .i64 0, .int .i64 0, .int .i64 0, .int .i64 0, .int .i64 0, .int .i64 0, .int .i64 0, .int .i64 0, .int .i64 0, .int .i64 0, .int .i64 0, .bool false]).cells (len * i0.size), by rw [size_madeCells, hz1], fun w => ?_⟩
 have h := run_make (P := Tryz.prog) w 30 76 i0 _ Tryz.underlying30 hi hz0 .i64 .i64 len len (by omega) (Int.le_refl _) (by rw [hz2]; omega) (by omega)
 simpa using h
/-- The slice that is being filled. -/
def FillOr (W : World) (g ty len : Nat) (ys : List OrR) : Prop := BlkOr W g ty len ∧ ∀ i x, ys[i]? = some x → OrRAt W g (i * 13) x
theorem FillOr.step {wr w' : World} {g ty len k : Nat} {xs : List OrR} {x : OrR} (h : FillOr wr g ty len (xs.take k)) (hb : Below wr.heap.size wr w') (hk : k < len) (hx : xs[k]? = some x) : FillOr (setOr w' g (k * 13) x) g ty len (xs.take (k + 1)) := by
 have hB := h.1.below hb h.1.lt
 refine ⟨hB.sets x, fun i y hy => ?_⟩
 have hik : i < k + 1 := by
  rcases Nat.lt_or_ge i (k + 1) with h' | h'
  ·exact h'
  ·rw [List.getElem?_eq_none (by simp; omega)] at hy; cases hy
 rw [List.getElem?_take_of_lt hik] at hy
 by_cases he : i = k
 ·subst he
  rw [hx] at hy
  cases hy
  exact setOr_this hB hk x
 ·refine setOr_ne ?_ he
  exact (h.2 i y (by rw [List.getElem?_take_of_lt (by omega)]; exact hy)).below hb h.1.lt
theorem FillOr.start {w : World} {ty len : Nat} {C : Array Value} (hC : C.size = len * 13) (xs : List OrR) : FillOr (w.alloc (.cells C ty)) w.heap.size ty len (xs.take 0) :=
 ⟨⟨C, by show (w.heap.push _)[w.heap.size]? = _; simp, hC⟩, fun i x h => by simp at h⟩
theorem FillOr.done {W : World} {g ty len k : Nat} {xs : List OrR} (h : FillOr W g ty len (xs.take k)) (hk : xs.length ≤ k) : OrRsAt W g 0 xs := by
 intro i x hx
 rw [List.take_of_length_le hk] at h
 simpa using h.2 i x hx
theorem below_setOr {B g o : Nat} {W W' : World} {x : OrR} (h : Below B W W') (hg : B ≤ g) : Below B W (setOr W' g o x) := (((((((((((((h.setCell hg _).setCell hg _).setCell hg _).setCell hg _).setCell hg _).setCell hg _).setCell hg _).setCell hg _).setCell hg _).setCell hg _).setCell hg _).setCell hg _).setCell hg _)
set_option maxRecDepth 20000 in
set_option maxHeartbeats 1000000 in
theorem toOr_one (ky : Int) (st : Int) (en : Int) (an : Int) (asu : Int) (ale : Int) (amo : Int) (fn : Int) (fsu : Int) (fle : Int) (fmo : Int) (td : Int) (tm : Bool) (w : World) : Calls Tryz.prog 43 #[.agg #[.int .i64 ky, .int .i64 st, .int .i64 en, .int .i64 an, .int .i64 asu, .int .i64 ale, .int .i64 amo, .int .i64 fn, .int .i64 fsu, .int .i64 fle, .int .i64 fmo, .int .i64 td, .bool tm]] w fun e w' => e = .returned (.agg #[.int .i64 ky, .int .i64 st, .int .i64 en, .int .i64 an, .int .i64 asu, .int .i64 ale, .int .i64 amo, .int .i64 fn, .int .i64 fsu, .int .i64 fle, .int .i64 fmo, .int .i64 td, .bool tm]) ∧ Below w.heap.size w w' := by
 go_enter Tryz.func43, Tryz.ntmps43
 go_wp2_with (first
  | (go_at_call 68; refine (toWin_any _ _ _).mono ?_; rintro e w' ⟨rfl, hb⟩; obtain ⟨hc, hf, hs⟩ := bcell hb; (try have hz0 := zA hb w.heap.size); (try have hz1 := zA hb (w.heap.size + 1)); (try have hz2 := zA hb (w.heap.size + 1 + 1)))
  | (go_at_call 69; refine (toAgg_any _ _ _ _ _).mono ?_; rintro e w' ⟨rfl, hb⟩; obtain ⟨hc, hf, hs⟩ := bcell hb; (try have hz0 := zA hb w.heap.size); (try have hz1 := zA hb (w.heap.size + 1)); (try have hz2 := zA hb (w.heap.size + 1 + 1))))
 refine bodyPost_ret (v := .agg #[.int .i64 ky, .int .i64 st, .int .i64 en, .int .i64 an, .int .i64 asu, .int .i64 ale, .int .i64 amo, .int .i64 fn, .int .i64 fsu, .int .i64 fle, .int .i64 fmo, .int .i64 td, .bool tm]) (by simp (maxDischargeDepth := 9) [results, Tryz.results43, go_sem, *]) rfl ⟨rfl, ?_⟩
 exact (belB)
set_option maxRecDepth 20000 in
set_option maxHeartbeats 1000000 in
theorem toOr_at (a : Option Addr) (len cap : Nat) (xs : List OrR) (w : World) (h : OrRs w a len xs) (hl : len ≤ 1048576) : Calls Tryz.prog 24 #[.slice a len cap] w fun e w' => e = .returned (.slice (some ⟨w.heap.size, 0, none⟩) len len) ∧ OrRsAt w' w.heap.size 0 xs ∧ BlkOr w' w.heap.size 76 len ∧ Below w.heap.size w w' := by
 obtain ⟨C, hC, hmk⟩ := mkOr len hl
 go_enter Tryz.func24, Tryz.ntmps24
 go_wp2
 go_loopw [4] (fun i wr => ∃ k : Nat, k ≤ len ∧ i = .int .i64 k ∧ FillOr wr w.heap.size 76 len (xs.take k) ∧ Below w.heap.size w wr) (fun i _ => len - (intOf i).toNat)
 case atStart => exact ⟨0, Nat.zero_le _, rfl, FillOr.start hC xs, bel_one _ _⟩
 case round =>
  obtain ⟨k, hk, rfl, hF, hbw⟩ := hrel
  by_cases hlt : k < len
  ·obtain ⟨hxl, hml, hx⟩ := h
   obtain ⟨g, o, rfl, hr⟩ := hx.resolve_left (by omega)
   obtain ⟨x, hxk⟩ : ∃ x, xs[k]? = some x := ⟨_, List.getElem?_eq_getElem (by omega)⟩
   have hg : g < w.heap.size := hr.lt (by omega)
   have hX := hide hxk
   obtain ⟨c0, c1, c2, c3, c4, c5, c6, c7, c8, c9, c10, c11, c12⟩ := (hr k _ hxk).below hbw hg
   obtain ⟨⟨u0, d0⟩, ⟨u1, d1⟩, ⟨u2, d2⟩, ⟨u3, d3⟩, ⟨u4, d4⟩, ⟨u5, d5⟩, ⟨u6, d6⟩, ⟨u7, d7⟩, ⟨u8, d8⟩, ⟨u9, d9⟩, ⟨u10, d10⟩, ⟨u11, d11⟩, ⟨u12, d12⟩⟩ := hF.1.cells hlt
   have f0 := hF.1.frozen (i := k * 13)
   have f1 := hF.1.frozen (i := k * 13 + 1)
   have f2 := hF.1.frozen (i := k * 13 + 2)
   have f3 := hF.1.frozen (i := k * 13 + 3)
   have f4 := hF.1.frozen (i := k * 13 + 4)
   have f5 := hF.1.frozen (i := k * 13 + 5)
   have f6 := hF.1.frozen (i := k * 13 + 6)
   have f7 := hF.1.frozen (i := k * 13 + 7)
   have f8 := hF.1.frozen (i := k * 13 + 8)
   have f9 := hF.1.frozen (i := k * 13 + 9)
   have f10 := hF.1.frozen (i := k * 13 + 10)
   have f11 := hF.1.frozen (i := k * 13 + 11)
   have f12 := hF.1.frozen (i := k * 13 + 12)
   have hz := hF.1.lt
   clear hx hxk
   go_wp2_with (go_at_call 43; refine (toOr_one _ _ _ _ _ _ _ _ _ _ _ _ _ _).mono ?_; rintro e w' ⟨rfl, hb⟩; obtain ⟨hc, hf, hs⟩ := bcell hb)
   go_roundw
   case rel => exact ⟨k + 1, by omega, by go_num, hF.step hb hlt (unhide hX), below_setOr (bel_trans hbw hb) (Nat.le_refl _)⟩
   case measure => simp [intOf]; omega
  ·go_wp2
   go_ret
   exact ⟨rfl, hF.done (by have := h.1; omega), hF.1, hbw⟩
theorem OrRs_of {W : World} {g len : Nat} {xs : List OrR} (h1 : xs.length = len) (h2 : len ≤ maxLen) (h : OrRsAt W g 0 xs) : OrRs W (some ⟨g, 0, none⟩) len xs := ⟨h1, h2, Or.inr ⟨g, 0, rfl, h⟩⟩
theorem toOr_any (a : Option Addr) (len cap : Nat) (xs : List OrR) (w : World) (h : OrRs w a len xs) (hl : len ≤ 1048576) : Calls Tryz.prog 24 #[.slice a len cap] w fun e w' => ∃ a', e = .returned (.slice a' len len) ∧ OrRs w' a' len xs ∧ WrOr w' a' len len ∧ (∀ g o, 0 < len → a' = some ⟨g, o, none⟩ → w.heap.size ≤ g) ∧ Below w.heap.size w w' :=
 (toOr_at a len cap xs w h hl).mono fun e w' ⟨h1, h2, h3, h4⟩ => ⟨_, h1, OrRs_of h.1 h.2.1 h2, Or.inr ⟨_, rfl, h3, Nat.le_refl _⟩, fun g o _ e' => by simp at e'; omega, h4⟩
end Go.Proofs.YtflignpbboiahaaGreat
namespace Go.Proofs.YtflignpbboiahaaGreat
open Go.ChangeShapes Go.WideShapes Go.ChangeAt Go.RowKit
theorem opplace_any (ky st en an asu ale amo fn fsu fle fmo td : Int) (tm : Bool) (w : World) : Calls Tryz.prog 51 #[.agg #[.int .i64 ky, .int .i64 st, .int .i64 en, .int .i64 an, .int .i64 asu, .int .i64 ale, .int .i64 amo, .int .i64 fn, .int .i64 fsu, .int .i64 fle, .int .i64 fmo, .int .i64 td, .bool tm]] w fun e' w' => e' = .returned (.agg #[.int .i64 ky, .int .i64 st, .int .i64 en]) ∧ Below w.heap.size w w' := by
 go_enter Tryz.func51, Tryz.ntmps51
 go_wp2
 refine bodyPost_ret (v := .agg #[.int .i64 ky, .int .i64 st, .int .i64 en]) (by simp [results, Tryz.results51, go_sem]) rfl ⟨rfl, ?_⟩
 exact (belB)
/-- When a window of a key is ok; when a pane is. -/
def okPlace (ky st en : Int) : Bool := inB ky 0 3 && okWin st en
theorem placeok_any (ky st en : Int) (w : World) : Calls Tryz.prog 71 #[.agg #[.int .i64 ky, .int .i64 st, .int .i64 en]] w fun e' w' => e' = .returned (.bool (okPlace ky st en)) ∧ Below w.heap.size w w' := by
 cases c0 : inB ky 0 3
 ·have hq : Hid (okPlace ky st en = false) := hide (by simp [okPlace, c0])
  go_enter Tryz.func71, Tryz.ntmps71
  go_wp2_with (first
   | (go_at_call 45; refine (within_any _ _ _ _).mono ?_; rintro e' w' ⟨rfl, rfl⟩)
   | (go_at_call 89; refine (winok_any _ _ _).mono ?_; rintro e w' ⟨rfl, hb⟩; obtain ⟨hc, hf, hs⟩ := bcell hb; (try have hz0 := zA hb w.heap.size)))
  go_ret
  exact ⟨ret_b (unhide hq).symm, (belB)⟩
 ·have hq : Hid (okPlace ky st en = okWin st en) := hide (by simp [okPlace, c0])
  go_enter Tryz.func71, Tryz.ntmps71
  go_wp2_with (first
   | (go_at_call 45; refine (within_any _ _ _ _).mono ?_; rintro e' w' ⟨rfl, rfl⟩)
   | (go_at_call 89; refine (winok_any _ _ _).mono ?_; rintro e w' ⟨rfl, hb⟩; obtain ⟨hc, hf, hs⟩ := bcell hb; (try have hz0 := zA hb w.heap.size)))
  go_ret
  exact ⟨ret_b (unhide hq).symm, (belB)⟩
/-- When a job's step is ok; when a job is. -/
def stepB (k z p : Int) : Bool := if k = 2 then inB p 1 z && decide (z ≤ 4 * p) else p == 0
theorem stepB_2 (z p : Int) : stepB 2 z p = (inB p 1 z && decide (z ≤ 4 * p)) := rfl
theorem stepB_n {k : Int} (h : k ≠ 2) (z p : Int) : stepB k z p = (p == 0) := if_neg h
def okJob (s t k z p l e v r : Int) : Bool := inB s 1 3 && inB t 1 2 && inB k 1 3 && inB z 1 20 && stepB k z p && inB l 0 20 && inB e 1 4 && inB v (-9) 9 && inB r 1 4
theorem toJob_any (s t k z p l e : Int) (b : Bool) (v r : Int) (w : World) : Calls Tryz.prog 6 #[.agg #[.int .i64 s, .int .i64 t, .int .i64 k, .int .i64 z, .int .i64 p, .int .i64 l, .int .i64 e, .bool b, .int .i64 v, .int .i64 r]] w fun e' w' => e' = .returned (.agg #[.int .i64 s, .int .i64 t, .int .i64 k, .int .i64 z, .int .i64 p, .int .i64 l, .int .i64 e, .bool b, .int .i64 v, .int .i64 r]) ∧ Below w.heap.size w w' := by
 go_enter Tryz.func6, Tryz.ntmps6
 go_wp2
 refine bodyPost_ret (v := .agg #[.int .i64 s, .int .i64 t, .int .i64 k, .int .i64 z, .int .i64 p, .int .i64 l, .int .i64 e, .bool b, .int .i64 v, .int .i64 r]) (by simp [results, Tryz.results6, go_sem]) rfl ⟨rfl, ?_⟩
 exact (belC)
theorem stepok_any (s t k z p l e : Int) (b : Bool) (v r : Int) (hz : 1 ≤ z ∧ z ≤ 20) (w : World) : Calls Tryz.prog 70 #[.agg #[.int .i64 s, .int .i64 t, .int .i64 k, .int .i64 z, .int .i64 p, .int .i64 l, .int .i64 e, .bool b, .int .i64 v, .int .i64 r]] w fun e' w' => e' = .returned (.bool (stepB k z p)) ∧ Below w.heap.size w w' := by
 by_cases h2 : k = 2
 ·subst h2
  rw [stepB_2]
  cases d0 : inB p 1 z
  ·have hq : Hid ((false && decide (z ≤ 4 * p)) = false) := hide (by simp)
   go_enter Tryz.func70, Tryz.ntmps70
   go_wp2_with (first
    | (go_at_call 45; refine (within_any _ _ _ _).mono ?_; rintro e' w' ⟨rfl, rfl⟩))
   go_ret
   exact ⟨ret_b (unhide hq).symm, (belC)⟩
  have hp := inB_iff.1 d0
  have hq : Hid ((true && decide (z ≤ 4 * p)) = decide (z ≤ 4 * p)) := hide (by simp)
  go_enter Tryz.func70, Tryz.ntmps70
  go_wp2_with (first
   | (go_at_call 45; refine (within_any _ _ _ _).mono ?_; rintro e' w' ⟨rfl, rfl⟩))
  go_ret
  exact ⟨ret_b (unhide hq).symm, (belC)⟩
 rw [stepB_n h2]
 have g2 : (k == 2) = false := by simpa using h2
 clear h2
 go_enter Tryz.func70, Tryz.ntmps70
 go_wp2_with (first
  | (go_at_call 45; refine (within_any _ _ _ _).mono ?_; rintro e' w' ⟨rfl, rfl⟩))
 go_ret
 exact ⟨rfl, (belC)⟩
set_option maxHeartbeats 1000000 in
theorem specjobok_any (s t k z p l e : Int) (b : Bool) (v r : Int) (w : World) : Calls Tryz.prog 35 #[.agg #[.int .i64 s, .int .i64 t, .int .i64 k, .int .i64 z, .int .i64 p, .int .i64 l, .int .i64 e, .bool b, .int .i64 v, .int .i64 r]] w fun e' w' => e' = .returned (.bool (okJob s t k z p l e v r)) ∧ Below w.heap.size w w' := by
 cases c0 : inB s 1 3
 ·have hq : Hid (okJob s t k z p l e v r = false) := hide (by simp [okJob, c0])
  go_enter Tryz.func35, Tryz.ntmps35
  go_wp2_with (first
   | (go_at_call 36; refine (l1In_any _ _ _ _).mono ?_; rintro e' w' ⟨rfl, rfl⟩))
  go_ret
  exact ⟨ret_b (unhide hq).symm, (belC)⟩
 cases c1 : inB t 1 2
 ·have hq : Hid (okJob s t k z p l e v r = false) := hide (by simp [okJob, c0, c1])
  go_enter Tryz.func35, Tryz.ntmps35
  go_wp2_with (first
   | (go_at_call 36; refine (l1In_any _ _ _ _).mono ?_; rintro e' w' ⟨rfl, rfl⟩))
  go_ret
  exact ⟨ret_b (unhide hq).symm, (belC)⟩
 cases c2 : inB k 1 3
 ·have hq : Hid (okJob s t k z p l e v r = false) := hide (by simp [okJob, c0, c1, c2])
  go_enter Tryz.func35, Tryz.ntmps35
  go_wp2_with (first
   | (go_at_call 36; refine (l1In_any _ _ _ _).mono ?_; rintro e' w' ⟨rfl, rfl⟩))
  go_ret
  exact ⟨ret_b (unhide hq).symm, (belC)⟩
 cases c3 : inB z 1 20
 ·have hq : Hid (okJob s t k z p l e v r = false) := hide (by simp [okJob, c0, c1, c2, c3])
  go_enter Tryz.func35, Tryz.ntmps35
  go_wp2_with (first
   | (go_at_call 36; refine (l1In_any _ _ _ _).mono ?_; rintro e' w' ⟨rfl, rfl⟩))
  go_ret
  exact ⟨ret_b (unhide hq).symm, (belC)⟩
 have hz := inB_iff.1 c3
 by_cases h2 : k = 2
 ·subst h2
  have hs := stepB_2 z p
  cases d0 : inB p 1 z
  ·have hq : Hid (okJob s t 2 z p l e v r = false) := hide (by simp [okJob, hs, d0])
   clear hs
   go_enter Tryz.func35, Tryz.ntmps35
   go_wp2_with (first
    | (go_at_call 36; refine (l1In_any _ _ _ _).mono ?_; rintro e' w' ⟨rfl, rfl⟩))
   go_ret
   exact ⟨ret_b (unhide hq).symm, (belC)⟩
  have hp := inB_iff.1 d0
  by_cases d1 : z ≤ 4 * p
  ·have hs' : stepB 2 z p = true := by rw [hs, d0]; simp [d1]
   clear hs
   cases x0 : inB l 0 20
   ·have hq : Hid (okJob s t 2 z p l e v r = false) := hide (by simp [okJob, c0, c1, c2, c3, hs', x0])
    clear hs'
    go_enter Tryz.func35, Tryz.ntmps35
    go_wp2_with (first
     | (go_at_call 36; refine (l1In_any _ _ _ _).mono ?_; rintro e' w' ⟨rfl, rfl⟩))
    go_ret
    exact ⟨ret_b (unhide hq).symm, (belC)⟩
   cases x1 : inB e 1 4
   ·have hq : Hid (okJob s t 2 z p l e v r = false) := hide (by simp [okJob, c0, c1, c2, c3, hs', x0, x1])
    clear hs'
    go_enter Tryz.func35, Tryz.ntmps35
    go_wp2_with (first
     | (go_at_call 36; refine (l1In_any _ _ _ _).mono ?_; rintro e' w' ⟨rfl, rfl⟩))
    go_ret
    exact ⟨ret_b (unhide hq).symm, (belC)⟩
   cases x2 : inB v (-9) 9
   ·have hq : Hid (okJob s t 2 z p l e v r = false) := hide (by simp [okJob, c0, c1, c2, c3, hs', x0, x1, x2])
    clear hs'
    go_enter Tryz.func35, Tryz.ntmps35
    go_wp2_with (first
     | (go_at_call 36; refine (l1In_any _ _ _ _).mono ?_; rintro e' w' ⟨rfl, rfl⟩))
    go_ret
    exact ⟨ret_b (unhide hq).symm, (belC)⟩
   have hq : Hid (okJob s t 2 z p l e v r = inB r 1 4) := hide (by simp [okJob, c0, c1, c2, c3, hs', x0, x1, x2])
   clear hs'
   go_enter Tryz.func35, Tryz.ntmps35
   go_wp2_with (first
    | (go_at_call 36; refine (l1In_any _ _ _ _).mono ?_; rintro e' w' ⟨rfl, rfl⟩))
   go_ret
   exact ⟨ret_b (unhide hq).symm, (belC)⟩
  ·have hs' : stepB 2 z p = false := by rw [hs, d0]; simp [d1]
   have hq : Hid (okJob s t 2 z p l e v r = false) := hide (by simp [okJob, hs'])
   clear hs hs'
   go_enter Tryz.func35, Tryz.ntmps35
   go_wp2_with (first
    | (go_at_call 36; refine (l1In_any _ _ _ _).mono ?_; rintro e' w' ⟨rfl, rfl⟩))
   go_ret
   exact ⟨ret_b (unhide hq).symm, (belC)⟩
 have hs := stepB_n h2 z p
 have g2 : (k == 2) = false := by simpa using h2
 have g3 : (k != 2) = true := by simpa using h2
 clear h2
 cases d0 : (p == 0)
 ·have g4 : (p != 0) = true := by simpa using d0
  have hq : Hid (okJob s t k z p l e v r = false) := hide (by simp [okJob, hs, d0])
  clear hs
  go_enter Tryz.func35, Tryz.ntmps35
  go_wp2_with (first
   | (go_at_call 36; refine (l1In_any _ _ _ _).mono ?_; rintro e' w' ⟨rfl, rfl⟩))
  go_ret
  exact ⟨ret_b (unhide hq).symm, (belC)⟩
 have g4 : (p != 0) = false := by simpa using d0
 cases x0 : inB l 0 20
 ·have hq : Hid (okJob s t k z p l e v r = false) := hide (by simp [okJob, c0, c1, c2, c3, hs, d0, x0])
  clear hs
  go_enter Tryz.func35, Tryz.ntmps35
  go_wp2_with (first
   | (go_at_call 36; refine (l1In_any _ _ _ _).mono ?_; rintro e' w' ⟨rfl, rfl⟩))
  go_ret
  exact ⟨ret_b (unhide hq).symm, (belC)⟩
 cases x1 : inB e 1 4
 ·have hq : Hid (okJob s t k z p l e v r = false) := hide (by simp [okJob, c0, c1, c2, c3, hs, d0, x0, x1])
  clear hs
  go_enter Tryz.func35, Tryz.ntmps35
  go_wp2_with (first
   | (go_at_call 36; refine (l1In_any _ _ _ _).mono ?_; rintro e' w' ⟨rfl, rfl⟩))
  go_ret
  exact ⟨ret_b (unhide hq).symm, (belC)⟩
 cases x2 : inB v (-9) 9
 ·have hq : Hid (okJob s t k z p l e v r = false) := hide (by simp [okJob, c0, c1, c2, c3, hs, d0, x0, x1, x2])
  clear hs
  go_enter Tryz.func35, Tryz.ntmps35
  go_wp2_with (first
   | (go_at_call 36; refine (l1In_any _ _ _ _).mono ?_; rintro e' w' ⟨rfl, rfl⟩))
  go_ret
  exact ⟨ret_b (unhide hq).symm, (belC)⟩
 have hq : Hid (okJob s t k z p l e v r = inB r 1 4) := hide (by simp [okJob, c0, c1, c2, c3, hs, d0, x0, x1, x2])
 clear hs
 go_enter Tryz.func35, Tryz.ntmps35
 go_wp2_with (first
  | (go_at_call 36; refine (l1In_any _ _ _ _).mono ?_; rintro e' w' ⟨rfl, rfl⟩))
 go_ret
 exact ⟨ret_b (unhide hq).symm, (belC)⟩
set_option maxHeartbeats 1000000 in
theorem impljobok_any (s t k z p l e : Int) (b : Bool) (v r : Int) (w : World) : Calls Tryz.prog 44 #[.agg #[.int .i64 s, .int .i64 t, .int .i64 k, .int .i64 z, .int .i64 p, .int .i64 l, .int .i64 e, .bool b, .int .i64 v, .int .i64 r]] w fun e' w' => e' = .returned (.bool (okJob s t k z p l e v r)) ∧ Below w.heap.size w w' := by
 cases c0 : inB s 1 3
 ·have hq : Hid (okJob s t k z p l e v r = false) := hide (by simp [okJob, c0])
  go_enter Tryz.func44, Tryz.ntmps44
  go_wp2_with (first
   | (go_at_call 45; refine (within_any _ _ _ _).mono ?_; rintro e' w' ⟨rfl, rfl⟩)
   | (go_at_call 70; refine (stepok_any _ _ _ _ _ _ _ _ _ _ (by omega) _).mono ?_; rintro e' w' ⟨rfl, hb⟩; obtain ⟨hc, hf, hsz⟩ := bcell hb; (try have hz0 := zA hb w.heap.size)))
  go_ret
  exact ⟨ret_b (unhide hq).symm, (belC)⟩
 cases c1 : inB t 1 2
 ·have hq : Hid (okJob s t k z p l e v r = false) := hide (by simp [okJob, c0, c1])
  go_enter Tryz.func44, Tryz.ntmps44
  go_wp2_with (first
   | (go_at_call 45; refine (within_any _ _ _ _).mono ?_; rintro e' w' ⟨rfl, rfl⟩)
   | (go_at_call 70; refine (stepok_any _ _ _ _ _ _ _ _ _ _ (by omega) _).mono ?_; rintro e' w' ⟨rfl, hb⟩; obtain ⟨hc, hf, hsz⟩ := bcell hb; (try have hz0 := zA hb w.heap.size)))
  go_ret
  exact ⟨ret_b (unhide hq).symm, (belC)⟩
 cases c2 : inB k 1 3
 ·have hq : Hid (okJob s t k z p l e v r = false) := hide (by simp [okJob, c0, c1, c2])
  go_enter Tryz.func44, Tryz.ntmps44
  go_wp2_with (first
   | (go_at_call 45; refine (within_any _ _ _ _).mono ?_; rintro e' w' ⟨rfl, rfl⟩)
   | (go_at_call 70; refine (stepok_any _ _ _ _ _ _ _ _ _ _ (by omega) _).mono ?_; rintro e' w' ⟨rfl, hb⟩; obtain ⟨hc, hf, hsz⟩ := bcell hb; (try have hz0 := zA hb w.heap.size)))
  go_ret
  exact ⟨ret_b (unhide hq).symm, (belC)⟩
 cases c3 : inB z 1 20
 ·have hq : Hid (okJob s t k z p l e v r = false) := hide (by simp [okJob, c0, c1, c2, c3])
  go_enter Tryz.func44, Tryz.ntmps44
  go_wp2_with (first
   | (go_at_call 45; refine (within_any _ _ _ _).mono ?_; rintro e' w' ⟨rfl, rfl⟩)
   | (go_at_call 70; refine (stepok_any _ _ _ _ _ _ _ _ _ _ (by omega) _).mono ?_; rintro e' w' ⟨rfl, hb⟩; obtain ⟨hc, hf, hsz⟩ := bcell hb; (try have hz0 := zA hb w.heap.size)))
  go_ret
  exact ⟨ret_b (unhide hq).symm, (belC)⟩
 have hz := inB_iff.1 c3
 cases d0 : stepB k z p
 ·have hq : Hid (okJob s t k z p l e v r = false) := hide (by simp [okJob, c0, c1, c2, c3, d0])
  go_enter Tryz.func44, Tryz.ntmps44
  go_wp2_with (first
   | (go_at_call 45; refine (within_any _ _ _ _).mono ?_; rintro e' w' ⟨rfl, rfl⟩)
   | (go_at_call 70; refine (stepok_any _ _ _ _ _ _ _ _ _ _ (by omega) _).mono ?_; rintro e' w' ⟨rfl, hb⟩; obtain ⟨hc, hf, hsz⟩ := bcell hb; (try have hz0 := zA hb w.heap.size)))
  go_ret
  exact ⟨ret_b (unhide hq).symm, (belC)⟩
 cases d1 : inB l 0 20
 ·have hq : Hid (okJob s t k z p l e v r = false) := hide (by simp [okJob, c0, c1, c2, c3, d0, d1])
  go_enter Tryz.func44, Tryz.ntmps44
  go_wp2_with (first
   | (go_at_call 45; refine (within_any _ _ _ _).mono ?_; rintro e' w' ⟨rfl, rfl⟩)
   | (go_at_call 70; refine (stepok_any _ _ _ _ _ _ _ _ _ _ (by omega) _).mono ?_; rintro e' w' ⟨rfl, hb⟩; obtain ⟨hc, hf, hsz⟩ := bcell hb; (try have hz0 := zA hb w.heap.size)))
  go_ret
  exact ⟨ret_b (unhide hq).symm, (belC)⟩
 cases d2 : inB e 1 4
 ·have hq : Hid (okJob s t k z p l e v r = false) := hide (by simp [okJob, c0, c1, c2, c3, d0, d1, d2])
  go_enter Tryz.func44, Tryz.ntmps44
  go_wp2_with (first
   | (go_at_call 45; refine (within_any _ _ _ _).mono ?_; rintro e' w' ⟨rfl, rfl⟩)
   | (go_at_call 70; refine (stepok_any _ _ _ _ _ _ _ _ _ _ (by omega) _).mono ?_; rintro e' w' ⟨rfl, hb⟩; obtain ⟨hc, hf, hsz⟩ := bcell hb; (try have hz0 := zA hb w.heap.size)))
  go_ret
  exact ⟨ret_b (unhide hq).symm, (belC)⟩
 cases d3 : inB v (-9) 9
 ·have hq : Hid (okJob s t k z p l e v r = false) := hide (by simp [okJob, c0, c1, c2, c3, d0, d1, d2, d3])
  go_enter Tryz.func44, Tryz.ntmps44
  go_wp2_with (first
   | (go_at_call 45; refine (within_any _ _ _ _).mono ?_; rintro e' w' ⟨rfl, rfl⟩)
   | (go_at_call 70; refine (stepok_any _ _ _ _ _ _ _ _ _ _ (by omega) _).mono ?_; rintro e' w' ⟨rfl, hb⟩; obtain ⟨hc, hf, hsz⟩ := bcell hb; (try have hz0 := zA hb w.heap.size)))
  go_ret
  exact ⟨ret_b (unhide hq).symm, (belC)⟩
 have hq : Hid (okJob s t k z p l e v r = inB r 1 4) := hide (by simp [okJob, c0, c1, c2, c3, d0, d1, d2, d3])
 go_enter Tryz.func44, Tryz.ntmps44
 go_wp2_with (first
  | (go_at_call 45; refine (within_any _ _ _ _).mono ?_; rintro e' w' ⟨rfl, rfl⟩)
  | (go_at_call 70; refine (stepok_any _ _ _ _ _ _ _ _ _ _ (by omega) _).mono ?_; rintro e' w' ⟨rfl, hb⟩; obtain ⟨hc, hf, hsz⟩ := bcell hb; (try have hz0 := zA hb w.heap.size)))
 go_ret
 exact ⟨ret_b (unhide hq).symm, (belC)⟩
end Go.Proofs.YtflignpbboiahaaGreat
