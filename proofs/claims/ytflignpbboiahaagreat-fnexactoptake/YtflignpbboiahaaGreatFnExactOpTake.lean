/- For every job, state of an operator and record the program answers the state, the panes and the late records that the specification answers, in memory of its own, and writes into no argument. No condition. -/
import Derived.Test.YtflignpbboiahaaGreatRows
import Derived.Test.YtflignpbboiahaaGreatQ0
import Derived.Test.YtflignpbboiahaaGreatQ25
namespace Go.Proofs.YtflignpbboiahaaGreat.FnExactOpTakeP
open Go.Proofs.YtflignpbboiahaaGreat
open Go.ChangeShapes Go.WideShapes Go.ChangeAt Go.RowKit
open Go.ChangeMaps (open_string shut_string)
set_option linter.unusedVariables false

theorem own : ownKnob Tryz.prog.godebug = none := by kernel_rfl
theorem laidOut : laidOutB Tryz.prog = true := by kernel_rfl

set_option maxRecDepth 100000 in
theorem lifted (os : Os) (started : os.Started) (H : Type) (enc : TypeId × Value → H) :
    ReturnsInHanded {} Tryz.checked os 3 .any (Rows.fnExactOpTakeSpec.pre6 enc Tryz.prog Tryz.f3 Rows.fnExactOpTakeRow.domain false) (Rows.fnExactOpTakeSpec.post enc Tryz.prog Tryz.f3 false true false false) := by
  refine returnsInHanded_of_change (C := Tryz.checked) own started (by kernel_rfl) Tryz.func3
    (ChangeSpec.witness6 (enc := enc) (C := Tryz.checked) false ⟨#[], #[.agg #[.int .i64 0, .int .i64 0, .int .i64 0, .int .i64 0, .int .i64 0, .int .i64 0, .int .i64 0, .bool false, .int .i64 0, .int .i64 0], .agg #[.int .i64 0, .slice none 0 0], .agg #[.int .i64 0, .int .i64 0, .int .i64 0, .int .i64 0, .int .i64 0]], []⟩ 8 (by kernel_rfl) (by kernel_rfl) (by kernel_rfl) (by kernel_rfl)) ?_
  intro W base args ds gs before hval0 hW hcnd hsz
  have hval : ∀ (j : Nat) t v, Tryz.f3.params[j]? = some t → args[j]? = some v → Value.okWide Tryz.prog W .any base t v := hval0
  have hW' := hW
  obtain ⟨p, q, hA0, hV, rfl, hfz, hnd⟩ := hW
  have hA : DataW.TrodAll enc Tryz.prog W 0 (fun _ => true) true Tryz.f3.params.toList args.toList ds p := hA0
  rw [Tryz.params3] at hA hval
  obtain ⟨v0, vs0, d0, ds0, p0, q0, hargs, rfl, rfl, h0, r0⟩ := trodAll_cons hA
  obtain ⟨v1, vs1, d1, ds1, p1, q1, rfl, rfl, rfl, h1, r1⟩ := trodAll_cons r0
  obtain ⟨v2, vs2, d2, ds2, p2, q2, rfl, rfl, rfl, h2, r2⟩ := trodAll_cons r1
  obtain ⟨rfl, rfl, rfl⟩ := trodAll_nil r2
  obtain rfl : args = #[v0, v1, v2] := by cases args; simp_all
  obtain ⟨rfl, rfl⟩ := trodVars_none hV
  have k0 := h0
  have lt0 : ∀ x ∈ p0, x.block < W.heap.size := by obtain ⟨m, hm⟩ := k0; exact DataW.trod_lt m _ _ _ hm
  have k1 := h1
  have lt1 : ∀ x ∈ p1, x.block < W.heap.size := by obtain ⟨m, hm⟩ := k1; exact DataW.trod_lt m _ _ _ hm
  have k2 := h2
  have lt2 : ∀ x ∈ p2, x.block < W.heap.size := by obtain ⟨m, hm⟩ := k2; exact DataW.trod_lt m _ _ _ hm
  obtain ⟨c0, rfl, f0x0⟩ := open_flat (ks := [false, false, false, false, false, false, false, true, false, false]) 5 Tryz.underlying23 (by kernel_rfl) (hval 0 23 v0 rfl rfl) h0
  obtain ⟨a00, r00, rfl, y00, f0x1⟩ := fits_int f0x0
  clear f0x0
  obtain ⟨a01, r01, rfl, y01, f0x2⟩ := fits_int f0x1
  clear f0x1
  obtain ⟨a02, r02, rfl, y02, f0x3⟩ := fits_int f0x2
  clear f0x2
  obtain ⟨a03, r03, rfl, y03, f0x4⟩ := fits_int f0x3
  clear f0x3
  obtain ⟨a04, r04, rfl, y04, f0x5⟩ := fits_int f0x4
  clear f0x4
  obtain ⟨a05, r05, rfl, y05, f0x6⟩ := fits_int f0x5
  clear f0x5
  obtain ⟨a06, r06, rfl, y06, f0x7⟩ := fits_int f0x6
  clear f0x6
  obtain ⟨a07, r07, rfl, f0x8⟩ := fits_bool f0x7
  clear f0x7
  obtain ⟨a08, r08, rfl, y08, f0x9⟩ := fits_int f0x8
  clear f0x8
  obtain ⟨a09, r09, rfl, y09, f0x10⟩ := fits_int f0x9
  clear f0x9
  obtain rfl := fits_nil f0x10
  obtain ⟨m1, a1, len1, cap1, e1, u1, rfl, y1, hh1⟩ := open_st Tryz.underlying26 (by kernel_rfl) (by kernel_rfl) (by kernel_rfl) Tryz.underlying24 (hval 1 26 v1 rfl rfl) h1
  obtain ⟨z1, w1, ok1⟩ := openOr Tryz.underlying24 (by kernel_rfl) (by kernel_rfl) hh1
  obtain ⟨c2, rfl, f2x0⟩ := open_flat (ks := [false, false, false, false, false]) 5 Tryz.underlying28 (by kernel_rfl) (hval 2 28 v2 rfl rfl) h2
  obtain ⟨a20, r20, rfl, y20, f2x1⟩ := fits_int f2x0
  clear f2x0
  obtain ⟨a21, r21, rfl, y21, f2x2⟩ := fits_int f2x1
  clear f2x1
  obtain ⟨a22, r22, rfl, y22, f2x3⟩ := fits_int f2x2
  clear f2x2
  obtain ⟨a23, r23, rfl, y23, f2x4⟩ := fits_int f2x3
  clear f2x3
  obtain ⟨a24, r24, rfl, y24, f2x5⟩ := fits_int f2x4
  clear f2x4
  obtain rfl := fits_nil f2x5
  have wa00 := bnd64 y00
  have wa01 := bnd64 y01
  have wa02 := bnd64 y02
  have wa03 := bnd64 y03
  have wa04 := bnd64 y04
  have wa05 := bnd64 y05
  have wa06 := bnd64 y06
  have wa08 := bnd64 y08
  have wa09 := bnd64 y09
  have wm1 := bnd64 y1
  have wa20 := bnd64 y20
  have wa21 := bnd64 y21
  have wa22 := bnd64 y22
  have wa23 := bnd64 y23
  have wa24 := bnd64 y24
  clear hA0 hval0
  refine (lawOpTake a00 a01 a02 a03 a04 a05 a06 a07 a08 a09 m1 a1 len1 cap1 z1 a20 a21 a22 a23 a24 W w1).mono fun e W' ⟨he, bel⟩ => ?_
  subst he
  exact ⟨_, rfl, _, _, _, [], _, [], hW', trodAll_mk1 (shut_bool Tryz.underlying4 _), (trodAll_cons_mk (Below.trod laidOut (by kernel_rfl) (of_decide_eq_true (by kernel_rfl)) k0 bel lt0) (trodAll_cons_mk (Below.trod laidOut (by kernel_rfl) (of_decide_eq_true (by kernel_rfl)) k1 bel lt1) (trodAll_cons_mk (Below.trod laidOut (by kernel_rfl) (of_decide_eq_true (by kernel_rfl)) k2 bel lt2) trodAll_mk0))), rfl, bel.frame _, fun h => by cases h⟩

theorem over : Rows.fnExactOpTakeRow.holds Tryz.pinned (OpenSpec.ofChange Rows.fnExactOpTakeSpec) :=
  OpenClaim.holds_of_wide 3 Tryz.f3 rfl rfl rfl rfl rfl rfl rfl ⟨rfl, rfl, rfl, rfl, rfl⟩ rfl rfl rfl rfl rfl (by kernel_rfl) Tryz.func3 (by kernel_rfl)
    (of_decide_eq_true (by kernel_rfl)) (by unfold Func.isWrapper; rw [if_neg (of_decide_eq_false (by kernel_rfl))]; exact ⟨rfl, rfl⟩)
    (fun os started H enc _ => lifted os started H enc)

end Go.Proofs.YtflignpbboiahaaGreat.FnExactOpTakeP

namespace Go.Proofs.YtflignpbboiahaaGreat
/-- The statement. -/
theorem fnExactOpTake_holds : Rows.FnExactOpTakeSaid := FnExactOpTakeP.over
end Go.Proofs.YtflignpbboiahaaGreat
