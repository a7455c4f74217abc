/- For every job, state of an operator and mark the program answers the state and the panes that the specification answers, in memory of its own, and writes into no argument. No condition. -/
import Derived.Test.YtflignpbboiahaaRows
import Derived.Test.YtflignpbboiahaaGenA
import Derived.Test.YtflignpbboiahaaGenF
import Derived.Test.YtflignpbboiahaaPkA0
import Derived.Test.YtflignpbboiahaaPkA2
namespace Go.Proofs.Ytflignpbboiahaa.FnExactOpMarkP
open Go.Proofs.Ytflignpbboiahaa
open Go.ChangeShapes Go.WideShapes Go.ChangeAt Go.RowKit
open Go.ChangeMaps (open_string shut_string)
set_option linter.unusedVariables false

theorem own : ownKnob Try.prog.godebug = none := by kernel_rfl
theorem laidOut : laidOutB Try.prog = true := by kernel_rfl

set_option maxRecDepth 100000 in
theorem lifted (os : Os) (started : os.Started) (H : Type) (enc : TypeId × Value → H) :
    ReturnsInHanded {} Try.checked os 3 .any (Rows.fnExactOpMarkSpec.pre6 enc Try.prog Try.f3 Rows.fnExactOpMarkRow.domain false) (Rows.fnExactOpMarkSpec.post enc Try.prog Try.f3 false true false false) := by
  refine returnsInHanded_of_change (C := Try.checked) own started (by kernel_rfl) Try.func3
    (ChangeSpec.witness6 (enc := enc) (C := Try.checked) false ⟨#[], #[.agg #[.int .i64 0, .int .i64 0, .int .i64 0, .int .i64 0, .int .i64 0, .int .i64 0, .int .i64 0, .bool false, .int .i64 0, .int .i64 0], .agg #[.int .i64 0, .slice none 0 0], .int .i64 0], []⟩ 8 (by kernel_rfl) (by kernel_rfl) (by kernel_rfl) (by kernel_rfl)) ?_
  intro W base args ds gs before hval0 hW hcnd hsz
  have hval : ∀ (j : Nat) t v, Try.f3.params[j]? = some t → args[j]? = some v → Value.okWide Try.prog W .any base t v := hval0
  have hW' := hW
  obtain ⟨p, q, hA0, hV, rfl, hfz, hnd⟩ := hW
  have hA : DataW.TrodAll enc Try.prog W 0 (fun _ => true) true Try.f3.params.toList args.toList ds p := hA0
  rw [Try.params3] at hA hval
  obtain ⟨v0, vs0, d0, ds0, p0, q0, hargs, rfl, rfl, h0, r0⟩ := trodAll_cons hA
  obtain ⟨v1, vs1, d1, ds1, p1, q1, rfl, rfl, rfl, h1, r1⟩ := trodAll_cons r0
  obtain ⟨v2, vs2, d2, ds2, p2, q2, rfl, rfl, rfl, h2, r2⟩ := trodAll_cons r1
  obtain ⟨rfl, rfl, rfl⟩ := trodAll_nil r2
  obtain rfl : args = #[v0, v1, v2] := by cases args; simp_all
  obtain ⟨rfl, rfl⟩ := trodVars_none hV
  have k0 := h0
  have lt0 : ∀ x ∈ p0, x.block < W.heap.size := by obtain ⟨m, hm⟩ := k0; exact DataW.trod_lt m _ _ _ hm
  have k1 := h1
  have lt1 : ∀ x ∈ p1, x.block < W.heap.size := by obtain ⟨m, hm⟩ := k1; exact DataW.trod_lt m _ _ _ hm
  obtain ⟨c0, rfl, f0x0⟩ := open_flat (ks := [false, false, false, false, false, false, false, true, false, false]) 5 Try.underlying23 (by kernel_rfl) (hval 0 23 v0 rfl rfl) h0
  obtain ⟨a00, r00, rfl, y00, f0x1⟩ := fits_int f0x0
  clear f0x0
  obtain ⟨a01, r01, rfl, y01, f0x2⟩ := fits_int f0x1
  clear f0x1
  obtain ⟨a02, r02, rfl, y02, f0x3⟩ := fits_int f0x2
  clear f0x2
  obtain ⟨a03, r03, rfl, y03, f0x4⟩ := fits_int f0x3
  clear f0x3
  obtain ⟨a04, r04, rfl, y04, f0x5⟩ := fits_int f0x4
  clear f0x4
  obtain ⟨a05, r05, rfl, y05, f0x6⟩ := fits_int f0x5
  clear f0x5
  obtain ⟨a06, r06, rfl, y06, f0x7⟩ := fits_int f0x6
  clear f0x6
  obtain ⟨a07, r07, rfl, f0x8⟩ := fits_bool f0x7
  clear f0x7
  obtain ⟨a08, r08, rfl, y08, f0x9⟩ := fits_int f0x8
  clear f0x8
  obtain ⟨a09, r09, rfl, y09, f0x10⟩ := fits_int f0x9
  clear f0x9
  obtain rfl := fits_nil f0x10
  obtain ⟨m1, a1, len1, cap1, e1, u1, rfl, y1, hh1⟩ := open_st Try.underlying26 (by kernel_rfl) (by kernel_rfl) (by kernel_rfl) Try.underlying24 (hval 1 26 v1 rfl rfl) h1
  obtain ⟨z1, w1, ok1⟩ := openOr Try.underlying24 (by kernel_rfl) (by kernel_rfl) hh1
  obtain ⟨a2, rfl, rfl, rfl, w2⟩ := open_int Try.underlying3 (hval 2 3 v2 rfl rfl) h2
  have b2 := bnd64 w2
  have wa00 := bnd64 y00
  have wa01 := bnd64 y01
  have wa02 := bnd64 y02
  have wa03 := bnd64 y03
  have wa04 := bnd64 y04
  have wa05 := bnd64 y05
  have wa06 := bnd64 y06
  have wa08 := bnd64 y08
  have wa09 := bnd64 y09
  have wm1 := bnd64 y1
  clear hA0 hval0
  refine (lawOpMark a00 a01 a02 a03 a04 a05 a06 a07 a08 a09 m1 a1 len1 cap1 z1 a2 W w1).mono fun e W' ⟨he, bel⟩ => ?_
  subst he
  exact ⟨_, rfl, _, _, _, [], _, [], hW', trodAll_mk1 (shut_bool Try.underlying4 _), (trodAll_cons_mk (Below.trod laidOut (by kernel_rfl) (of_decide_eq_true (by kernel_rfl)) k0 bel lt0) (trodAll_cons_mk (Below.trod laidOut (by kernel_rfl) (of_decide_eq_true (by kernel_rfl)) k1 bel lt1) (trodAll_cons_mk (shut_int Try.underlying3 w2) trodAll_mk0))), rfl, bel.frame _, fun h => by cases h⟩

theorem over : Rows.fnExactOpMarkRow.holds Try.pinned (OpenSpec.ofChange Rows.fnExactOpMarkSpec) :=
  OpenClaim.holds_of_wide 3 Try.f3 rfl rfl rfl rfl rfl rfl rfl ⟨rfl, rfl, rfl, rfl, rfl⟩ rfl rfl rfl rfl rfl (by kernel_rfl) Try.func3 (by kernel_rfl)
    (of_decide_eq_true (by kernel_rfl)) (by unfold Func.isWrapper; rw [if_neg (of_decide_eq_false (by kernel_rfl))]; exact ⟨rfl, rfl⟩)
    (fun os started H enc _ => lifted os started H enc)

end Go.Proofs.Ytflignpbboiahaa.FnExactOpMarkP

namespace Go.Proofs.Ytflignpbboiahaa
/-- The statement. -/
theorem fnExactOpMark_holds : Rows.FnExactOpMarkSaid := FnExactOpMarkP.over
end Go.Proofs.Ytflignpbboiahaa
