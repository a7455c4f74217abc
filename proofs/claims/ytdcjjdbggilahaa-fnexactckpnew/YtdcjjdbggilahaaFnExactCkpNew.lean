/- For every job the program makes the checkpoints that the specification makes, in memory of their own. No condition. -/
import Derived.Test.YtdcjjdbggilahaaRows
import Derived.Test.YtdcjjdbggilahaaGenA
import Derived.Test.YtdcjjdbggilahaaGenF
import Derived.Test.YtdcjjdbggilahaaCkpNL
namespace Go.Proofs.Ytdcjjdbggilahaa.FnExactCkpNewP
open Go.Proofs.Ytdcjjdbggilahaa
open Go.ChangeShapes Go.WideShapes Go.ChangeAt Go.RowKit
open Go.ChangeMaps (open_string shut_string)
set_option linter.unusedVariables false

theorem own : ownKnob Try.prog.godebug = none := by kernel_rfl
theorem laidOut : laidOutB Try.prog = true := by kernel_rfl

set_option maxRecDepth 100000 in
theorem lifted (os : Os) (started : os.Started) (H : Type) (enc : TypeId × Value → H) :
    ReturnsInHanded {} Try.checked os 3 .any (Rows.fnExactCkpNewSpec.pre6 enc Try.prog Try.f3 Rows.fnExactCkpNewRow.domain false) (Rows.fnExactCkpNewSpec.post enc Try.prog Try.f3 false true false false) := by
  refine returnsInHanded_of_change (C := Try.checked) own started (by kernel_rfl) Try.func3
    (ChangeSpec.witness6 (enc := enc) (C := Try.checked) false ⟨#[], #[.agg #[.int .i64 0, .int .i64 0, .int .i64 0, .int .i64 0, .int .i64 0, .int .i64 0, .int .i64 0, .bool false, .int .i64 0, .int .i64 0]], []⟩ 8 (by kernel_rfl) (by kernel_rfl) (by kernel_rfl) (by kernel_rfl)) ?_
  intro W base args ds gs before hval0 hW hcnd hsz
  have hval : ∀ (j : Nat) t v, Try.f3.params[j]? = some t → args[j]? = some v → Value.okWide Try.prog W .any base t v := hval0
  have hW' := hW
  obtain ⟨p, q, hA0, hV, rfl, hfz, hnd⟩ := hW
  have hA : DataW.TrodAll enc Try.prog W 0 (fun _ => true) true Try.f3.params.toList args.toList ds p := hA0
  rw [Try.params3] at hA hval
  obtain ⟨v0, vs0, d0, ds0, p0, q0, hargs, rfl, rfl, h0, r0⟩ := trodAll_cons hA
  obtain ⟨rfl, rfl, rfl⟩ := trodAll_nil r0
  obtain rfl : args = #[v0] := by cases args; simp_all
  obtain ⟨rfl, rfl⟩ := trodVars_none hV
  have k0 := h0
  have lt0 : ∀ x ∈ p0, x.block < W.heap.size := by obtain ⟨m, hm⟩ := k0; exact DataW.trod_lt m _ _ _ hm
  obtain ⟨c0, rfl, f0x0⟩ := open_flat (ks := [false, false, false, false, false, false, false, true, false, false]) 5 Try.underlying23 (by kernel_rfl) (hval 0 23 v0 rfl rfl) h0
  obtain ⟨a00, r00, rfl, y00, f0x1⟩ := fits_int f0x0
  clear f0x0
  obtain ⟨a01, r01, rfl, y01, f0x2⟩ := fits_int f0x1
  clear f0x1
  obtain ⟨a02, r02, rfl, y02, f0x3⟩ := fits_int f0x2
  clear f0x2
  obtain ⟨a03, r03, rfl, y03, f0x4⟩ := fits_int f0x3
  clear f0x3
  obtain ⟨a04, r04, rfl, y04, f0x5⟩ := fits_int f0x4
  clear f0x4
  obtain ⟨a05, r05, rfl, y05, f0x6⟩ := fits_int f0x5
  clear f0x5
  obtain ⟨a06, r06, rfl, y06, f0x7⟩ := fits_int f0x6
  clear f0x6
  obtain ⟨a07, r07, rfl, f0x8⟩ := fits_bool f0x7
  clear f0x7
  obtain ⟨a08, r08, rfl, y08, f0x9⟩ := fits_int f0x8
  clear f0x8
  obtain ⟨a09, r09, rfl, y09, f0x10⟩ := fits_int f0x9
  clear f0x9
  obtain rfl := fits_nil f0x10
  have wa00 := bnd64 y00
  have wa01 := bnd64 y01
  have wa02 := bnd64 y02
  have wa03 := bnd64 y03
  have wa04 := bnd64 y04
  have wa05 := bnd64 y05
  have wa06 := bnd64 y06
  have wa08 := bnd64 y08
  have wa09 := bnd64 y09
  clear hA0 hval0
  refine (lawCkpNew a00 a01 a02 a03 a04 a05 a06 a07 a08 a09 W ).mono fun e W' ⟨he, bel⟩ => ?_
  subst he
  exact ⟨_, rfl, _, _, _, [], _, [], hW', trodAll_mk1 (shut_bool Try.underlying4 _), (trodAll_cons_mk (Below.trod laidOut (by kernel_rfl) (of_decide_eq_true (by kernel_rfl)) k0 bel lt0) trodAll_mk0), rfl, bel.frame _, fun h => by cases h⟩

theorem over : Rows.fnExactCkpNewRow.holds Try.pinned (OpenSpec.ofChange Rows.fnExactCkpNewSpec) :=
  OpenClaim.holds_of_wide 3 Try.f3 rfl rfl rfl rfl rfl rfl rfl ⟨rfl, rfl, rfl, rfl, rfl⟩ rfl rfl rfl rfl rfl (by kernel_rfl) Try.func3 (by kernel_rfl)
    (of_decide_eq_true (by kernel_rfl)) (by unfold Func.isWrapper; rw [if_neg (of_decide_eq_false (by kernel_rfl))]; exact ⟨rfl, rfl⟩)
    (fun os started H enc _ => lifted os started H enc)

end Go.Proofs.Ytdcjjdbggilahaa.FnExactCkpNewP

namespace Go.Proofs.Ytdcjjdbggilahaa
/-- The statement. -/
theorem fnExactCkpNew_holds : Rows.FnExactCkpNewSaid := FnExactCkpNewP.over
end Go.Proofs.Ytdcjjdbggilahaa
