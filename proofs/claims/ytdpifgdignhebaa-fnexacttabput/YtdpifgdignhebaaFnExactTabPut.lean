/- For all rows and every row the program answers the rows with that one put in its place as the specification does, in memory of its own, and writes into no argument. No condition. -/
import Derived.Test.YtdpifgdignhebaaRows
import Derived.Test.YtdpifgdignhebaaGenA
import Derived.Test.YtdpifgdignhebaaGenF
import Derived.Test.YtdpifgdignhebaaPutL
namespace Go.Proofs.Ytdpifgdignhebaa.FnExactTabPutP
open Go.Proofs.Ytdpifgdignhebaa
open Go.ChangeShapes Go.WideShapes Go.ChangeAt Go.RowKit
open Go.ChangeMaps (open_string shut_string)
set_option linter.unusedVariables false

theorem own : ownKnob Try.prog.godebug = none := by kernel_rfl
theorem laidOut : laidOutB Try.prog = true := by kernel_rfl

set_option maxRecDepth 100000 in
theorem lifted (os : Os) (started : os.Started) (H : Type) (enc : TypeId × Value → H) :
    ReturnsInHanded {} Try.checked os 3 .any (Rows.fnExactTabPutSpec.pre6 enc Try.prog Try.f3 Rows.fnExactTabPutRow.domain false) (Rows.fnExactTabPutSpec.post enc Try.prog Try.f3 false true false false) := by
  refine returnsInHanded_of_change (C := Try.checked) own started (by kernel_rfl) Try.func3
    (ChangeSpec.witness6 (enc := enc) (C := Try.checked) false ⟨#[], #[.slice none 0 0, .agg #[.int .i64 0, .int .i64 0, .int .i64 0, .int .i64 0, .int .i64 0, .int .i64 0, .int .i64 0]], []⟩ 8 (by kernel_rfl) (by kernel_rfl) (by kernel_rfl) (by kernel_rfl)) ?_
  intro W base args ds gs before hval0 hW hcnd hsz
  have hval : ∀ (j : Nat) t v, Try.f3.params[j]? = some t → args[j]? = some v → Value.okWide Try.prog W .any base t v := hval0
  have hW' := hW
  obtain ⟨p, q, hA0, hV, rfl, hfz, hnd⟩ := hW
  have hA : DataW.TrodAll enc Try.prog W 0 (fun _ => true) true Try.f3.params.toList args.toList ds p := hA0
  rw [Try.params3] at hA hval
  obtain ⟨v0, vs0, d0, ds0, p0, q0, hargs, rfl, rfl, h0, r0⟩ := trodAll_cons hA
  obtain ⟨v1, vs1, d1, ds1, p1, q1, rfl, rfl, rfl, h1, r1⟩ := trodAll_cons r0
  obtain ⟨rfl, rfl, rfl⟩ := trodAll_nil r1
  obtain rfl : args = #[v0, v1] := by cases args; simp_all
  obtain ⟨rfl, rfl⟩ := trodVars_none hV
  have k0 := h0
  have lt0 : ∀ x ∈ p0, x.block < W.heap.size := by obtain ⟨m, hm⟩ := k0; exact DataW.trod_lt m _ _ _ hm
  have k1 := h1
  have lt1 : ∀ x ∈ p1, x.block < W.heap.size := by obtain ⟨m, hm⟩ := k1; exact DataW.trod_lt m _ _ _ hm
  obtain ⟨a0, len0, cap0, rfl⟩ := okWide_slice Try.underlying22 (hval 0 22 v0 rfl rfl)
  obtain ⟨z0, w0, ok0⟩ := openTb Try.underlying22 (by kernel_rfl) (by kernel_rfl) h0
  obtain ⟨c1, rfl, f1x0⟩ := open_flat (ks := [false, false, false, false, false, false, false]) 5 Try.underlying28 (by kernel_rfl) (hval 1 28 v1 rfl rfl) h1
  obtain ⟨a10, r10, rfl, y10, f1x1⟩ := fits_int f1x0
  clear f1x0
  obtain ⟨a11, r11, rfl, y11, f1x2⟩ := fits_int f1x1
  clear f1x1
  obtain ⟨a12, r12, rfl, y12, f1x3⟩ := fits_int f1x2
  clear f1x2
  obtain ⟨a13, r13, rfl, y13, f1x4⟩ := fits_int f1x3
  clear f1x3
  obtain ⟨a14, r14, rfl, y14, f1x5⟩ := fits_int f1x4
  clear f1x4
  obtain ⟨a15, r15, rfl, y15, f1x6⟩ := fits_int f1x5
  clear f1x5
  obtain ⟨a16, r16, rfl, y16, f1x7⟩ := fits_int f1x6
  clear f1x6
  obtain rfl := fits_nil f1x7
  have wa10 := bnd64 y10
  have wa11 := bnd64 y11
  have wa12 := bnd64 y12
  have wa13 := bnd64 y13
  have wa14 := bnd64 y14
  have wa15 := bnd64 y15
  have wa16 := bnd64 y16
  clear hA0 hval0
  refine (lawTabPut a0 len0 cap0 z0 a10 a11 a12 a13 a14 a15 a16 W w0).mono fun e W' ⟨he, bel⟩ => ?_
  subst he
  exact ⟨_, rfl, _, _, _, [], _, [], hW', trodAll_mk1 (shut_bool Try.underlying4 _), (trodAll_cons_mk (Below.trod laidOut (by kernel_rfl) (of_decide_eq_true (by kernel_rfl)) k0 bel lt0) (trodAll_cons_mk (Below.trod laidOut (by kernel_rfl) (of_decide_eq_true (by kernel_rfl)) k1 bel lt1) trodAll_mk0)), rfl, bel.frame _, fun h => by cases h⟩

theorem over : Rows.fnExactTabPutRow.holds Try.pinned (OpenSpec.ofChange Rows.fnExactTabPutSpec) :=
  OpenClaim.holds_of_wide 3 Try.f3 rfl rfl rfl rfl rfl rfl rfl ⟨rfl, rfl, rfl, rfl, rfl⟩ rfl rfl rfl rfl rfl (by kernel_rfl) Try.func3 (by kernel_rfl)
    (of_decide_eq_true (by kernel_rfl)) (by unfold Func.isWrapper; rw [if_neg (of_decide_eq_false (by kernel_rfl))]; exact ⟨rfl, rfl⟩)
    (fun os started H enc _ => lifted os started H enc)

end Go.Proofs.Ytdpifgdignhebaa.FnExactTabPutP

namespace Go.Proofs.Ytdpifgdignhebaa
/-- The statement. -/
theorem fnExactTabPut_holds : Rows.FnExactTabPutSaid := FnExactTabPutP.over
end Go.Proofs.Ytdpifgdignhebaa
