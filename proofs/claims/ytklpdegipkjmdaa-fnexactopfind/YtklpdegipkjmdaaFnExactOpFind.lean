/- For every state of an operator and every key and window the program finds the open window that the specification finds, and writes into no argument. No condition. -/
import Derived.Test.YtklpdegipkjmdaaRows
import Derived.Test.YtklpdegipkjmdaaGenA
import Derived.Test.YtklpdegipkjmdaaGenF
import Derived.Test.YtklpdegipkjmdaaGenS
import Derived.Test.YtklpdegipkjmdaaOpFndL
namespace Go.Proofs.Ytklpdegipkjmdaa.FnExactOpFindP
open Go.Proofs.Ytklpdegipkjmdaa
open Go.ChangeShapes Go.WideShapes Go.ChangeAt Go.RowKit
open Go.ChangeMaps (open_string shut_string)
set_option linter.unusedVariables false

theorem own : ownKnob Try.prog.godebug = none := by kernel_rfl
theorem laidOut : laidOutB Try.prog = true := by kernel_rfl

set_option maxRecDepth 100000 in
theorem lifted (os : Os) (started : os.Started) (H : Type) (enc : TypeId × Value → H) :
    ReturnsInHanded {} Try.checked os 4 .any (Rows.fnExactOpFindSpec.pre6 enc Try.prog Try.f4 Rows.fnExactOpFindRow.domain false) (Rows.fnExactOpFindSpec.post enc Try.prog Try.f4 false true false false) := by
  refine returnsInHanded_of_change (C := Try.checked) own started (by kernel_rfl) Try.func4
    (ChangeSpec.witness6 (enc := enc) (C := Try.checked) false ⟨#[], #[.agg #[.int .i64 0, .slice none 0 0], .int .i64 0, .agg #[.int .i64 0, .int .i64 0]], []⟩ 8 (by kernel_rfl) (by kernel_rfl) (by kernel_rfl) (by kernel_rfl)) ?_
  intro W base args ds gs before hval0 hW hcnd hsz
  have hval : ∀ (j : Nat) t v, Try.f4.params[j]? = some t → args[j]? = some v → Value.okWide Try.prog W .any base t v := hval0
  have hW' := hW
  obtain ⟨p, q, hA0, hV, rfl, hfz, hnd⟩ := hW
  have hA : DataW.TrodAll enc Try.prog W 0 (fun _ => true) true Try.f4.params.toList args.toList ds p := hA0
  rw [Try.params4] at hA hval
  obtain ⟨v0, vs0, d0, ds0, p0, q0, hargs, rfl, rfl, h0, r0⟩ := trodAll_cons hA
  obtain ⟨v1, vs1, d1, ds1, p1, q1, rfl, rfl, rfl, h1, r1⟩ := trodAll_cons r0
  obtain ⟨v2, vs2, d2, ds2, p2, q2, rfl, rfl, rfl, h2, r2⟩ := trodAll_cons r1
  obtain ⟨rfl, rfl, rfl⟩ := trodAll_nil r2
  obtain rfl : args = #[v0, v1, v2] := by cases args; simp_all
  obtain ⟨rfl, rfl⟩ := trodVars_none hV
  have k0 := h0
  have lt0 : ∀ x ∈ p0, x.block < W.heap.size := by obtain ⟨m, hm⟩ := k0; exact DataW.trod_lt m _ _ _ hm
  have k2 := h2
  have lt2 : ∀ x ∈ p2, x.block < W.heap.size := by obtain ⟨m, hm⟩ := k2; exact DataW.trod_lt m _ _ _ hm
  obtain ⟨m0, a0, len0, cap0, e0, u0, rfl, y0, hh0⟩ := open_st Try.underlying26 (by kernel_rfl) (by kernel_rfl) (by kernel_rfl) Try.underlying24 (hval 0 26 v0 rfl rfl) h0
  obtain ⟨z0, w0, ok0⟩ := openOr Try.underlying24 (by kernel_rfl) (by kernel_rfl) hh0
  obtain ⟨a1, rfl, rfl, rfl, w1⟩ := open_int Try.underlying3 (hval 1 3 v1 rfl rfl) h1
  have b1 := bnd64 w1
  obtain ⟨z2, rfl, l2, f2⟩ := open_ints_agg Try.underlying38 (by kernel_rfl) (by kernel_rfl) (by kernel_rfl) (hval 2 38 v2 rfl rfl) h2
  obtain ⟨a20, a21, rfl⟩ := list2 l2
  clear l2
  have wm0 := bnd64 y0
  have wa20 := bnd64 (f2 a20 (by simp))
  have wa21 := bnd64 (f2 a21 (by simp))
  clear hA0 hval0
  refine (lawOpFind m0 a0 len0 cap0 z0 a1 a20 a21 W w0).mono fun e W' ⟨he, bel⟩ => ?_
  subst he
  exact ⟨_, rfl, _, _, _, [], _, [], hW', trodAll_mk1 (shut_bool Try.underlying4 _), (trodAll_cons_mk (Below.trod laidOut (by kernel_rfl) (of_decide_eq_true (by kernel_rfl)) k0 bel lt0) (trodAll_cons_mk (shut_int Try.underlying3 w1) (trodAll_cons_mk (Below.trod laidOut (by kernel_rfl) (of_decide_eq_true (by kernel_rfl)) k2 bel lt2) trodAll_mk0))), rfl, bel.frame _, fun h => by cases h⟩

theorem over : Rows.fnExactOpFindRow.holds Try.pinned (OpenSpec.ofChange Rows.fnExactOpFindSpec) :=
  OpenClaim.holds_of_wide 4 Try.f4 rfl rfl rfl rfl rfl rfl rfl ⟨rfl, rfl, rfl, rfl, rfl⟩ rfl rfl rfl rfl rfl (by kernel_rfl) Try.func4 (by kernel_rfl)
    (of_decide_eq_true (by kernel_rfl)) (by unfold Func.isWrapper; rw [if_neg (of_decide_eq_false (by kernel_rfl))]; exact ⟨rfl, rfl⟩)
    (fun os started H enc _ => lifted os started H enc)

end Go.Proofs.Ytklpdegipkjmdaa.FnExactOpFindP

namespace Go.Proofs.Ytklpdegipkjmdaa
/-- The statement. -/
theorem fnExactOpFind_holds : Rows.FnExactOpFindSaid := FnExactOpFindP.over
end Go.Proofs.Ytklpdegipkjmdaa
