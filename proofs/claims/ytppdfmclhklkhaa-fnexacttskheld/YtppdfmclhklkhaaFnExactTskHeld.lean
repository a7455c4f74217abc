/- For every task the program counts as many held channels as the specification, and writes into no argument. No condition. -/
import Derived.Test.YtppdfmclhklkhaaRows
import Derived.Test.YtppdfmclhklkhaaGenA
import Derived.Test.YtppdfmclhklkhaaGenT
import Derived.Test.YtppdfmclhklkhaaTskL
namespace Go.Proofs.Ytppdfmclhklkhaa.FnExactTskHeldP
open Go.Proofs.Ytppdfmclhklkhaa
open Go.ChangeShapes Go.WideShapes Go.ChangeAt Go.RowKit
open Go.ChangeMaps (open_string shut_string)
set_option linter.unusedVariables false

theorem own : ownKnob Try.prog.godebug = none := by kernel_rfl
theorem laidOut : laidOutB Try.prog = true := by kernel_rfl

set_option maxRecDepth 100000 in
theorem lifted (os : Os) (started : os.Started) (H : Type) (enc : TypeId × Value → H) :
    ReturnsInHanded {} Try.checked os 5 .any (Rows.fnExactTskHeldSpec.pre6 enc Try.prog Try.f5 Rows.fnExactTskHeldRow.domain false) (Rows.fnExactTskHeldSpec.post enc Try.prog Try.f5 false true false false) := by
  refine returnsInHanded_of_change (C := Try.checked) own started (by kernel_rfl) Try.func5
    (ChangeSpec.witness6 (enc := enc) (C := Try.checked) false ⟨#[], #[.agg #[.slice none 0 0, .int .i64 0, .slice none 0 0, .int .i64 0, .int .i64 0, .slice none 0 0, .slice none 0 0]], []⟩ 8 (by kernel_rfl) (by kernel_rfl) (by kernel_rfl) (by kernel_rfl)) ?_
  intro W base args ds gs before hval0 hW hcnd hsz
  have hval : ∀ (j : Nat) t v, Try.f5.params[j]? = some t → args[j]? = some v → Value.okWide Try.prog W .any base t v := hval0
  have hW' := hW
  obtain ⟨p, q, hA0, hV, rfl, hfz, hnd⟩ := hW
  have hA : DataW.TrodAll enc Try.prog W 0 (fun _ => true) true Try.f5.params.toList args.toList ds p := hA0
  rw [Try.params5] at hA hval
  obtain ⟨v0, vs0, d0, ds0, p0, q0, hargs, rfl, rfl, h0, r0⟩ := trodAll_cons hA
  obtain ⟨rfl, rfl, rfl⟩ := trodAll_nil r0
  obtain rfl : args = #[v0] := by cases args; simp_all
  obtain ⟨rfl, rfl⟩ := trodVars_none hV
  have k0 := h0
  have lt0 : ∀ x ∈ p0, x.block < W.heap.size := by obtain ⟨m, hm⟩ := k0; exact DataW.trod_lt m _ _ _ hm
  obtain ⟨cs0, rfl, f0x0⟩ := open_flatT (ks := [.s 51, .i, .s 24, .i, .i, .s 52, .s 53]) 5 Try.underlying57 (by kernel_rfl) (hval 0 57 v0 rfl rfl) h0
  obtain ⟨ia, il, ic, di0, pi0, r00, rfl, y00, f0x1⟩ := fitT_s f0x0
  obtain ⟨om, r01, rfl, y01, f0x2⟩ := fitT_i f0x1
  obtain ⟨oa, ol, oc, do0, po0, r02, rfl, y02, f0x3⟩ := fitT_s f0x2
  obtain ⟨wl, r03, rfl, y03, f0x4⟩ := fitT_i f0x3
  obtain ⟨pn, r04, rfl, y04, f0x5⟩ := fitT_i f0x4
  obtain ⟨pa, pl, pc, dp0, pp0, r05, rfl, y05, f0x6⟩ := fitT_s f0x5
  obtain ⟨la, ll, lc, dl0, pl0, r06, rfl, y06, f0x7⟩ := fitT_s f0x6
  obtain rfl := fitT_nil f0x7
  clear f0x0 f0x1 f0x2 f0x3 f0x4 f0x5 f0x6 f0x7
  obtain ⟨xi, wi, oki⟩ := openTi Try.underlying51 (by kernel_rfl) (by kernel_rfl) Try.underlying113 (by kernel_rfl) (by kernel_rfl) y00
  obtain ⟨xo, wo, oko⟩ := openOr Try.underlying24 (by kernel_rfl) (by kernel_rfl) y02
  obtain ⟨xp, wp, okp⟩ := openPn Try.underlying52 (by kernel_rfl) (by kernel_rfl) y05
  obtain ⟨xl, wll, okl⟩ := openLp Try.underlying53 (by kernel_rfl) (by kernel_rfl) y06
  have tk0 : TkIs W 0 ia il oa ol pa pl la ll ⟨xi, xo, xp, xl⟩ := ⟨wi, ⟨wo, fun _ _ _ _ => Nat.zero_le _⟩, ⟨wp, fun _ _ _ _ => Nat.zero_le _⟩, ⟨wll, fun _ _ _ _ => Nat.zero_le _⟩⟩
  have b01 := bnd64 y01
  have b03 := bnd64 y03
  have b04 := bnd64 y04
  clear hA0 hval0
  refine (lawTskHeld ia il ic om oa ol oc wl pn pa pl pc la ll lc ⟨xi, xo, xp, xl⟩ W tk0).mono fun e W' ⟨he, bel⟩ => ?_
  subst he
  exact ⟨_, rfl, _, _, _, [], _, [], hW', trodAll_mk1 (shut_bool Try.underlying4 _), (trodAll_cons_mk (Below.trod laidOut (by kernel_rfl) (of_decide_eq_true (by kernel_rfl)) k0 bel lt0) trodAll_mk0), rfl, bel.frame _, fun h => by cases h⟩

theorem over : Rows.fnExactTskHeldRow.holds Try.pinned (OpenSpec.ofChange Rows.fnExactTskHeldSpec) :=
  OpenClaim.holds_of_wide 5 Try.f5 rfl rfl rfl rfl rfl rfl rfl ⟨rfl, rfl, rfl, rfl, rfl⟩ rfl rfl rfl rfl rfl (by kernel_rfl) Try.func5 (by kernel_rfl)
    (of_decide_eq_true (by kernel_rfl)) (by unfold Func.isWrapper; rw [if_neg (of_decide_eq_false (by kernel_rfl))]; exact ⟨rfl, rfl⟩)
    (fun os started H enc _ => lifted os started H enc)

end Go.Proofs.Ytppdfmclhklkhaa.FnExactTskHeldP

namespace Go.Proofs.Ytppdfmclhklkhaa
/-- The statement. -/
theorem fnExactTskHeld_holds : Rows.FnExactTskHeldSaid := FnExactTskHeldP.over
end Go.Proofs.Ytppdfmclhklkhaa
