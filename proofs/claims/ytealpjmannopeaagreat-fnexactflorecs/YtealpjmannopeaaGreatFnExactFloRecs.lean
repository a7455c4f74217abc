/- For every flow the program and the specification give the same records, log by log; the answer is in memory of its own, and the program writes into no argument. No condition. -/
import Derived.Test.YtealpjmannopeaaGreatRows
import Derived.Test.YtealpjmannopeaaGreatX0
import Derived.Test.YtealpjmannopeaaGreatX25
namespace Go.Proofs.YtealpjmannopeaaGreat.FnExactFloRecsP
open Go.Proofs.YtealpjmannopeaaGreat
open Go.ChangeShapes Go.WideShapes Go.ChangeAt Go.RowKit
open Go.ChangeMaps (open_string shut_string)
set_option linter.unusedVariables false

theorem own : ownKnob Tryz.prog.godebug = none := by kernel_rfl
theorem laidOut : laidOutB Tryz.prog = true := by kernel_rfl

set_option maxRecDepth 100000 in
theorem lifted (os : Os) (started : os.Started) (H : Type) (enc : TypeId × Value → H) :
    ReturnsInHanded {} Tryz.checked os 5 .any (Rows.fnExactFloRecsSpec.pre6 enc Tryz.prog Tryz.f5 Rows.fnExactFloRecsRow.domain false) (Rows.fnExactFloRecsSpec.post enc Tryz.prog Tryz.f5 false true false false) := by
  refine returnsInHanded_of_change (C := Tryz.checked) own started (by kernel_rfl) Tryz.func5
    (ChangeSpec.witness6 (enc := enc) (C := Tryz.checked) false ⟨#[], #[.agg #[.int .i64 0, .int .i64 0, .int .i64 0, .int .i64 0, .int .i64 0, .int .i64 0, .int .i64 0, .bool false, .int .i64 0, .int .i64 0, .slice none 0 0, .slice none 0 0, .slice none 0 0, .slice none 0 0, .int .i64 0, .bool false, .slice none 0 0, .slice none 0 0, .slice none 0 0, .int .i64 0, .slice none 0 0, .slice none 0 0]], []⟩ 8 (by kernel_rfl) (by kernel_rfl) (by kernel_rfl) (by kernel_rfl)) ?_
  intro W base args ds gs before hval0 hW hcnd hsz
  have hval : ∀ (j : Nat) t v, Tryz.f5.params[j]? = some t → args[j]? = some v → Value.okWide Tryz.prog W .any base t v := hval0
  have hW' := hW
  obtain ⟨p, q, hA0, hV, rfl, hfz, hnd⟩ := hW
  have hA : DataW.TrodAll enc Tryz.prog W 0 (fun _ => true) true Tryz.f5.params.toList args.toList ds p := hA0
  rw [Tryz.params5] at hA hval
  obtain ⟨v0, vs0, d0, ds0, p0, q0, hargs, rfl, rfl, h0, r0⟩ := trodAll_cons hA
  obtain ⟨rfl, rfl, rfl⟩ := trodAll_nil r0
  obtain rfl : args = #[v0] := by cases args; simp_all
  obtain ⟨rfl, rfl⟩ := trodVars_none hV
  have k0 := h0
  have lt0 : ∀ x ∈ p0, x.block < W.heap.size := by obtain ⟨m, hm⟩ := k0; exact DataW.trod_lt m _ _ _ hm
  obtain ⟨cs0, rfl, f0x0⟩ := open_flatT (ks := [.i, .i, .i, .i, .i, .i, .i, .b, .i, .i, .s 24, .s 25, .s 26, .s 27, .i, .b, .s 28, .s 29, .s 30, .i, .s 28, .s 30]) 5 Tryz.underlying36 (by kernel_rfl) (hval 0 36 v0 rfl rfl) h0
  obtain ⟨z0, r00, rfl, y0, f0x1⟩ := fitT_i f0x0
  obtain ⟨z1, r01, rfl, y1, f0x2⟩ := fitT_i f0x1
  obtain ⟨z2, r02, rfl, y2, f0x3⟩ := fitT_i f0x2
  obtain ⟨z3, r03, rfl, y3, f0x4⟩ := fitT_i f0x3
  obtain ⟨z4, r04, rfl, y4, f0x5⟩ := fitT_i f0x4
  obtain ⟨z5, r05, rfl, y5, f0x6⟩ := fitT_i f0x5
  obtain ⟨z6, r06, rfl, y6, f0x7⟩ := fitT_i f0x6
  obtain ⟨z7, r07, rfl, f0x8⟩ := fitT_b f0x7
  obtain ⟨z8, r08, rfl, y8, f0x9⟩ := fitT_i f0x8
  obtain ⟨z9, r09, rfl, y9, f0x10⟩ := fitT_i f0x9
  obtain ⟨a10, l10, c10, d100, p100, r010, rfl, y10, f0x11⟩ := fitT_s f0x10
  obtain ⟨a11, l11, c11, d110, p110, r011, rfl, y11, f0x12⟩ := fitT_s f0x11
  obtain ⟨a12, l12, c12, d120, p120, r012, rfl, y12, f0x13⟩ := fitT_s f0x12
  obtain ⟨a13, l13, c13, d130, p130, r013, rfl, y13, f0x14⟩ := fitT_s f0x13
  obtain ⟨z14, r014, rfl, y14, f0x15⟩ := fitT_i f0x14
  obtain ⟨z15, r015, rfl, f0x16⟩ := fitT_b f0x15
  obtain ⟨a16, l16, c16, d160, p160, r016, rfl, y16, f0x17⟩ := fitT_s f0x16
  obtain ⟨a17, l17, c17, d170, p170, r017, rfl, y17, f0x18⟩ := fitT_s f0x17
  obtain ⟨a18, l18, c18, d180, p180, r018, rfl, y18, f0x19⟩ := fitT_s f0x18
  obtain ⟨z19, r019, rfl, y19, f0x20⟩ := fitT_i f0x19
  obtain ⟨a20, l20, c20, d200, p200, r020, rfl, y20, f0x21⟩ := fitT_s f0x20
  obtain ⟨a21, l21, c21, d210, p210, r021, rfl, y21, f0x22⟩ := fitT_s f0x21
  obtain rfl := fitT_nil f0x22
  clear f0x0 f0x1 f0x2 f0x3 f0x4 f0x5 f0x6 f0x7 f0x8 f0x9 f0x10 f0x11 f0x12 f0x13 f0x14 f0x15 f0x16 f0x17 f0x18 f0x19 f0x20 f0x21 f0x22
  obtain ⟨z10, q10, o10⟩ := openLg Tryz.underlying24 (by kernel_rfl) (by kernel_rfl) Tryz.underlying107 (by kernel_rfl) (by kernel_rfl) y10
  obtain ⟨z11, q11, o11⟩ := openSr Tryz.underlying25 (by kernel_rfl) (by kernel_rfl) y11
  obtain ⟨z12, q12, o12⟩ := openTk Tryz.underlying26 (by kernel_rfl) (by kernel_rfl) Tryz.underlying109 (by kernel_rfl) (by kernel_rfl) Tryz.underlying107 (by kernel_rfl) (by kernel_rfl) Tryz.underlying110 (by kernel_rfl) (by kernel_rfl) Tryz.underlying113 (by kernel_rfl) (by kernel_rfl) Tryz.underlying114 (by kernel_rfl) (by kernel_rfl) y12
  obtain ⟨z13, q13, o13⟩ := openSk Tryz.underlying27 (by kernel_rfl) (by kernel_rfl) Tryz.underlying120 (by kernel_rfl) (by kernel_rfl) Tryz.underlying113 (by kernel_rfl) (by kernel_rfl) Tryz.underlying114 (by kernel_rfl) (by kernel_rfl) Tryz.underlying113 (by kernel_rfl) (by kernel_rfl) Tryz.underlying114 (by kernel_rfl) (by kernel_rfl) y13
  obtain ⟨z16, q16, o16⟩ := openIn Tryz.underlying28 Tryz.underlying3 (by kernel_rfl) y16
  obtain ⟨z17, q17, o17⟩ := openBo Tryz.underlying29 Tryz.underlying4 (by kernel_rfl) y17
  obtain ⟨z18, q18, o18⟩ := openSn Tryz.underlying30 (by kernel_rfl) (by kernel_rfl) Tryz.underlying110 (by kernel_rfl) (by kernel_rfl) Tryz.underlying28 Tryz.underlying3 (by kernel_rfl) y18
  obtain ⟨z20, q20, o20⟩ := openIn Tryz.underlying28 Tryz.underlying3 (by kernel_rfl) y20
  obtain ⟨z21, q21, o21⟩ := openSn Tryz.underlying30 (by kernel_rfl) (by kernel_rfl) Tryz.underlying110 (by kernel_rfl) (by kernel_rfl) Tryz.underlying28 Tryz.underlying3 (by kernel_rfl) y21
  have fl0 : FlIs W 0 a10 l10 a11 l11 a12 l12 a13 l13 a16 l16 a17 l17 a18 l18 a20 l20 a21 l21 ⟨z0, z1, z2, z3, z4, z5, z6, z7, z8, z9, z10, z11, z12, z13, z14, z15, z16, z17, z18, z19, z20, z21⟩ := ⟨q10, ⟨q11, fun g9 _ _ _ => BG.zero _ g9⟩, q12, q13, ⟨q16, fun g9 _ _ _ => BG.zero _ g9⟩, ⟨q17, fun g9 _ _ _ => BG.zero _ g9⟩, q18, ⟨q20, fun g9 _ _ _ => BG.zero _ g9⟩, q21⟩
  clear hA0 hval0
  refine (lawFloRecs ⟨z0, z1, z2, z3, z4, z5, z6, z7, z8, z9, z10, z11, z12, z13, z14, z15, z16, z17, z18, z19, z20, z21⟩ a10 l10 c10 a11 l11 c11 a12 l12 c12 a13 l13 c13 a16 l16 c16 a17 l17 c17 a18 l18 c18 a20 l20 c20 a21 l21 c21 W fl0).mono fun e W' ⟨he, bel⟩ => ?_
  subst he
  exact ⟨_, rfl, _, _, _, [], _, [], hW', trodAll_mk1 (shut_bool Tryz.underlying4 _), (trodAll_cons_mk (Below.trod laidOut (by kernel_rfl) (of_decide_eq_true (by kernel_rfl)) k0 bel lt0) trodAll_mk0), rfl, bel.frame _, fun h => by cases h⟩

theorem over : Rows.fnExactFloRecsRow.holds Tryz.pinned (OpenSpec.ofChange Rows.fnExactFloRecsSpec) :=
  OpenClaim.holds_of_wide 5 Tryz.f5 rfl rfl rfl rfl rfl rfl rfl ⟨rfl, rfl, rfl, rfl, rfl⟩ rfl rfl rfl rfl rfl (by kernel_rfl) Tryz.func5 (by kernel_rfl)
    (of_decide_eq_true (by kernel_rfl)) (by unfold Func.isWrapper; rw [if_neg (of_decide_eq_false (by kernel_rfl))]; exact ⟨rfl, rfl⟩)
    (fun os started H enc _ => lifted os started H enc)

end Go.Proofs.YtealpjmannopeaaGreat.FnExactFloRecsP

namespace Go.Proofs.YtealpjmannopeaaGreat
/-- The statement. -/
theorem fnExactFloRecs_holds : Rows.FnExactFloRecsSaid := FnExactFloRecsP.over
end Go.Proofs.YtealpjmannopeaaGreat
