/- For every job and all checkpoints the program makes the one under way safe just as the specification does, and says so, in memory of its own, and writes into no argument. No condition. -/
import Derived.Test.YtbjhpiannjepkaaGreatRows
import Derived.Test.YtbjhpiannjepkaaGreatPsBase
import Derived.Test.YtbjhpiannjepkaaGreatPsCkpGS
namespace Go.Proofs.YtbjhpiannjepkaaGreat.FnExactCkpSaveP
open Go.Proofs.YtbjhpiannjepkaaGreat
open Go.ChangeShapes Go.WideShapes Go.ChangeAt Go.RowKit
open Go.ChangeMaps (open_string shut_string)
set_option linter.unusedVariables false

theorem own : ownKnob Tryz.prog.godebug = none := by kernel_rfl
theorem laidOut : laidOutB Tryz.prog = true := by kernel_rfl

set_option maxRecDepth 100000 in
theorem lifted (os : Os) (started : os.Started) (H : Type) (enc : TypeId × Value → H) :
    ReturnsInHanded {} Tryz.checked os 3 .any (Rows.fnExactCkpSaveSpec.pre6 enc Tryz.prog Tryz.f3 Rows.fnExactCkpSaveRow.domain false) (Rows.fnExactCkpSaveSpec.post enc Tryz.prog Tryz.f3 false true false false) := by
  refine returnsInHanded_of_change (C := Tryz.checked) own started (by kernel_rfl) Tryz.func3
    (ChangeSpec.witness6 (enc := enc) (C := Tryz.checked) false ⟨#[], #[.agg #[.int .i64 0, .int .i64 0, .int .i64 0, .int .i64 0, .int .i64 0, .int .i64 0, .int .i64 0, .bool false, .int .i64 0, .int .i64 0], .agg #[.int .i64 0, .bool false, .slice none 0 0, .slice none 0 0, .slice none 0 0, .int .i64 0, .slice none 0 0, .slice none 0 0]], []⟩ 8 (by kernel_rfl) (by kernel_rfl) (by kernel_rfl) (by kernel_rfl)) ?_
  intro W base args ds gs before hval0 hW hcnd hsz
  have hval : ∀ (j : Nat) t v, Tryz.f3.params[j]? = some t → args[j]? = some v → Value.okWide Tryz.prog W .any base t v := hval0
  have hW' := hW
  obtain ⟨p, q, hA0, hV, rfl, hfz, hnd⟩ := hW
  have hA : DataW.TrodAll enc Tryz.prog W 0 (fun _ => true) true Tryz.f3.params.toList args.toList ds p := hA0
  rw [Tryz.params3] at hA hval
  obtain ⟨v0, vs0, d0, ds0, p0, q0, hargs, rfl, rfl, h0, r0⟩ := trodAll_cons hA
  obtain ⟨v1, vs1, d1, ds1, p1, q1, rfl, rfl, rfl, h1, r1⟩ := trodAll_cons r0
  obtain ⟨rfl, rfl, rfl⟩ := trodAll_nil r1
  obtain rfl : args = #[v0, v1] := by cases args; simp_all
  obtain ⟨rfl, rfl⟩ := trodVars_none hV
  have k0 := h0
  have lt0 : ∀ x ∈ p0, x.block < W.heap.size := by obtain ⟨m, hm⟩ := k0; exact DataW.trod_lt m _ _ _ hm
  have k1 := h1
  have lt1 : ∀ x ∈ p1, x.block < W.heap.size := by obtain ⟨m, hm⟩ := k1; exact DataW.trod_lt m _ _ _ hm
  obtain ⟨c0, rfl, f0x0⟩ := open_flat (ks := [false, false, false, false, false, false, false, true, false, false]) 5 Tryz.underlying23 (by kernel_rfl) (hval 0 23 v0 rfl rfl) h0
  obtain ⟨a00, r00, rfl, y00, f0x1⟩ := fits_int f0x0
  clear f0x0
  obtain ⟨a01, r01, rfl, y01, f0x2⟩ := fits_int f0x1
  clear f0x1
  obtain ⟨a02, r02, rfl, y02, f0x3⟩ := fits_int f0x2
  clear f0x2
  obtain ⟨a03, r03, rfl, y03, f0x4⟩ := fits_int f0x3
  clear f0x3
  obtain ⟨a04, r04, rfl, y04, f0x5⟩ := fits_int f0x4
  clear f0x4
  obtain ⟨a05, r05, rfl, y05, f0x6⟩ := fits_int f0x5
  clear f0x5
  obtain ⟨a06, r06, rfl, y06, f0x7⟩ := fits_int f0x6
  clear f0x6
  obtain ⟨a07, r07, rfl, f0x8⟩ := fits_bool f0x7
  clear f0x7
  obtain ⟨a08, r08, rfl, y08, f0x9⟩ := fits_int f0x8
  clear f0x8
  obtain ⟨a09, r09, rfl, y09, f0x10⟩ := fits_int f0x9
  clear f0x9
  obtain rfl := fits_nil f0x10
  obtain ⟨cs1, rfl, f1x0⟩ := open_flatT (ks := [.i, .b, .s 24, .s 25, .s 26, .i, .s 24, .s 26]) 5 Tryz.underlying30 (by kernel_rfl) (hval 1 30 v1 rfl rfl) h1
  obtain ⟨xn, r10, rfl, y10, f1x1⟩ := fitT_i f1x0
  obtain ⟨xop, r11, rfl, f1x2⟩ := fitT_b f1x1
  obtain ⟨a2, l2, c2, d21, p21, r12, rfl, y12, f1x3⟩ := fitT_s f1x2
  obtain ⟨a3, l3, c3, d31, p31, r13, rfl, y13, f1x4⟩ := fitT_s f1x3
  obtain ⟨a4, l4, c4, d41, p41, r14, rfl, y14, f1x5⟩ := fitT_s f1x4
  obtain ⟨xsfn, r15, rfl, y15, f1x6⟩ := fitT_i f1x5
  obtain ⟨a6, l6, c6, d61, p61, r16, rfl, y16, f1x7⟩ := fitT_s f1x6
  obtain ⟨a7, l7, c7, d71, p71, r17, rfl, y17, f1x8⟩ := fitT_s f1x7
  obtain rfl := fitT_nil f1x8
  clear f1x0 f1x1 f1x2 f1x3 f1x4 f1x5 f1x6 f1x7 f1x8
  obtain ⟨xsrc, q2, o2⟩ := openIn Tryz.underlying24 Tryz.underlying3 (by kernel_rfl) y12
  obtain ⟨xtsk, q3, o3⟩ := openBo Tryz.underlying25 Tryz.underlying4 (by kernel_rfl) y13
  obtain ⟨xsn, q4, o4⟩ := openSn Tryz.underlying26 (by kernel_rfl) (by kernel_rfl) Tryz.underlying68 (by kernel_rfl) (by kernel_rfl) Tryz.underlying24 Tryz.underlying3 (by kernel_rfl) y14
  obtain ⟨xat, q6, o6⟩ := openIn Tryz.underlying24 Tryz.underlying3 (by kernel_rfl) y16
  obtain ⟨xssn, q7, o7⟩ := openSn Tryz.underlying26 (by kernel_rfl) (by kernel_rfl) Tryz.underlying68 (by kernel_rfl) (by kernel_rfl) Tryz.underlying24 Tryz.underlying3 (by kernel_rfl) y17
  have ck1 : CkIs W 0 a2 l2 a3 l3 a4 l4 a6 l6 a7 l7 ⟨xn, xop, xsrc, xtsk, xsn, xsfn, xat, xssn⟩ := ⟨⟨q2, fun _ _ _ _ => Nat.zero_le _⟩, ⟨q3, fun _ _ _ _ => Nat.zero_le _⟩, q4, ⟨q6, fun _ _ _ _ => Nat.zero_le _⟩, q7⟩
  have wa00 := bnd64 y00
  have wa01 := bnd64 y01
  have wa02 := bnd64 y02
  have wa03 := bnd64 y03
  have wa04 := bnd64 y04
  have wa05 := bnd64 y05
  have wa06 := bnd64 y06
  have wa08 := bnd64 y08
  have wa09 := bnd64 y09
  clear hA0 hval0
  refine (lawCkpSave a00 a01 a02 a03 a04 a05 a06 a07 a08 a09 ⟨xn, xop, xsrc, xtsk, xsn, xsfn, xat, xssn⟩ a2 l2 c2 a3 l3 c3 a4 l4 c4 a6 l6 c6 a7 l7 c7 W ck1).mono fun e W' ⟨he, bel⟩ => ?_
  subst he
  exact ⟨_, rfl, _, _, _, [], _, [], hW', trodAll_mk1 (shut_bool Tryz.underlying4 _), (trodAll_cons_mk (Below.trod laidOut (by kernel_rfl) (of_decide_eq_true (by kernel_rfl)) k0 bel lt0) (trodAll_cons_mk (Below.trod laidOut (by kernel_rfl) (of_decide_eq_true (by kernel_rfl)) k1 bel lt1) trodAll_mk0)), rfl, bel.frame _, fun h => by cases h⟩

theorem over : Rows.fnExactCkpSaveRow.holds Tryz.pinned (OpenSpec.ofChange Rows.fnExactCkpSaveSpec) :=
  OpenClaim.holds_of_wide 3 Tryz.f3 rfl rfl rfl rfl rfl rfl rfl ⟨rfl, rfl, rfl, rfl, rfl⟩ rfl rfl rfl rfl rfl (by kernel_rfl) Tryz.func3 (by kernel_rfl)
    (of_decide_eq_true (by kernel_rfl)) (by unfold Func.isWrapper; rw [if_neg (of_decide_eq_false (by kernel_rfl))]; exact ⟨rfl, rfl⟩)
    (fun os started H enc _ => lifted os started H enc)

end Go.Proofs.YtbjhpiannjepkaaGreat.FnExactCkpSaveP

namespace Go.Proofs.YtbjhpiannjepkaaGreat
/-- The statement. -/
theorem fnExactCkpSave_holds : Rows.FnExactCkpSaveSaid := FnExactCkpSaveP.over
end Go.Proofs.YtbjhpiannjepkaaGreat
