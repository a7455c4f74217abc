/- For every job the program writes the same lines as the specification, in memory of its own. The condition: the listed tables of the library, and the words of a job's lines, hold what the program itself lays there at its start (tied to its text). It stands over a pruned copy of the project: the packages that the law loads. -/
import Derived.Test.YtgccnmegbdlefaaDoorRows
import Derived.Test.YtgccnmegbdlefaaDoorGenA
import Derived.Test.YtgccnmegbdlefaaDoorGenF
import Derived.Test.YtgccnmegbdlefaaDoorJpL
import Derived.Test.YtgccnmegbdlefaaDoorJpG
import Derived.LaidMore
import Derived.LaidSub
import Derived.Stop.Joined
import Derived.SevenTiedAt
import Derived.Test.YtgccnmegbdlefaaDoorCards
import Derived.Test.YtgccnmegbdlefaaDoorTie
namespace Go.Proofs.YtgccnmegbdlefaaDoor.FnExactJobPrintP
open Go.Proofs.YtgccnmegbdlefaaDoor
open Go.ChangeShapes Go.WideShapes Go.ChangeAt Go.RowKit
open Go.ChangeMaps (open_string shut_string)
set_option linter.unusedVariables false

theorem own : ownKnob Tryd.prog.godebug = none := by kernel_rfl
theorem laidOut : laidOutB Tryd.prog = true := by kernel_rfl

theorem door_met (os : Os) (args : Array Value) : laidMetH Tryd.prog Rows.fnExactJobPrintRow.laid ((World.doorLaid Tryd.prog 400 os).forCall (fun _ _ => 0) ⟨#[], args, []⟩).memory :=
  laidMetH_of_parts3 (fuel := 8) (laidMet_of_run' 8 (by kernel_rfl) (by kernel_rfl)) (by kernel_rfl) (by kernel_rfl)

theorem tyPow : (Tryd.prog.globals[2]?).map (·.type) = some 111 := by kernel_rfl
theorem tab_of {W : World} {l : List (String × DataW Unit)} (h : laidMetH Tryd.prog l W) (hl : (l.filter fun x => x.1 == "internal/strconv.uint64pow10") = [("internal/strconv.uint64pow10", Lib.tabData .u64 Lib.pow10Tab)]) : Lib.TabIs Tryd.prog W "internal/strconv.uint64pow10" .u64 Lib.pow10Tab := by
  have h1 := h.filter (fun x => x.1 == "internal/strconv.uint64pow10")
  rw [hl, MakeChecks.laidMetH_plain _ _ _ (by kernel_rfl)] at h1
  exact Lib.tabIs_of_head gPow tyPow Tryd.underlying111 Tryd.underlying103 (by kernel_rfl) (by kernel_rfl) h1

set_option maxRecDepth 100000 in
theorem lifted (os : Os) (started : os.Started) (H : Type) (enc : TypeId × Value → H) :
    ReturnsInHanded {} Tryd.checked os 4 .any (fun w args => (Rows.fnExactJobPrintSpec.pre enc Tryd.prog Tryd.f4 [] false w args ∧ laidMetH Tryd.prog Rows.fnExactJobPrintRow.laid w) ∧ sizedMet enc Tryd.prog Tryd.f4 (OpenSpec.ofChange Rows.fnExactJobPrintSpec) false w args) (Rows.fnExactJobPrintSpec.post enc Tryd.prog Tryd.f4 false true false false) := by
  refine returnsInHanded_of_change_and (C := Tryd.checked) (X := fun w _ => laidMetH Tryd.prog Rows.fnExactJobPrintRow.laid w) (fun _ _ _ hh h => h.of_heap hh) own started (by kernel_rfl) Tryd.func4
    (ChangeSpec.witness_shaped (enc := enc) (C := Tryd.checked) (os := os) (X := fun w _ => laidMetH Tryd.prog Rows.fnExactJobPrintRow.laid w) false (World.doorLaid Tryd.prog 400 os) #[.agg #[.int .i64 0, .int .i64 0, .int .i64 0, .int .i64 0, .int .i64 0, .int .i64 0, .int .i64 0, .bool false, .int .i64 0, .int .i64 0]] 8 rfl (World.shaped_of_RefB (by kernel_rfl) (by kernel_rfl)) (by kernel_rfl) (by kernel_rfl) (by kernel_rfl) (door_met os _)) ?_
  intro W base args ds gs before hval0 hW hcnd hsz hL hsh
  have hval : ∀ (j : Nat) t v, Tryd.f4.params[j]? = some t → args[j]? = some v → Value.okWide Tryd.prog W .any base t v := hval0
  have hW' := hW
  obtain ⟨p, q, hA0, hV, rfl, hfz, hnd⟩ := hW
  have hA : DataW.TrodAll enc Tryd.prog W 0 (fun _ => true) true Tryd.f4.params.toList args.toList ds p := hA0
  rw [Tryd.params4] at hA hval
  obtain ⟨v0, vs0, d0, ds0, p0, q0, hargs, rfl, rfl, h0, r0⟩ := trodAll_cons hA
  obtain ⟨rfl, rfl, rfl⟩ := trodAll_nil r0
  obtain rfl : args = #[v0] := by cases args; simp_all
  have hV2 := hV
  obtain ⟨g8, t8, cs8, f8, d8, p8, rfl, hg8, ht8, hvar8, hd8, rfl⟩ := trodVars_one hV2
  have k0 := h0
  have lt0 : ∀ x ∈ p0, x.block < W.heap.size := by obtain ⟨m, hm⟩ := k0; exact DataW.trod_lt m _ _ _ hm
  obtain ⟨c0, rfl, f0x0⟩ := open_flat (ks := [false, false, false, false, false, false, false, true, false, false]) 5 Tryd.underlying34 (by kernel_rfl) (hval 0 34 v0 rfl rfl) h0
  obtain ⟨a00, r00, rfl, y00, f0x1⟩ := fits_int f0x0
  clear f0x0
  obtain ⟨a01, r01, rfl, y01, f0x2⟩ := fits_int f0x1
  clear f0x1
  obtain ⟨a02, r02, rfl, y02, f0x3⟩ := fits_int f0x2
  clear f0x2
  obtain ⟨a03, r03, rfl, y03, f0x4⟩ := fits_int f0x3
  clear f0x3
  obtain ⟨a04, r04, rfl, y04, f0x5⟩ := fits_int f0x4
  clear f0x4
  obtain ⟨a05, r05, rfl, y05, f0x6⟩ := fits_int f0x5
  clear f0x5
  obtain ⟨a06, r06, rfl, y06, f0x7⟩ := fits_int f0x6
  clear f0x6
  obtain ⟨a07, r07, rfl, f0x8⟩ := fits_bool f0x7
  clear f0x7
  obtain ⟨a08, r08, rfl, y08, f0x9⟩ := fits_int f0x8
  clear f0x8
  obtain ⟨a09, r09, rfl, y09, f0x10⟩ := fits_int f0x9
  clear f0x9
  obtain rfl := fits_nil f0x10
  have wa00 := bnd64 y00
  have wa01 := bnd64 y01
  have wa02 := bnd64 y02
  have wa03 := bnd64 y03
  have wa04 := bnd64 y04
  have wa05 := bnd64 y05
  have wa06 := bnd64 y06
  have wa08 := bnd64 y08
  have wa09 := bnd64 y09
  clear hA0 hval0
  refine (lawJobPrint a00 a01 a02 a03 a04 a05 a06 a07 a08 a09 W (words_of hL (by kernel_rfl)) (tab_of hL (by kernel_rfl))).mono fun e W' ⟨he, bel⟩ => ?_
  subst he
  exact ⟨_, rfl, _, _, _, [], _, _, hW', trodAll_mk1 (shut_bool Tryd.underlying4 _), (trodAll_cons_mk (Below.trod laidOut (by kernel_rfl) (of_decide_eq_true (by kernel_rfl)) k0 bel lt0) trodAll_mk0), (Below.trodVars laidOut bel (by kernel_rfl) hV), bel.frame _, fun h => by cases h⟩

theorem over : Rows.fnExactJobPrintRow.holds Tryd.pinned (OpenSpec.ofChange Rows.fnExactJobPrintSpec) :=
  OpenClaim.holds_of_wide 4 Tryd.f4 rfl rfl rfl rfl rfl rfl rfl ⟨rfl, rfl, rfl, rfl, rfl⟩ rfl rfl rfl rfl rfl (by kernel_rfl) Tryd.func4 (by kernel_rfl)
    (of_decide_eq_true (by kernel_rfl)) (by unfold Func.isWrapper; rw [if_neg (of_decide_eq_false (by kernel_rfl))]; exact ⟨rfl, rfl⟩)
    (fun os started H enc _ => lifted os started H enc)

end Go.Proofs.YtgccnmegbdlefaaDoor.FnExactJobPrintP

namespace Go.Proofs.YtgccnmegbdlefaaDoor
open Go
/-- The statement: the card. -/
theorem fnExactJobPrint_card : Rows.FnExactJobPrintCardSaid :=
  Claim7.holds_tied_plain_at .later [] [.data, .data, .data, .data] true (true, "14843145babb4b2265e9e6331dadd89783ea37d4a3e6eaa368667510c19c47ce") true
    FnExactJobPrintP.over (fun _ h => by cases h) (by kernel_rfl) (fun _ h => by cases h) fnExactJobPrint_row_tie rfl ⟨rfl, rfl⟩ (by kernel_rfl) rfl
    (fun f fn hf hfn => by
      obtain rfl : f = 4 := Option.some.inj ((show Tryd.prog.funcNamed Tryd.f4.name = some 4 by kernel_rfl).symm.trans hf) |>.symm
      obtain rfl : fn = Tryd.f4 := (Option.some.inj (Tryd.func4.symm.trans hfn)).symm
      exact ⟨by kernel_rfl, fun j t ht => by
        rw [Tryd.params4] at ht
        have hm : t ∈ [34] := by simpa using Array.mem_of_getElem? ht
        have hall : ([34].all fun u => !Tryd.prog.wantsStandIn u) = true := by kernel_rfl
        exact (show Tryd.prog.wantsStandIn t = false by simpa using List.all_eq_true.1 hall t hm)⟩)
    (by kernel_rfl)
end Go.Proofs.YtgccnmegbdlefaaDoor
