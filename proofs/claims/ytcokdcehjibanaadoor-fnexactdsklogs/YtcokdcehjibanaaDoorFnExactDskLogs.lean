/- For all lines (of more than 1048576 texts and letters the law itself lets them pass) the program reads the same logs as the specification, or tells the same line that is wrong; it writes into no argument, and its answer owns its memory. The condition: the listed tables and error values of the library hold what the program itself lays there at its start (tied to its text). It stands over a pruned copy of the project: the packages that the law loads. -/
import Derived.Test.YtcokdcehjibanaaDoorRows
import Derived.Test.YtcokdcehjibanaaDoorGenA
import Derived.Test.YtcokdcehjibanaaDoorLgL
import Derived.Test.YtcokdcehjibanaaDoorEnvOf
import Derived.LaidMore
import Derived.LaidSub
import Derived.Stop.Joined
import Derived.SevenTiedAt
import Derived.Lay
import Derived.Test.YtcokdcehjibanaaDoorCards
import Derived.Test.YtcokdcehjibanaaDoorTie
namespace Go.Proofs.YtcokdcehjibanaaDoor.FnExactDskLogsP
open Go.Proofs.YtcokdcehjibanaaDoor
open Go.ChangeShapes Go.WideShapes Go.ChangeAt Go.RowKit
open Go.ChangeMaps (open_string shut_string)
set_option linter.unusedVariables false

theorem own : ownKnob Tryd.prog.godebug = none := by kernel_rfl
theorem laidOut : laidOutB Tryd.prog = true := by kernel_rfl

theorem door_met (os : Os) (args : Array Value) : laidMetH Tryd.prog Rows.fnExactDskLogsRow.laid ((World.laidAll Tryd.prog os Rows.fnExactDskLogsRow.laid).forCall (fun _ _ => 0) ⟨#[], args, []⟩).memory :=
  by rw [MakeChecks.laidMetH_plain _ _ _ (by kernel_rfl)]; exact laidMet_laidAll _ (by kernel_rfl) (by kernel_rfl)

theorem env_of {W : World} (h : laidMetH Tryd.prog Rows.fnExactDskLogsRow.laid W) (hs : W.ShapedOpen Tryd.prog) : ∃ tp1 tp2 p1 p2 m, Env tp1 tp2 p1 p2 m W := by
  obtain ⟨a, ha⟩ := sent_of [105, 110, 118, 97, 108, 105, 100, 32, 115, 121, 110, 116, 97, 120] gES tyES h (by kernel_rfl) (by kernel_rfl)
  obtain ⟨b, hb⟩ := sent_of [118, 97, 108, 117, 101, 32, 111, 117, 116, 32, 111, 102, 32, 114, 97, 110, 103, 101] gER tyER h (by kernel_rfl) (by kernel_rfl)
  obtain ⟨m, hm⟩ := maxlen_of hs
  exact ⟨_, _, _, _, m, tab_of h (by kernel_rfl), ha, hb, hm, lt_of_cell hm⟩

set_option maxRecDepth 100000 in
theorem lifted (os : Os) (started : os.Started) (H : Type) (enc : TypeId × Value → H) :
    ReturnsInHanded {} Tryd.checked os 3 .any (fun w args => (Rows.fnExactDskLogsSpec.pre enc Tryd.prog Tryd.f3 [] false w args ∧ laidMetH Tryd.prog Rows.fnExactDskLogsRow.laid w) ∧ sizedMet enc Tryd.prog Tryd.f3 (OpenSpec.ofChange Rows.fnExactDskLogsSpec) false w args) (Rows.fnExactDskLogsSpec.post enc Tryd.prog Tryd.f3 false true false false) := by
  refine handed_shaped (C := Tryd.checked) own started (by kernel_rfl) Tryd.func3
    (ChangeSpec.witness_shaped (enc := enc) (C := Tryd.checked) (os := os) (X := fun w _ => laidMetH Tryd.prog Rows.fnExactDskLogsRow.laid w) false (World.laidAll Tryd.prog os Rows.fnExactDskLogsRow.laid) #[.slice none 0 0] 8 (World.laidAll_os _ _ _) (World.shaped_of_ZipB (by kernel_rfl) (by kernel_rfl)) (by kernel_rfl) (by kernel_rfl) (by kernel_rfl) (door_met os _)) ?_
  intro W base args ds gs before hval0 hW hL hsh
  obtain ⟨tp1, tp2, p1, p2, m, hE⟩ := env_of hL hsh
  have hval : ∀ (j : Nat) t v, Tryd.f3.params[j]? = some t → args[j]? = some v → Value.okWide Tryd.prog W .any base t v := hval0
  have hW' := hW
  obtain ⟨p, q, hA0, hV, rfl, hfz, hnd⟩ := hW
  have hA : DataW.TrodAll enc Tryd.prog W 0 (fun _ => true) true Tryd.f3.params.toList args.toList ds p := hA0
  rw [Tryd.params3] at hA hval
  obtain ⟨v0, vs0, d0, ds0, p0, q0, hargs, rfl, rfl, h0, r0⟩ := trodAll_cons hA
  obtain ⟨rfl, rfl, rfl⟩ := trodAll_nil r0
  obtain rfl : args = #[v0] := by cases args; simp_all
  obtain ⟨rfl, rfl⟩ := trodVars_none hV

  have k0 := h0
  have lt0 : ∀ x ∈ p0, x.block < W.heap.size := by obtain ⟨m, hm⟩ := k0; exact DataW.trod_lt m _ _ _ hm
  obtain ⟨a0, len0, cap0, rfl⟩ := okWide_slice Tryd.underlying22 (hval 0 22 v0 rfl rfl)
  obtain ⟨z0, w0, ok0⟩ := openSt Tryd.underlying22 (by kernel_rfl) (by kernel_rfl) h0

  clear hA0 hval0
  refine (lawDskLogs a0 len0 cap0 z0 W w0 ok0 hE).mono fun e W' ⟨he, bel⟩ => ?_
  subst he
  exact ⟨_, rfl, _, _, _, [], _, [], hW', trodAll_mk1 (shut_bool Tryd.underlying4 _), (trodAll_cons_mk (Below.trod laidOut (by kernel_rfl) (of_decide_eq_true (by kernel_rfl)) k0 bel lt0) trodAll_mk0), rfl, bel.frame _, fun h => by cases h⟩

theorem over : Rows.fnExactDskLogsRow.holds Tryd.pinned (OpenSpec.ofChange Rows.fnExactDskLogsSpec) :=
  OpenClaim.holds_of_wide 3 Tryd.f3 rfl rfl rfl rfl rfl rfl rfl ⟨rfl, rfl, rfl, rfl, rfl⟩ rfl rfl rfl rfl rfl (by kernel_rfl) Tryd.func3 (by kernel_rfl)
    (of_decide_eq_true (by kernel_rfl)) (by unfold Func.isWrapper; rw [if_neg (of_decide_eq_false (by kernel_rfl))]; exact ⟨rfl, rfl⟩)
    (fun os started H enc _ => lifted os started H enc)

end Go.Proofs.YtcokdcehjibanaaDoor.FnExactDskLogsP

namespace Go.Proofs.YtcokdcehjibanaaDoor
open Go
/-- The statement: the card. -/
theorem fnExactDskLogs_card : Rows.FnExactDskLogsCardSaid :=
  Claim7.holds_tied_plain_at .later [] [.data, .data, .data, .data, .sentinel, .sentinel, .pinned] true (true, "e11a0ae4803aa36b86110a3a0d2a601e617bf57012e9fbec492272150effb5dc") true
    FnExactDskLogsP.over (fun _ h => by cases h) (by kernel_rfl) (fun _ h => by cases h) fnExactDskLogs_row_tie rfl ⟨rfl, rfl⟩ (by kernel_rfl) rfl
    (fun f fn hf hfn => by
      obtain rfl : f = 3 := Option.some.inj ((show Tryd.prog.funcNamed Tryd.f3.name = some 3 by kernel_rfl).symm.trans hf) |>.symm
      obtain rfl : fn = Tryd.f3 := (Option.some.inj (Tryd.func3.symm.trans hfn)).symm
      exact ⟨by kernel_rfl, fun j t ht => by
        rw [Tryd.params3] at ht
        have hm : t ∈ [22] := by simpa using Array.mem_of_getElem? ht
        have hall : ([22].all fun u => !Tryd.prog.wantsStandIn u) = true := by kernel_rfl
        exact (show Tryd.prog.wantsStandIn t = false by simpa using List.all_eq_true.1 hall t hm)⟩)
    (by kernel_rfl)
end Go.Proofs.YtcokdcehjibanaaDoor
