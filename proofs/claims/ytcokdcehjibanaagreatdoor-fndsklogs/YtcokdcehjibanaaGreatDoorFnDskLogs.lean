/- At every two codes the lines of the logs that are drawn of them are as the law says: logs that are ok are read from their lines; lines that are read are what is written of what was read; the line that is told is the first that is wrong. The condition: the listed tables and error values of the library hold what the program itself lays there at its start (tied to its text). It stands over a pruned copy of the project: the packages that the law loads. -/
import Derived.Test.YtcokdcehjibanaaGreatDoorRows
import Derived.Test.YtcokdcehjibanaaGreatDoorGenA
import Derived.Test.YtcokdcehjibanaaGreatDoorPkA0
import Derived.Test.YtcokdcehjibanaaGreatDoorPkA4
import Derived.Test.YtcokdcehjibanaaGreatDoorEnvOf
import Derived.LaidMore
import Derived.LaidSub
import Derived.Stop.Joined
import Derived.SevenTiedAt
import Derived.Lay
import Derived.Test.YtcokdcehjibanaaGreatDoorCards
import Derived.Test.YtcokdcehjibanaaGreatDoorTie
namespace Go.Proofs.YtcokdcehjibanaaGreatDoor.FnDskLogsP
open Go.Proofs.YtcokdcehjibanaaGreatDoor
open Go.ChangeShapes Go.WideShapes Go.ChangeAt Go.RowKit
open Go.ChangeMaps (open_string shut_string)
set_option linter.unusedVariables false

theorem own : ownKnob Tryz.prog.godebug = none := by kernel_rfl
theorem laidOut : laidOutB Tryz.prog = true := by kernel_rfl

theorem door_met (os : Os) (args : Array Value) : laidMetH Tryz.prog Rows.fnDskLogsRow.laid ((World.laidAll Tryz.prog os Rows.fnDskLogsRow.laid).forCall (fun _ _ => 0) ⟨#[], args, []⟩).memory :=
  by rw [MakeChecks.laidMetH_plain _ _ _ (by kernel_rfl)]; exact laidMet_laidAll _ (by kernel_rfl) (by kernel_rfl)

theorem env_of {W : World} (h : laidMetH Tryz.prog Rows.fnDskLogsRow.laid W) (hs : W.ShapedOpen Tryz.prog) : ∃ tp1 tp2 p1 p2 m, Env tp1 tp2 p1 p2 m W := by
  obtain ⟨a, ha⟩ := sent_of [105, 110, 118, 97, 108, 105, 100, 32, 115, 121, 110, 116, 97, 120] gES tyES h (by kernel_rfl) (by kernel_rfl)
  obtain ⟨b, hb⟩ := sent_of [118, 97, 108, 117, 101, 32, 111, 117, 116, 32, 111, 102, 32, 114, 97, 110, 103, 101] gER tyER h (by kernel_rfl) (by kernel_rfl)
  obtain ⟨m, hm⟩ := maxlen_of hs
  exact ⟨_, _, _, _, m, tab_of h (by kernel_rfl), ha, hb, hm, lt_of_cell hm⟩

set_option maxRecDepth 100000 in
theorem lifted (os : Os) (started : os.Started) (H : Type) (enc : TypeId × Value → H) :
    ReturnsInHanded {} Tryz.checked os 3 .any (fun w args => (Rows.fnDskLogsSpec.pre enc Tryz.prog Tryz.f3 [] false w args ∧ laidMetH Tryz.prog Rows.fnDskLogsRow.laid w) ∧ sizedMet enc Tryz.prog Tryz.f3 (OpenSpec.ofChange Rows.fnDskLogsSpec) false w args) (Rows.fnDskLogsSpec.post enc Tryz.prog Tryz.f3 false true false false) := by
  refine handed_shaped (C := Tryz.checked) own started (by kernel_rfl) Tryz.func3
    (ChangeSpec.witness_shaped (enc := enc) (C := Tryz.checked) (os := os) (X := fun w _ => laidMetH Tryz.prog Rows.fnDskLogsRow.laid w) false (World.laidAll Tryz.prog os Rows.fnDskLogsRow.laid) #[.slice none 0 0, .slice none 0 0] 8 (World.laidAll_os _ _ _) (World.shaped_of_ZipB (by kernel_rfl) (by kernel_rfl)) (by kernel_rfl) (by kernel_rfl) (by kernel_rfl) (door_met os _)) ?_
  intro W base args ds gs before hval0 hW hL hsh
  obtain ⟨tp1, tp2, p1, p2, m, hE⟩ := env_of hL hsh
  have hval : ∀ (j : Nat) t v, Tryz.f3.params[j]? = some t → args[j]? = some v → Value.okWide Tryz.prog W .any base t v := hval0
  have hW' := hW
  obtain ⟨p, q, hA0, hV, rfl, hfz, hnd⟩ := hW
  have hA : DataW.TrodAll enc Tryz.prog W 0 (fun _ => true) true Tryz.f3.params.toList args.toList ds p := hA0
  rw [Tryz.params3] at hA hval
  obtain ⟨v0, vs0, d0, ds0, p0, q0, hargs, rfl, rfl, h0, r0⟩ := trodAll_cons hA
  obtain ⟨v1, vs1, d1, ds1, p1, q1, rfl, rfl, rfl, h1, r1⟩ := trodAll_cons r0
  obtain ⟨rfl, rfl, rfl⟩ := trodAll_nil r1
  obtain rfl : args = #[v0, v1] := by cases args; simp_all
  obtain ⟨rfl, rfl⟩ := trodVars_none hV
  have k0 := h0
  have lt0 : ∀ x ∈ p0, x.block < W.heap.size := by obtain ⟨m, hm⟩ := k0; exact DataW.trod_lt m _ _ _ hm
  have k1 := h1
  have lt1 : ∀ x ∈ p1, x.block < W.heap.size := by obtain ⟨m, hm⟩ := k1; exact DataW.trod_lt m _ _ _ hm
  obtain ⟨a0, len0, cap0, rfl⟩ := okWide_slice Tryz.underlying22 (hval 0 22 v0 rfl rfl)
  obtain ⟨x01, x02, x03, x04, x05⟩ := open_bytes Tryz.underlying22 Tryz.underlying5 (by kernel_rfl) h0
  obtain ⟨a1, len1, cap1, rfl⟩ := okWide_slice Tryz.underlying22 (hval 1 22 v1 rfl rfl)
  obtain ⟨x11, x12, x13, x14, x15⟩ := open_bytes Tryz.underlying22 Tryz.underlying5 (by kernel_rfl) h1

  clear hA0 hval0
  refine (lawDskLogs2 a0 len0 cap0 a1 len1 cap1 W x01 x02 x03 x04 x05 x11 x12 x13 x14 x15 hE).mono fun e W' ⟨he, bel⟩ => ?_
  subst he
  exact ⟨_, rfl, _, _, _, [], _, [], hW', trodAll_mk1 (shut_bool Tryz.underlying4 _), (trodAll_cons_mk (Below.trod laidOut (by kernel_rfl) (of_decide_eq_true (by kernel_rfl)) k0 bel lt0) (trodAll_cons_mk (Below.trod laidOut (by kernel_rfl) (of_decide_eq_true (by kernel_rfl)) k1 bel lt1) trodAll_mk0)), rfl, bel.frame _, fun h => by cases h⟩

theorem over : Rows.fnDskLogsRow.holds Tryz.pinned (OpenSpec.ofChange Rows.fnDskLogsSpec) :=
  OpenClaim.holds_of_wide 3 Tryz.f3 rfl rfl rfl rfl rfl rfl rfl ⟨rfl, rfl, rfl, rfl, rfl⟩ rfl rfl rfl rfl rfl (by kernel_rfl) Tryz.func3 (by kernel_rfl)
    (of_decide_eq_true (by kernel_rfl)) (by unfold Func.isWrapper; rw [if_neg (of_decide_eq_false (by kernel_rfl))]; exact ⟨rfl, rfl⟩)
    (fun os started H enc _ => lifted os started H enc)

end Go.Proofs.YtcokdcehjibanaaGreatDoor.FnDskLogsP

namespace Go.Proofs.YtcokdcehjibanaaGreatDoor
open Go
/-- The statement: the card. -/
theorem fnDskLogs_card : Rows.FnDskLogsCardSaid :=
  Claim7.holds_tied_plain_at .later [] [.data, .data, .data, .data, .sentinel, .sentinel, .pinned] true (true, "38bf0151c27c18d3a841ded898ffcb79c4d237a8e5b820f8eb841fa7ff08d2b8") true
    FnDskLogsP.over (fun _ h => by cases h) (by kernel_rfl) (fun _ h => by cases h) fnDskLogs_row_tie rfl ⟨rfl, rfl⟩ (by kernel_rfl) rfl
    (fun f fn hf hfn => by
      obtain rfl : f = 3 := Option.some.inj ((show Tryz.prog.funcNamed Tryz.f3.name = some 3 by kernel_rfl).symm.trans hf) |>.symm
      obtain rfl : fn = Tryz.f3 := (Option.some.inj (Tryz.func3.symm.trans hfn)).symm
      exact ⟨by kernel_rfl, fun j t ht => by
        rw [Tryz.params3] at ht
        have hm : t ∈ [22, 22] := by simpa using Array.mem_of_getElem? ht
        have hall : ([22, 22].all fun u => !Tryz.prog.wantsStandIn u) = true := by kernel_rfl
        exact (show Tryz.prog.wantsStandIn t = false by simpa using List.all_eq_true.1 hall t hm)⟩)
    (by kernel_rfl)
end Go.Proofs.YtcokdcehjibanaaGreatDoor
