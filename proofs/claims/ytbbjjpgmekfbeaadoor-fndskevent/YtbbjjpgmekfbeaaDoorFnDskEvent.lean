/- At every code the line that is drawn of it is read as the document says; with three numbers more behind it it is read as nothing. The condition: the listed tables and error values of the library hold what the program itself lays there at its start (tied to its text). It stands over a pruned copy of the project: the packages that the law loads. -/
import Derived.Test.YtbbjjpgmekfbeaaDoorRows
import Derived.Test.YtbbjjpgmekfbeaaDoorGenA
import Derived.Test.YtbbjjpgmekfbeaaDoorGenC
import Derived.Test.YtbbjjpgmekfbeaaDoorDskP
import Derived.Test.YtbbjjpgmekfbeaaDoorEnvOf
import Derived.LaidMore
import Derived.LaidSub
import Derived.Stop.Joined
import Derived.SevenTiedAt
import Derived.Lay
import Derived.Test.YtbbjjpgmekfbeaaDoorCards
import Derived.Test.YtbbjjpgmekfbeaaDoorTie
namespace Go.Proofs.YtbbjjpgmekfbeaaDoor.FnDskEventP
open Go.Proofs.YtbbjjpgmekfbeaaDoor
open Go.ChangeShapes Go.WideShapes Go.ChangeAt Go.RowKit
open Go.ChangeMaps (open_string shut_string)
set_option linter.unusedVariables false

theorem own : ownKnob Tryd.prog.godebug = none := by kernel_rfl
theorem laidOut : laidOutB Tryd.prog = true := by kernel_rfl

theorem door_met (os : Os) (args : Array Value) : laidMetH Tryd.prog Rows.fnDskEventRow.laid ((World.laidAll Tryd.prog os Rows.fnDskEventRow.laid).forCall (fun _ _ => 0) ⟨#[], args, []⟩).memory :=
  by rw [MakeChecks.laidMetH_plain _ _ _ (by kernel_rfl)]; exact laidMet_laidAll _ (by kernel_rfl) (by kernel_rfl)

theorem env_of {W : World} (h : laidMetH Tryd.prog Rows.fnDskEventRow.laid W) (hs : W.ShapedOpen Tryd.prog) : ∃ tp1 tp2 p1 p2 m, Env tp1 tp2 p1 p2 m W := by
  obtain ⟨a, ha⟩ := sent_of [105, 110, 118, 97, 108, 105, 100, 32, 115, 121, 110, 116, 97, 120] gES tyES h (by kernel_rfl) (by kernel_rfl)
  obtain ⟨b, hb⟩ := sent_of [118, 97, 108, 117, 101, 32, 111, 117, 116, 32, 111, 102, 32, 114, 97, 110, 103, 101] gER tyER h (by kernel_rfl) (by kernel_rfl)
  obtain ⟨m, hm⟩ := maxlen_of hs
  exact ⟨_, _, _, _, m, tab_of h (by kernel_rfl), ha, hb, hm, lt_of_cell hm⟩

set_option maxRecDepth 100000 in
theorem lifted (os : Os) (started : os.Started) (H : Type) (enc : TypeId × Value → H) :
    ReturnsInHanded {} Tryd.checked os 5 .any (fun w args => (Rows.fnDskEventSpec.pre enc Tryd.prog Tryd.f5 [] false w args ∧ laidMetH Tryd.prog Rows.fnDskEventRow.laid w) ∧ sizedMet enc Tryd.prog Tryd.f5 (OpenSpec.ofChange Rows.fnDskEventSpec) false w args) (Rows.fnDskEventSpec.post enc Tryd.prog Tryd.f5 false true false false) := by
  refine handed_shaped (C := Tryd.checked) own started (by kernel_rfl) Tryd.func5
    (ChangeSpec.witness_shaped (enc := enc) (C := Tryd.checked) (os := os) (X := fun w _ => laidMetH Tryd.prog Rows.fnDskEventRow.laid w) false (World.laidAll Tryd.prog os Rows.fnDskEventRow.laid) #[.slice none 0 0] 8 (World.laidAll_os _ _ _) (World.shaped_of_ZipB (by kernel_rfl) (by kernel_rfl)) (by kernel_rfl) (by kernel_rfl) (by kernel_rfl) (door_met os _)) ?_
  intro W base args ds gs before hval0 hW hL hsh
  obtain ⟨tp1, tp2, p1, p2, m, hE⟩ := env_of hL hsh
  have hval : ∀ (j : Nat) t v, Tryd.f5.params[j]? = some t → args[j]? = some v → Value.okWide Tryd.prog W .any base t v := hval0
  have hW' := hW
  obtain ⟨p, q, hA0, hV, rfl, hfz, hnd⟩ := hW
  have hA : DataW.TrodAll enc Tryd.prog W 0 (fun _ => true) true Tryd.f5.params.toList args.toList ds p := hA0
  rw [Tryd.params5] at hA hval
  obtain ⟨v0, vs0, d0, ds0, p0, q0, hargs, rfl, rfl, h0, r0⟩ := trodAll_cons hA
  obtain ⟨rfl, rfl, rfl⟩ := trodAll_nil r0
  obtain rfl : args = #[v0] := by cases args; simp_all
  obtain ⟨rfl, rfl⟩ := trodVars_none hV
  have k0 := h0
  have lt0 : ∀ x ∈ p0, x.block < W.heap.size := by obtain ⟨m, hm⟩ := k0; exact DataW.trod_lt m _ _ _ hm
  obtain ⟨a0, len0, cap0, rfl⟩ := okWide_slice Tryd.underlying33 (hval 0 33 v0 rfl rfl)
  obtain ⟨x01, x02, x03, x04, x05⟩ := open_bytes Tryd.underlying33 Tryd.underlying5 (by kernel_rfl) h0

  clear hA0 hval0
  refine (lawDskEventP a0 len0 cap0 W x01 x02 x03 x04 x05 hE).mono fun e W' ⟨he, bel⟩ => ?_
  subst he
  exact ⟨_, rfl, _, _, _, [], _, [], hW', trodAll_mk1 (shut_bool Tryd.underlying4 _), (trodAll_cons_mk (Below.trod laidOut (by kernel_rfl) (of_decide_eq_true (by kernel_rfl)) k0 bel lt0) trodAll_mk0), rfl, bel.frame _, fun h => by cases h⟩

theorem over : Rows.fnDskEventRow.holds Tryd.pinned (OpenSpec.ofChange Rows.fnDskEventSpec) :=
  OpenClaim.holds_of_wide 5 Tryd.f5 rfl rfl rfl rfl rfl rfl rfl ⟨rfl, rfl, rfl, rfl, rfl⟩ rfl rfl rfl rfl rfl (by kernel_rfl) Tryd.func5 (by kernel_rfl)
    (of_decide_eq_true (by kernel_rfl)) (by unfold Func.isWrapper; rw [if_neg (of_decide_eq_false (by kernel_rfl))]; exact ⟨rfl, rfl⟩)
    (fun os started H enc _ => lifted os started H enc)

end Go.Proofs.YtbbjjpgmekfbeaaDoor.FnDskEventP

namespace Go.Proofs.YtbbjjpgmekfbeaaDoor
open Go
/-- The statement: the card. -/
theorem fnDskEvent_card : Rows.FnDskEventCardSaid :=
  Claim7.holds_tied_plain_at .later [] [.data, .data, .data, .data, .sentinel, .sentinel, .pinned] true (true, "a1618eee6ea623a2c5488084787b9ea8c2a2272c72cfd3d7652cd7c141ae4482") true
    FnDskEventP.over (fun _ h => by cases h) (by kernel_rfl) (fun _ h => by cases h) fnDskEvent_row_tie rfl ⟨rfl, rfl⟩ (by kernel_rfl) rfl
    (fun f fn hf hfn => by
      obtain rfl : f = 5 := Option.some.inj ((show Tryd.prog.funcNamed Tryd.f5.name = some 5 by kernel_rfl).symm.trans hf) |>.symm
      obtain rfl : fn = Tryd.f5 := (Option.some.inj (Tryd.func5.symm.trans hfn)).symm
      exact ⟨by kernel_rfl, fun j t ht => by
        rw [Tryd.params5] at ht
        have hm : t ∈ [33] := by simpa using Array.mem_of_getElem? ht
        have hall : ([33].all fun u => !Tryd.prog.wantsStandIn u) = true := by kernel_rfl
        exact (show Tryd.prog.wantsStandIn t = false by simpa using List.all_eq_true.1 hall t hm)⟩)
    (by kernel_rfl)
end Go.Proofs.YtbbjjpgmekfbeaaDoor
