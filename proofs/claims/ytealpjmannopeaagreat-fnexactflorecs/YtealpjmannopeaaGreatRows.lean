/-
  No cell of these rows narrows 'for every input' (looked for: loops, veiled, ifaces, maps, wideKeys, modest, calm, conditions, laid).
  DERIVED. THE GIVEN ROWS OF THIS SEAT. 3 by the template 'for every input the law returns true; each argument reads behind the call as it read before'; 0 by the template 'total and deterministic' (their statements: YtealpjmannopeaaGreatTotals.lean).
  GIVEN WITH THE SEED: the statements are not yours to turn. If you find one false, say at which input.
  Laid BY PROGRAM, IN A SANDBOX (cutbox-rows.mjs): the forced cells as the released guide's own fill.sh prints them over the translation 149cfabe2399b1e3… (all of the seat's roots in one cut). By AI agents, Wed Nov 11 2026. No macro, syntax, notation, axiom, sorry.
-/
import Derived.Test.YtealpjmannopeaaGreatChecked
import GoSem.Claim
import GoSem.ClaimJoined
import GoSem.ClaimMapViews
import Derived.JoinedTies
import Derived.KernelRfl
namespace Go.Proofs.YtealpjmannopeaaGreat
/- THE CELL 'sum', in the pinned program and in every row, IS THE sha256 OF THE DUMP (.gsa) THAT YtealpjmannopeaaGreatProg.lean LOADS. Nothing in Lean hashes anything: it is a label: what it is worth is what the hold of that sum in a sandbox is worth. -/
noncomputable def Tryz.pinned : Pinned := { name := "ytealpjmannopeaagreat", sum := "149cfabe2399b1e3f03a9c1b475a696a523e8113e56462b6e1677ec179058254", checked := Tryz.checked }
namespace Rows
def none {H : Type} : Left H := { results := [], args := [] }

/-- 'laws.FnExactFloPanes': WHATEVER THE INPUT: true; the input reads as it did. -/
def fnExactFloPanesSpec : ChangeSpec := { name := "fnExactFloPanes", fn := fun _ => fun
  | [d] => { results := [.lit (.bool true)], args := [d] }
  | _ => none }
def fnExactFloPanesRow : OpenClaim := { program := "ytealpjmannopeaagreat", sum := "149cfabe2399b1e3f03a9c1b475a696a523e8113e56462b6e1677ec179058254", func := "loop.example/freshet/laws.FnExactFloPanes", spec := "fnExactFloPanes", unfollowed := true, recurses := true, apart := false }
def FnExactFloPanesSaid : Prop := fnExactFloPanesRow.holds Tryz.pinned (OpenSpec.ofChange fnExactFloPanesSpec)

/-- ITS FALSE NEIGHBOUR: 'it returns false'. Refute it at one input. -/
def fnExactFloPanesWrong : ChangeSpec := { name := "fnExactFloPanes", fn := fun _ => fun
  | [d] => { results := [.lit (.bool false)], args := [d] }
  | _ => none }
def FnExactFloPanesWrongFalsely : Prop := fnExactFloPanesRow.holds Tryz.pinned (OpenSpec.ofChange fnExactFloPanesWrong)

/-- 'laws.FnExactFloLates': WHATEVER THE INPUT: true; the input reads as it did. -/
def fnExactFloLatesSpec : ChangeSpec := { name := "fnExactFloLates", fn := fun _ => fun
  | [d] => { results := [.lit (.bool true)], args := [d] }
  | _ => none }
def fnExactFloLatesRow : OpenClaim := { program := "ytealpjmannopeaagreat", sum := "149cfabe2399b1e3f03a9c1b475a696a523e8113e56462b6e1677ec179058254", func := "loop.example/freshet/laws.FnExactFloLates", spec := "fnExactFloLates", unfollowed := true, recurses := true, apart := false }
def FnExactFloLatesSaid : Prop := fnExactFloLatesRow.holds Tryz.pinned (OpenSpec.ofChange fnExactFloLatesSpec)

/-- ITS FALSE NEIGHBOUR: 'it returns false'. Refute it at one input. -/
def fnExactFloLatesWrong : ChangeSpec := { name := "fnExactFloLates", fn := fun _ => fun
  | [d] => { results := [.lit (.bool false)], args := [d] }
  | _ => none }
def FnExactFloLatesWrongFalsely : Prop := fnExactFloLatesRow.holds Tryz.pinned (OpenSpec.ofChange fnExactFloLatesWrong)

/-- 'laws.FnExactFloRecs': WHATEVER THE INPUT: true; the input reads as it did. -/
def fnExactFloRecsSpec : ChangeSpec := { name := "fnExactFloRecs", fn := fun _ => fun
  | [d] => { results := [.lit (.bool true)], args := [d] }
  | _ => none }
def fnExactFloRecsRow : OpenClaim := { program := "ytealpjmannopeaagreat", sum := "149cfabe2399b1e3f03a9c1b475a696a523e8113e56462b6e1677ec179058254", func := "loop.example/freshet/laws.FnExactFloRecs", spec := "fnExactFloRecs", unfollowed := true, recurses := true, apart := false }
def FnExactFloRecsSaid : Prop := fnExactFloRecsRow.holds Tryz.pinned (OpenSpec.ofChange fnExactFloRecsSpec)

/-- ITS FALSE NEIGHBOUR: 'it returns false'. Refute it at one input. -/
def fnExactFloRecsWrong : ChangeSpec := { name := "fnExactFloRecs", fn := fun _ => fun
  | [d] => { results := [.lit (.bool false)], args := [d] }
  | _ => none }
def FnExactFloRecsWrongFalsely : Prop := fnExactFloRecsRow.holds Tryz.pinned (OpenSpec.ofChange fnExactFloRecsWrong)

/- THE SECOND FORM. 'bulk': how many values and letters a reading holds, each counted each time it is reached (what is shared counts as often as it is met; a slice's spare places count too). A statement '..UptoSaid' is the law's where the arguments, and the package variables that the reading takes, are together of bulk at most 1048576: NARROWER than '..Said'. Prove '..Said' where nothing that the law and all that it calls make is longer than what came in: it says more and counts as full. Else prove '..UptoSaid'. A law counts once. -/
mutual
def uptoBulk {H : Type} : DataW H → Nat
  | .lit (.string bytes) => bytes.length + 1
  | .lit _ => 1
  | .nil => 1
  | .ptr d => uptoBulk d + 1
  | .slice elems spare => uptoBulkAll elems + uptoBulkAll spare + 1
  | .agg parts => uptoBulkAll parts + 1
  | .iface _ d => uptoBulk d + 1
  | .map entries => uptoBulkEntries entries + 1
  | .held _ => 1
def uptoBulkAll {H : Type} : List (DataW H) → Nat
  | [] => 0
  | d :: r => uptoBulk d + uptoBulkAll r
def uptoBulkEntries {H : Type} : List (Lit × DataW H) → Nat
  | [] => 0
  | x :: r => uptoBulkEntry x + uptoBulkEntries r
def uptoBulkEntry {H : Type} : Lit × DataW H → Nat
  | (.string bytes, d) => bytes.length + uptoBulk d + 1
  | (_, d) => uptoBulk d + 1
 end
def uptoSmall : (H : Type) → List (DataW H) → Bool := fun _ ds => decide (uptoBulkAll ds ≤ 1048576)
def OpenSpec.upto (s : _root_.Go.ChangeSpec) : _root_.Go.OpenSpec := { _root_.Go.OpenSpec.ofChange s with cond := some uptoSmall }

/-- 'laws.FnExactFloPanes', WHERE WHAT IT READS IS OF BULK AT MOST 1048576: true; the input reads as it did. -/
def fnExactFloPanesUptoRow : OpenClaim := { program := "ytealpjmannopeaagreat", sum := "149cfabe2399b1e3f03a9c1b475a696a523e8113e56462b6e1677ec179058254", func := "loop.example/freshet/laws.FnExactFloPanes", spec := "fnExactFloPanes", unfollowed := true, recurses := true, apart := false, narrowed := true }
def FnExactFloPanesUptoSaid : Prop := fnExactFloPanesUptoRow.holds Tryz.pinned (OpenSpec.upto fnExactFloPanesSpec)

/-- 'laws.FnExactFloLates', WHERE WHAT IT READS IS OF BULK AT MOST 1048576: true; the input reads as it did. -/
def fnExactFloLatesUptoRow : OpenClaim := { program := "ytealpjmannopeaagreat", sum := "149cfabe2399b1e3f03a9c1b475a696a523e8113e56462b6e1677ec179058254", func := "loop.example/freshet/laws.FnExactFloLates", spec := "fnExactFloLates", unfollowed := true, recurses := true, apart := false, narrowed := true }
def FnExactFloLatesUptoSaid : Prop := fnExactFloLatesUptoRow.holds Tryz.pinned (OpenSpec.upto fnExactFloLatesSpec)

/-- 'laws.FnExactFloRecs', WHERE WHAT IT READS IS OF BULK AT MOST 1048576: true; the input reads as it did. -/
def fnExactFloRecsUptoRow : OpenClaim := { program := "ytealpjmannopeaagreat", sum := "149cfabe2399b1e3f03a9c1b475a696a523e8113e56462b6e1677ec179058254", func := "loop.example/freshet/laws.FnExactFloRecs", spec := "fnExactFloRecs", unfollowed := true, recurses := true, apart := false, narrowed := true }
def FnExactFloRecsUptoSaid : Prop := fnExactFloRecsUptoRow.holds Tryz.pinned (OpenSpec.upto fnExactFloRecsSpec)

end Rows
end Go.Proofs.YtealpjmannopeaaGreat
