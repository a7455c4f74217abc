/-
  No cell of these rows narrows 'for every input' (looked for: loops, veiled, ifaces, maps, wideKeys, modest, calm, conditions, laid).
  DERIVED. THE GIVEN ROWS OF THIS SEAT. 3 by the template 'for every input the law returns true; each argument reads behind the call as it read before'; 0 by the template 'total and deterministic' (their statements: YtijgbahmlldffaaTotals.lean).
  GIVEN WITH THE SEED: the statements are not yours to turn. If you find one false, say at which input.
  Laid BY PROGRAM, IN A SANDBOX (cutbox-rows.mjs): the forced cells as the released guide's own fill.sh prints them over the translation d6602a23fdb60b74… (all of the seat's roots in one cut). By AI agents, Wed Nov 11 2026. No macro, syntax, notation, axiom, sorry.
-/
import Derived.Test.YtijgbahmlldffaaChecked
import GoSem.Claim
import GoSem.ClaimJoined
import GoSem.ClaimMapViews
import Derived.JoinedTies
import Derived.KernelRfl
namespace Go.Proofs.Ytijgbahmlldffaa
/- THE CELL 'sum', in the pinned program and in every row, IS THE sha256 OF THE DUMP (.gsa) THAT YtijgbahmlldffaaProg.lean LOADS. Nothing in Lean hashes anything: it is a label: what it is worth is what the hold of that sum in a sandbox is worth. -/
noncomputable def Try.pinned : Pinned := { name := "ytijgbahmlldffaa", sum := "d6602a23fdb60b746a3d0cf288097f3550f80c5c875cb5454c8bc27e20762c89", checked := Try.checked }
namespace Rows
def none {H : Type} : Left H := { results := [], args := [] }

/-- 'laws.FnWinOf': WHATEVER THE INPUT: true; the input reads as it did. -/
def fnWinOfSpec : ChangeSpec := { name := "fnWinOf", fn := fun _ => fun
  | [d] => { results := [.lit (.bool true)], args := [d] }
  | _ => none }
def fnWinOfRow : OpenClaim := { program := "ytijgbahmlldffaa", sum := "d6602a23fdb60b746a3d0cf288097f3550f80c5c875cb5454c8bc27e20762c89", func := "loop.example/freshet/laws.FnWinOf", spec := "fnWinOf", unfollowed := true, recurses := true, apart := false }
def FnWinOfSaid : Prop := fnWinOfRow.holds Try.pinned (OpenSpec.ofChange fnWinOfSpec)

/-- ITS FALSE NEIGHBOUR: 'it returns false'. Refute it at one input. -/
def fnWinOfWrong : ChangeSpec := { name := "fnWinOf", fn := fun _ => fun
  | [d] => { results := [.lit (.bool false)], args := [d] }
  | _ => none }
def FnWinOfWrongFalsely : Prop := fnWinOfRow.holds Try.pinned (OpenSpec.ofChange fnWinOfWrong)

/-- 'laws.FnJobTask': WHATEVER THE INPUT: true; the input reads as it did. -/
def fnJobTaskSpec : ChangeSpec := { name := "fnJobTask", fn := fun _ => fun
  | [d] => { results := [.lit (.bool true)], args := [d] }
  | _ => none }
def fnJobTaskRow : OpenClaim := { program := "ytijgbahmlldffaa", sum := "d6602a23fdb60b746a3d0cf288097f3550f80c5c875cb5454c8bc27e20762c89", func := "loop.example/freshet/laws.FnJobTask", spec := "fnJobTask", apart := false }
def FnJobTaskSaid : Prop := fnJobTaskRow.holds Try.pinned (OpenSpec.ofChange fnJobTaskSpec)

/-- ITS FALSE NEIGHBOUR: 'it returns false'. Refute it at one input. -/
def fnJobTaskWrong : ChangeSpec := { name := "fnJobTask", fn := fun _ => fun
  | [d] => { results := [.lit (.bool false)], args := [d] }
  | _ => none }
def FnJobTaskWrongFalsely : Prop := fnJobTaskRow.holds Try.pinned (OpenSpec.ofChange fnJobTaskWrong)

/-- 'laws.FnWinStep': WHATEVER THE INPUT: true; the input reads as it did. -/
def fnWinStepSpec : ChangeSpec := { name := "fnWinStep", fn := fun _ => fun
  | [d] => { results := [.lit (.bool true)], args := [d] }
  | _ => none }
def fnWinStepRow : OpenClaim := { program := "ytijgbahmlldffaa", sum := "d6602a23fdb60b746a3d0cf288097f3550f80c5c875cb5454c8bc27e20762c89", func := "loop.example/freshet/laws.FnWinStep", spec := "fnWinStep", unfollowed := true, recurses := true, apart := false }
def FnWinStepSaid : Prop := fnWinStepRow.holds Try.pinned (OpenSpec.ofChange fnWinStepSpec)

/-- ITS FALSE NEIGHBOUR: 'it returns false'. Refute it at one input. -/
def fnWinStepWrong : ChangeSpec := { name := "fnWinStep", fn := fun _ => fun
  | [d] => { results := [.lit (.bool false)], args := [d] }
  | _ => none }
def FnWinStepWrongFalsely : Prop := fnWinStepRow.holds Try.pinned (OpenSpec.ofChange fnWinStepWrong)

/- THE SECOND FORM. 'bulk': how many values and letters a reading holds, each counted each time it is reached (what is shared counts as often as it is met; a slice's spare places count too). A statement '..UptoSaid' is the law's where the arguments, and the package variables that the reading takes, are together of bulk at most 1048576: NARROWER than '..Said'. Prove '..Said' where nothing that the law and all that it calls make is longer than what came in: it says more and counts as full. Else prove '..UptoSaid'. A law counts once. -/
mutual
def uptoBulk {H : Type} : DataW H → Nat
  | .lit (.string bytes) => bytes.length + 1
  | .lit _ => 1
  | .nil => 1
  | .ptr d => uptoBulk d + 1
  | .slice elems spare => uptoBulkAll elems + uptoBulkAll spare + 1
  | .agg parts => uptoBulkAll parts + 1
  | .iface _ d => uptoBulk d + 1
  | .map entries => uptoBulkEntries entries + 1
  | .held _ => 1
def uptoBulkAll {H : Type} : List (DataW H) → Nat
  | [] => 0
  | d :: r => uptoBulk d + uptoBulkAll r
def uptoBulkEntries {H : Type} : List (Lit × DataW H) → Nat
  | [] => 0
  | x :: r => uptoBulkEntry x + uptoBulkEntries r
def uptoBulkEntry {H : Type} : Lit × DataW H → Nat
  | (.string bytes, d) => bytes.length + uptoBulk d + 1
  | (_, d) => uptoBulk d + 1
 end
def uptoSmall : (H : Type) → List (DataW H) → Bool := fun _ ds => decide (uptoBulkAll ds ≤ 1048576)
def OpenSpec.upto (s : _root_.Go.ChangeSpec) : _root_.Go.OpenSpec := { _root_.Go.OpenSpec.ofChange s with cond := some uptoSmall }

/-- 'laws.FnWinOf', WHERE WHAT IT READS IS OF BULK AT MOST 1048576: true; the input reads as it did. -/
def fnWinOfUptoRow : OpenClaim := { program := "ytijgbahmlldffaa", sum := "d6602a23fdb60b746a3d0cf288097f3550f80c5c875cb5454c8bc27e20762c89", func := "loop.example/freshet/laws.FnWinOf", spec := "fnWinOf", unfollowed := true, recurses := true, apart := false, narrowed := true }
def FnWinOfUptoSaid : Prop := fnWinOfUptoRow.holds Try.pinned (OpenSpec.upto fnWinOfSpec)

/-- 'laws.FnJobTask', WHERE WHAT IT READS IS OF BULK AT MOST 1048576: true; the input reads as it did. -/
def fnJobTaskUptoRow : OpenClaim := { program := "ytijgbahmlldffaa", sum := "d6602a23fdb60b746a3d0cf288097f3550f80c5c875cb5454c8bc27e20762c89", func := "loop.example/freshet/laws.FnJobTask", spec := "fnJobTask", apart := false, narrowed := true }
def FnJobTaskUptoSaid : Prop := fnJobTaskUptoRow.holds Try.pinned (OpenSpec.upto fnJobTaskSpec)

/-- 'laws.FnWinStep', WHERE WHAT IT READS IS OF BULK AT MOST 1048576: true; the input reads as it did. -/
def fnWinStepUptoRow : OpenClaim := { program := "ytijgbahmlldffaa", sum := "d6602a23fdb60b746a3d0cf288097f3550f80c5c875cb5454c8bc27e20762c89", func := "loop.example/freshet/laws.FnWinStep", spec := "fnWinStep", unfollowed := true, recurses := true, apart := false, narrowed := true }
def FnWinStepUptoSaid : Prop := fnWinStepUptoRow.holds Try.pinned (OpenSpec.upto fnWinStepSpec)

end Rows
end Go.Proofs.Ytijgbahmlldffaa
