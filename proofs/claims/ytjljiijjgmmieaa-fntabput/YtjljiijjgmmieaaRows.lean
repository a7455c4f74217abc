/-
  No cell of these rows narrows 'for every input' (looked for: loops, veiled, ifaces, maps, wideKeys, modest, calm, conditions, laid).
  DERIVED. THE GIVEN ROWS OF THIS SEAT. 3 by the template 'for every input the law returns true; each argument reads behind the call as it read before'; 0 by the template 'total and deterministic' (their statements: YtjljiijjgmmieaaTotals.lean).
  GIVEN WITH THE SEED: the statements are not yours to turn. If you find one false, say at which input.
  Laid BY PROGRAM, IN A SANDBOX (cutbox-rows.mjs): the forced cells as the released guide's own fill.sh prints them over the translation dc38a9ff2b601215… (all of the seat's roots in one cut). By AI agents, Wed Nov 11 2026. No macro, syntax, notation, axiom, sorry.
-/
import Derived.Test.YtjljiijjgmmieaaChecked
import GoSem.Claim
import GoSem.ClaimJoined
import GoSem.ClaimMapViews
import Derived.JoinedTies
import Derived.KernelRfl
namespace Go.Proofs.Ytjljiijjgmmieaa
/- THE CELL 'sum', in the pinned program and in every row, IS THE sha256 OF THE DUMP (.gsa) THAT YtjljiijjgmmieaaProg.lean LOADS. Nothing in Lean hashes anything: it is a label: what it is worth is what the hold of that sum in a sandbox is worth. -/
noncomputable def Try.pinned : Pinned := { name := "ytjljiijjgmmieaa", sum := "dc38a9ff2b601215a4e9cd9e430bd7eda3b98d0f9e49dad93009e7446a6aff46", checked := Try.checked }
namespace Rows
def none {H : Type} : Left H := { results := [], args := [] }

/-- 'laws.FnTabOut': WHATEVER THE INPUT: true; the input reads as it did. -/
def fnTabOutSpec : ChangeSpec := { name := "fnTabOut", fn := fun _ => fun
  | [d] => { results := [.lit (.bool true)], args := [d] }
  | _ => none }
def fnTabOutRow : OpenClaim := { program := "ytjljiijjgmmieaa", sum := "dc38a9ff2b601215a4e9cd9e430bd7eda3b98d0f9e49dad93009e7446a6aff46", func := "loop.example/freshet/laws.FnTabOut", spec := "fnTabOut", unfollowed := true, recurses := true, apart := false }
def FnTabOutSaid : Prop := fnTabOutRow.holds Try.pinned (OpenSpec.ofChange fnTabOutSpec)

/-- ITS FALSE NEIGHBOUR: 'it returns false'. Refute it at one input. -/
def fnTabOutWrong : ChangeSpec := { name := "fnTabOut", fn := fun _ => fun
  | [d] => { results := [.lit (.bool false)], args := [d] }
  | _ => none }
def FnTabOutWrongFalsely : Prop := fnTabOutRow.holds Try.pinned (OpenSpec.ofChange fnTabOutWrong)

/-- 'laws.FnTabSame': WHATEVER THE INPUT: true; the input reads as it did. -/
def fnTabSameSpec : ChangeSpec := { name := "fnTabSame", fn := fun _ => fun
  | [d] => { results := [.lit (.bool true)], args := [d] }
  | _ => none }
def fnTabSameRow : OpenClaim := { program := "ytjljiijjgmmieaa", sum := "dc38a9ff2b601215a4e9cd9e430bd7eda3b98d0f9e49dad93009e7446a6aff46", func := "loop.example/freshet/laws.FnTabSame", spec := "fnTabSame", apart := false }
def FnTabSameSaid : Prop := fnTabSameRow.holds Try.pinned (OpenSpec.ofChange fnTabSameSpec)

/-- ITS FALSE NEIGHBOUR: 'it returns false'. Refute it at one input. -/
def fnTabSameWrong : ChangeSpec := { name := "fnTabSame", fn := fun _ => fun
  | [d] => { results := [.lit (.bool false)], args := [d] }
  | _ => none }
def FnTabSameWrongFalsely : Prop := fnTabSameRow.holds Try.pinned (OpenSpec.ofChange fnTabSameWrong)

/-- 'laws.FnTabPut': WHATEVER THE INPUT: true; the input reads as it did. -/
def fnTabPutSpec : ChangeSpec := { name := "fnTabPut", fn := fun _ => fun
  | [d] => { results := [.lit (.bool true)], args := [d] }
  | _ => none }
def fnTabPutRow : OpenClaim := { program := "ytjljiijjgmmieaa", sum := "dc38a9ff2b601215a4e9cd9e430bd7eda3b98d0f9e49dad93009e7446a6aff46", func := "loop.example/freshet/laws.FnTabPut", spec := "fnTabPut", inPlace := ["slices.overlaps[loop.example/freshet/impl.TabRow]"], unfollowed := true, recurses := true, apart := false }
def FnTabPutSaid : Prop := fnTabPutRow.holds Try.pinned (OpenSpec.ofChange fnTabPutSpec)

/-- ITS FALSE NEIGHBOUR: 'it returns false'. Refute it at one input. -/
def fnTabPutWrong : ChangeSpec := { name := "fnTabPut", fn := fun _ => fun
  | [d] => { results := [.lit (.bool false)], args := [d] }
  | _ => none }
def FnTabPutWrongFalsely : Prop := fnTabPutRow.holds Try.pinned (OpenSpec.ofChange fnTabPutWrong)

/- THE SECOND FORM. 'bulk': how many values and letters a reading holds, each counted each time it is reached (what is shared counts as often as it is met; a slice's spare places count too). A statement '..UptoSaid' is the law's where the arguments, and the package variables that the reading takes, are together of bulk at most 1048576: NARROWER than '..Said'. Prove '..Said' where nothing that the law and all that it calls make is longer than what came in: it says more and counts as full. Else prove '..UptoSaid'. A law counts once. -/
mutual
def uptoBulk {H : Type} : DataW H → Nat
  | .lit (.string bytes) => bytes.length + 1
  | .lit _ => 1
  | .nil => 1
  | .ptr d => uptoBulk d + 1
  | .slice elems spare => uptoBulkAll elems + uptoBulkAll spare + 1
  | .agg parts => uptoBulkAll parts + 1
  | .iface _ d => uptoBulk d + 1
  | .map entries => uptoBulkEntries entries + 1
  | .held _ => 1
def uptoBulkAll {H : Type} : List (DataW H) → Nat
  | [] => 0
  | d :: r => uptoBulk d + uptoBulkAll r
def uptoBulkEntries {H : Type} : List (Lit × DataW H) → Nat
  | [] => 0
  | x :: r => uptoBulkEntry x + uptoBulkEntries r
def uptoBulkEntry {H : Type} : Lit × DataW H → Nat
  | (.string bytes, d) => bytes.length + uptoBulk d + 1
  | (_, d) => uptoBulk d + 1
 end
def uptoSmall : (H : Type) → List (DataW H) → Bool := fun _ ds => decide (uptoBulkAll ds ≤ 1048576)
def OpenSpec.upto (s : _root_.Go.ChangeSpec) : _root_.Go.OpenSpec := { _root_.Go.OpenSpec.ofChange s with cond := some uptoSmall }

/-- 'laws.FnTabOut', WHERE WHAT IT READS IS OF BULK AT MOST 1048576: true; the input reads as it did. -/
def fnTabOutUptoRow : OpenClaim := { program := "ytjljiijjgmmieaa", sum := "dc38a9ff2b601215a4e9cd9e430bd7eda3b98d0f9e49dad93009e7446a6aff46", func := "loop.example/freshet/laws.FnTabOut", spec := "fnTabOut", unfollowed := true, recurses := true, apart := false, narrowed := true }
def FnTabOutUptoSaid : Prop := fnTabOutUptoRow.holds Try.pinned (OpenSpec.upto fnTabOutSpec)

/-- 'laws.FnTabSame', WHERE WHAT IT READS IS OF BULK AT MOST 1048576: true; the input reads as it did. -/
def fnTabSameUptoRow : OpenClaim := { program := "ytjljiijjgmmieaa", sum := "dc38a9ff2b601215a4e9cd9e430bd7eda3b98d0f9e49dad93009e7446a6aff46", func := "loop.example/freshet/laws.FnTabSame", spec := "fnTabSame", apart := false, narrowed := true }
def FnTabSameUptoSaid : Prop := fnTabSameUptoRow.holds Try.pinned (OpenSpec.upto fnTabSameSpec)

/-- 'laws.FnTabPut', WHERE WHAT IT READS IS OF BULK AT MOST 1048576: true; the input reads as it did. -/
def fnTabPutUptoRow : OpenClaim := { program := "ytjljiijjgmmieaa", sum := "dc38a9ff2b601215a4e9cd9e430bd7eda3b98d0f9e49dad93009e7446a6aff46", func := "loop.example/freshet/laws.FnTabPut", spec := "fnTabPut", inPlace := ["slices.overlaps[loop.example/freshet/impl.TabRow]"], unfollowed := true, recurses := true, apart := false, narrowed := true }
def FnTabPutUptoSaid : Prop := fnTabPutUptoRow.holds Try.pinned (OpenSpec.upto fnTabPutSpec)

end Rows
end Go.Proofs.Ytjljiijjgmmieaa
