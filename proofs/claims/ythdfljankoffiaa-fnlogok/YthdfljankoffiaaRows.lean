/-
  No cell of these rows narrows 'for every input' (looked for: loops, veiled, ifaces, maps, wideKeys, modest, calm, conditions, laid).
  DERIVED. THE GIVEN ROWS OF THIS SEAT. 4 by the template 'for every input the law returns true; each argument reads behind the call as it read before'; 0 by the template 'total and deterministic' (their statements: YthdfljankoffiaaTotals.lean).
  GIVEN WITH THE SEED: the statements are not yours to turn. If you find one false, say at which input.
  Laid BY PROGRAM, IN A SANDBOX (cutbox-rows.mjs): the forced cells as the released guide's own fill.sh prints them over the translation b36d60f4bf510c56… (all of the seat's roots in one cut). By AI agents, Wed Nov 11 2026. No macro, syntax, notation, axiom, sorry.
-/
import Derived.Test.YthdfljankoffiaaChecked
import GoSem.Claim
import GoSem.ClaimJoined
import GoSem.ClaimMapViews
import Derived.JoinedTies
import Derived.KernelRfl
namespace Go.Proofs.Ythdfljankoffiaa
/- THE CELL 'sum', in the pinned program and in every row, IS THE sha256 OF THE DUMP (.gsa) THAT YthdfljankoffiaaProg.lean LOADS. Nothing in Lean hashes anything: it is a label: what it is worth is what the hold of that sum in a sandbox is worth. -/
noncomputable def Try.pinned : Pinned := { name := "ythdfljankoffiaa", sum := "b36d60f4bf510c566f798a36ae4bab13d714933cea80cbacf56d46133efa2983", checked := Try.checked }
namespace Rows
def none {H : Type} : Left H := { results := [], args := [] }

/-- 'laws.FnLatRecs': WHATEVER THE INPUT: true; the input reads as it did. -/
def fnLatRecsSpec : ChangeSpec := { name := "fnLatRecs", fn := fun _ => fun
  | [d] => { results := [.lit (.bool true)], args := [d] }
  | _ => none }
def fnLatRecsRow : OpenClaim := { program := "ythdfljankoffiaa", sum := "b36d60f4bf510c566f798a36ae4bab13d714933cea80cbacf56d46133efa2983", func := "loop.example/freshet/laws.FnLatRecs", spec := "fnLatRecs", unfollowed := true, recurses := true, apart := false }
def FnLatRecsSaid : Prop := fnLatRecsRow.holds Try.pinned (OpenSpec.ofChange fnLatRecsSpec)

/-- ITS FALSE NEIGHBOUR: 'it returns false'. Refute it at one input. -/
def fnLatRecsWrong : ChangeSpec := { name := "fnLatRecs", fn := fun _ => fun
  | [d] => { results := [.lit (.bool false)], args := [d] }
  | _ => none }
def FnLatRecsWrongFalsely : Prop := fnLatRecsRow.holds Try.pinned (OpenSpec.ofChange fnLatRecsWrong)

/-- 'laws.FnPanOf': WHATEVER THE INPUT: true; the input reads as it did. -/
def fnPanOfSpec : ChangeSpec := { name := "fnPanOf", fn := fun _ => fun
  | [d] => { results := [.lit (.bool true)], args := [d] }
  | _ => none }
def fnPanOfRow : OpenClaim := { program := "ythdfljankoffiaa", sum := "b36d60f4bf510c566f798a36ae4bab13d714933cea80cbacf56d46133efa2983", func := "loop.example/freshet/laws.FnPanOf", spec := "fnPanOf", unfollowed := true, recurses := true, apart := false }
def FnPanOfSaid : Prop := fnPanOfRow.holds Try.pinned (OpenSpec.ofChange fnPanOfSpec)

/-- ITS FALSE NEIGHBOUR: 'it returns false'. Refute it at one input. -/
def fnPanOfWrong : ChangeSpec := { name := "fnPanOf", fn := fun _ => fun
  | [d] => { results := [.lit (.bool false)], args := [d] }
  | _ => none }
def FnPanOfWrongFalsely : Prop := fnPanOfRow.holds Try.pinned (OpenSpec.ofChange fnPanOfWrong)

/-- 'laws.FnLogOk': WHATEVER THE INPUT: true; the input reads as it did. -/
def fnLogOkSpec : ChangeSpec := { name := "fnLogOk", fn := fun _ => fun
  | [d] => { results := [.lit (.bool true)], args := [d] }
  | _ => none }
def fnLogOkRow : OpenClaim := { program := "ythdfljankoffiaa", sum := "b36d60f4bf510c566f798a36ae4bab13d714933cea80cbacf56d46133efa2983", func := "loop.example/freshet/laws.FnLogOk", spec := "fnLogOk", unfollowed := true, recurses := true, apart := false }
def FnLogOkSaid : Prop := fnLogOkRow.holds Try.pinned (OpenSpec.ofChange fnLogOkSpec)

/-- ITS FALSE NEIGHBOUR: 'it returns false'. Refute it at one input. -/
def fnLogOkWrong : ChangeSpec := { name := "fnLogOk", fn := fun _ => fun
  | [d] => { results := [.lit (.bool false)], args := [d] }
  | _ => none }
def FnLogOkWrongFalsely : Prop := fnLogOkRow.holds Try.pinned (OpenSpec.ofChange fnLogOkWrong)

/-- 'laws.FnLogRecs': WHATEVER THE INPUT: true; the input reads as it did. -/
def fnLogRecsSpec : ChangeSpec := { name := "fnLogRecs", fn := fun _ => fun
  | [d] => { results := [.lit (.bool true)], args := [d] }
  | _ => none }
def fnLogRecsRow : OpenClaim := { program := "ythdfljankoffiaa", sum := "b36d60f4bf510c566f798a36ae4bab13d714933cea80cbacf56d46133efa2983", func := "loop.example/freshet/laws.FnLogRecs", spec := "fnLogRecs", unfollowed := true, recurses := true, apart := false }
def FnLogRecsSaid : Prop := fnLogRecsRow.holds Try.pinned (OpenSpec.ofChange fnLogRecsSpec)

/-- ITS FALSE NEIGHBOUR: 'it returns false'. Refute it at one input. -/
def fnLogRecsWrong : ChangeSpec := { name := "fnLogRecs", fn := fun _ => fun
  | [d] => { results := [.lit (.bool false)], args := [d] }
  | _ => none }
def FnLogRecsWrongFalsely : Prop := fnLogRecsRow.holds Try.pinned (OpenSpec.ofChange fnLogRecsWrong)

/- THE SECOND FORM. 'bulk': how many values and letters a reading holds, each counted each time it is reached (what is shared counts as often as it is met; a slice's spare places count too). A statement '..UptoSaid' is the law's where the arguments, and the package variables that the reading takes, are together of bulk at most 1048576: NARROWER than '..Said'. Prove '..Said' where nothing that the law and all that it calls make is longer than what came in: it says more and counts as full. Else prove '..UptoSaid'. A law counts once. -/
mutual
def uptoBulk {H : Type} : DataW H → Nat
  | .lit (.string bytes) => bytes.length + 1
  | .lit _ => 1
  | .nil => 1
  | .ptr d => uptoBulk d + 1
  | .slice elems spare => uptoBulkAll elems + uptoBulkAll spare + 1
  | .agg parts => uptoBulkAll parts + 1
  | .iface _ d => uptoBulk d + 1
  | .map entries => uptoBulkEntries entries + 1
  | .held _ => 1
def uptoBulkAll {H : Type} : List (DataW H) → Nat
  | [] => 0
  | d :: r => uptoBulk d + uptoBulkAll r
def uptoBulkEntries {H : Type} : List (Lit × DataW H) → Nat
  | [] => 0
  | x :: r => uptoBulkEntry x + uptoBulkEntries r
def uptoBulkEntry {H : Type} : Lit × DataW H → Nat
  | (.string bytes, d) => bytes.length + uptoBulk d + 1
  | (_, d) => uptoBulk d + 1
 end
def uptoSmall : (H : Type) → List (DataW H) → Bool := fun _ ds => decide (uptoBulkAll ds ≤ 1048576)
def OpenSpec.upto (s : _root_.Go.ChangeSpec) : _root_.Go.OpenSpec := { _root_.Go.OpenSpec.ofChange s with cond := some uptoSmall }

/-- 'laws.FnLatRecs', WHERE WHAT IT READS IS OF BULK AT MOST 1048576: true; the input reads as it did. -/
def fnLatRecsUptoRow : OpenClaim := { program := "ythdfljankoffiaa", sum := "b36d60f4bf510c566f798a36ae4bab13d714933cea80cbacf56d46133efa2983", func := "loop.example/freshet/laws.FnLatRecs", spec := "fnLatRecs", unfollowed := true, recurses := true, apart := false, narrowed := true }
def FnLatRecsUptoSaid : Prop := fnLatRecsUptoRow.holds Try.pinned (OpenSpec.upto fnLatRecsSpec)

/-- 'laws.FnPanOf', WHERE WHAT IT READS IS OF BULK AT MOST 1048576: true; the input reads as it did. -/
def fnPanOfUptoRow : OpenClaim := { program := "ythdfljankoffiaa", sum := "b36d60f4bf510c566f798a36ae4bab13d714933cea80cbacf56d46133efa2983", func := "loop.example/freshet/laws.FnPanOf", spec := "fnPanOf", unfollowed := true, recurses := true, apart := false, narrowed := true }
def FnPanOfUptoSaid : Prop := fnPanOfUptoRow.holds Try.pinned (OpenSpec.upto fnPanOfSpec)

/-- 'laws.FnLogOk', WHERE WHAT IT READS IS OF BULK AT MOST 1048576: true; the input reads as it did. -/
def fnLogOkUptoRow : OpenClaim := { program := "ythdfljankoffiaa", sum := "b36d60f4bf510c566f798a36ae4bab13d714933cea80cbacf56d46133efa2983", func := "loop.example/freshet/laws.FnLogOk", spec := "fnLogOk", unfollowed := true, recurses := true, apart := false, narrowed := true }
def FnLogOkUptoSaid : Prop := fnLogOkUptoRow.holds Try.pinned (OpenSpec.upto fnLogOkSpec)

/-- 'laws.FnLogRecs', WHERE WHAT IT READS IS OF BULK AT MOST 1048576: true; the input reads as it did. -/
def fnLogRecsUptoRow : OpenClaim := { program := "ythdfljankoffiaa", sum := "b36d60f4bf510c566f798a36ae4bab13d714933cea80cbacf56d46133efa2983", func := "loop.example/freshet/laws.FnLogRecs", spec := "fnLogRecs", unfollowed := true, recurses := true, apart := false, narrowed := true }
def FnLogRecsUptoSaid : Prop := fnLogRecsUptoRow.holds Try.pinned (OpenSpec.upto fnLogRecsSpec)

end Rows
end Go.Proofs.Ythdfljankoffiaa
