/-
  No cell of these rows narrows 'for every input' (looked for: loops, veiled, ifaces, maps, wideKeys, modest, calm, conditions, laid).
  DERIVED. THE GIVEN ROWS OF THIS SEAT. 8 by the template 'for every input the law returns true; each argument reads behind the call as it read before'; 0 by the template 'total and deterministic' (their statements: YtbcmoanmkonfpaaTotals.lean).
  GIVEN WITH THE SEED: the statements are not yours to turn. If you find one false, say at which input.
  Laid BY PROGRAM, IN A SANDBOX (cutbox-rows.mjs): the forced cells as the released guide's own fill.sh prints them over the translation 9aa4d8d04c982f2f… (all of the seat's roots in one cut). By AI agents, Wed Nov 11 2026. No macro, syntax, notation, axiom, sorry.
-/
import Derived.Test.YtbcmoanmkonfpaaChecked
import GoSem.Claim
import GoSem.ClaimJoined
import GoSem.ClaimMapViews
import Derived.JoinedTies
import Derived.KernelRfl
namespace Go.Proofs.Ytbcmoanmkonfpaa
/- THE CELL 'sum', in the pinned program and in every row, IS THE sha256 OF THE DUMP (.gsa) THAT YtbcmoanmkonfpaaProg.lean LOADS. Nothing in Lean hashes anything: it is a label: what it is worth is what the hold of that sum in a sandbox is worth. -/
noncomputable def Try.pinned : Pinned := { name := "ytbcmoanmkonfpaa", sum := "9aa4d8d04c982f2feeb7cd072c407682f41d3e8d6fd69cdc3cbaea8297c7f311", checked := Try.checked }
namespace Rows
def none {H : Type} : Left H := { results := [], args := [] }

/-- 'laws.FnExactPanOk': WHATEVER THE INPUT: true; the input reads as it did. -/
def fnExactPanOkSpec : ChangeSpec := { name := "fnExactPanOk", fn := fun _ => fun
  | [d] => { results := [.lit (.bool true)], args := [d] }
  | _ => none }
def fnExactPanOkRow : OpenClaim := { program := "ytbcmoanmkonfpaa", sum := "9aa4d8d04c982f2feeb7cd072c407682f41d3e8d6fd69cdc3cbaea8297c7f311", func := "loop.example/freshet/laws.FnExactPanOk", spec := "fnExactPanOk", apart := false }
def FnExactPanOkSaid : Prop := fnExactPanOkRow.holds Try.pinned (OpenSpec.ofChange fnExactPanOkSpec)

/-- ITS FALSE NEIGHBOUR: 'it returns false'. Refute it at one input. -/
def fnExactPanOkWrong : ChangeSpec := { name := "fnExactPanOk", fn := fun _ => fun
  | [d] => { results := [.lit (.bool false)], args := [d] }
  | _ => none }
def FnExactPanOkWrongFalsely : Prop := fnExactPanOkRow.holds Try.pinned (OpenSpec.ofChange fnExactPanOkWrong)

/-- 'laws.FnExactLatOk': WHATEVER THE INPUT: true; the input reads as it did. -/
def fnExactLatOkSpec : ChangeSpec := { name := "fnExactLatOk", fn := fun _ => fun
  | [d] => { results := [.lit (.bool true)], args := [d] }
  | _ => none }
def fnExactLatOkRow : OpenClaim := { program := "ytbcmoanmkonfpaa", sum := "9aa4d8d04c982f2feeb7cd072c407682f41d3e8d6fd69cdc3cbaea8297c7f311", func := "loop.example/freshet/laws.FnExactLatOk", spec := "fnExactLatOk", unfollowed := true, recurses := true, apart := false }
def FnExactLatOkSaid : Prop := fnExactLatOkRow.holds Try.pinned (OpenSpec.ofChange fnExactLatOkSpec)

/-- ITS FALSE NEIGHBOUR: 'it returns false'. Refute it at one input. -/
def fnExactLatOkWrong : ChangeSpec := { name := "fnExactLatOk", fn := fun _ => fun
  | [d] => { results := [.lit (.bool false)], args := [d] }
  | _ => none }
def FnExactLatOkWrongFalsely : Prop := fnExactLatOkRow.holds Try.pinned (OpenSpec.ofChange fnExactLatOkWrong)

/-- 'laws.FnExactTabFind': WHATEVER THE INPUT: true; the input reads as it did. -/
def fnExactTabFindSpec : ChangeSpec := { name := "fnExactTabFind", fn := fun _ => fun
  | [d1, d2, d3] => { results := [.lit (.bool true)], args := [d1, d2, d3] }
  | _ => none }
def fnExactTabFindRow : OpenClaim := { program := "ytbcmoanmkonfpaa", sum := "9aa4d8d04c982f2feeb7cd072c407682f41d3e8d6fd69cdc3cbaea8297c7f311", func := "loop.example/freshet/laws.FnExactTabFind", spec := "fnExactTabFind", apart := false }
def FnExactTabFindSaid : Prop := fnExactTabFindRow.holds Try.pinned (OpenSpec.ofChange fnExactTabFindSpec)

/-- ITS FALSE NEIGHBOUR: 'it returns false'. Refute it at one input. -/
def fnExactTabFindWrong : ChangeSpec := { name := "fnExactTabFind", fn := fun _ => fun
  | [d1, d2, d3] => { results := [.lit (.bool false)], args := [d1, d2, d3] }
  | _ => none }
def FnExactTabFindWrongFalsely : Prop := fnExactTabFindRow.holds Try.pinned (OpenSpec.ofChange fnExactTabFindWrong)

/-- 'laws.FnExactTabOut': WHATEVER THE INPUT: true; the input reads as it did. -/
def fnExactTabOutSpec : ChangeSpec := { name := "fnExactTabOut", fn := fun _ => fun
  | [d1, d2, d3] => { results := [.lit (.bool true)], args := [d1, d2, d3] }
  | _ => none }
def fnExactTabOutRow : OpenClaim := { program := "ytbcmoanmkonfpaa", sum := "9aa4d8d04c982f2feeb7cd072c407682f41d3e8d6fd69cdc3cbaea8297c7f311", func := "loop.example/freshet/laws.FnExactTabOut", spec := "fnExactTabOut", unfollowed := true, recurses := true, apart := false }
def FnExactTabOutSaid : Prop := fnExactTabOutRow.holds Try.pinned (OpenSpec.ofChange fnExactTabOutSpec)

/-- ITS FALSE NEIGHBOUR: 'it returns false'. Refute it at one input. -/
def fnExactTabOutWrong : ChangeSpec := { name := "fnExactTabOut", fn := fun _ => fun
  | [d1, d2, d3] => { results := [.lit (.bool false)], args := [d1, d2, d3] }
  | _ => none }
def FnExactTabOutWrongFalsely : Prop := fnExactTabOutRow.holds Try.pinned (OpenSpec.ofChange fnExactTabOutWrong)

/-- 'laws.FnExactTabCount': WHATEVER THE INPUT: true; the input reads as it did. -/
def fnExactTabCountSpec : ChangeSpec := { name := "fnExactTabCount", fn := fun _ => fun
  | [d] => { results := [.lit (.bool true)], args := [d] }
  | _ => none }
def fnExactTabCountRow : OpenClaim := { program := "ytbcmoanmkonfpaa", sum := "9aa4d8d04c982f2feeb7cd072c407682f41d3e8d6fd69cdc3cbaea8297c7f311", func := "loop.example/freshet/laws.FnExactTabCount", spec := "fnExactTabCount", apart := false }
def FnExactTabCountSaid : Prop := fnExactTabCountRow.holds Try.pinned (OpenSpec.ofChange fnExactTabCountSpec)

/-- ITS FALSE NEIGHBOUR: 'it returns false'. Refute it at one input. -/
def fnExactTabCountWrong : ChangeSpec := { name := "fnExactTabCount", fn := fun _ => fun
  | [d] => { results := [.lit (.bool false)], args := [d] }
  | _ => none }
def FnExactTabCountWrongFalsely : Prop := fnExactTabCountRow.holds Try.pinned (OpenSpec.ofChange fnExactTabCountWrong)

/-- 'laws.FnExactTabSame': WHATEVER THE INPUT: true; the input reads as it did. -/
def fnExactTabSameSpec : ChangeSpec := { name := "fnExactTabSame", fn := fun _ => fun
  | [d1, d2] => { results := [.lit (.bool true)], args := [d1, d2] }
  | _ => none }
def fnExactTabSameRow : OpenClaim := { program := "ytbcmoanmkonfpaa", sum := "9aa4d8d04c982f2feeb7cd072c407682f41d3e8d6fd69cdc3cbaea8297c7f311", func := "loop.example/freshet/laws.FnExactTabSame", spec := "fnExactTabSame", apart := false }
def FnExactTabSameSaid : Prop := fnExactTabSameRow.holds Try.pinned (OpenSpec.ofChange fnExactTabSameSpec)

/-- ITS FALSE NEIGHBOUR: 'it returns false'. Refute it at one input. -/
def fnExactTabSameWrong : ChangeSpec := { name := "fnExactTabSame", fn := fun _ => fun
  | [d1, d2] => { results := [.lit (.bool false)], args := [d1, d2] }
  | _ => none }
def FnExactTabSameWrongFalsely : Prop := fnExactTabSameRow.holds Try.pinned (OpenSpec.ofChange fnExactTabSameWrong)

/-- 'laws.FnExactLatRecs': WHATEVER THE INPUT: true; the input reads as it did. -/
def fnExactLatRecsSpec : ChangeSpec := { name := "fnExactLatRecs", fn := fun _ => fun
  | [d] => { results := [.lit (.bool true)], args := [d] }
  | _ => none }
def fnExactLatRecsRow : OpenClaim := { program := "ytbcmoanmkonfpaa", sum := "9aa4d8d04c982f2feeb7cd072c407682f41d3e8d6fd69cdc3cbaea8297c7f311", func := "loop.example/freshet/laws.FnExactLatRecs", spec := "fnExactLatRecs", apart := false }
def FnExactLatRecsSaid : Prop := fnExactLatRecsRow.holds Try.pinned (OpenSpec.ofChange fnExactLatRecsSpec)

/-- ITS FALSE NEIGHBOUR: 'it returns false'. Refute it at one input. -/
def fnExactLatRecsWrong : ChangeSpec := { name := "fnExactLatRecs", fn := fun _ => fun
  | [d] => { results := [.lit (.bool false)], args := [d] }
  | _ => none }
def FnExactLatRecsWrongFalsely : Prop := fnExactLatRecsRow.holds Try.pinned (OpenSpec.ofChange fnExactLatRecsWrong)

/-- 'laws.FnExactPanOf': WHATEVER THE INPUT: true; the input reads as it did. -/
def fnExactPanOfSpec : ChangeSpec := { name := "fnExactPanOf", fn := fun _ => fun
  | [d1, d2, d3] => { results := [.lit (.bool true)], args := [d1, d2, d3] }
  | _ => none }
def fnExactPanOfRow : OpenClaim := { program := "ytbcmoanmkonfpaa", sum := "9aa4d8d04c982f2feeb7cd072c407682f41d3e8d6fd69cdc3cbaea8297c7f311", func := "loop.example/freshet/laws.FnExactPanOf", spec := "fnExactPanOf", unfollowed := true, recurses := true, apart := false }
def FnExactPanOfSaid : Prop := fnExactPanOfRow.holds Try.pinned (OpenSpec.ofChange fnExactPanOfSpec)

/-- ITS FALSE NEIGHBOUR: 'it returns false'. Refute it at one input. -/
def fnExactPanOfWrong : ChangeSpec := { name := "fnExactPanOf", fn := fun _ => fun
  | [d1, d2, d3] => { results := [.lit (.bool false)], args := [d1, d2, d3] }
  | _ => none }
def FnExactPanOfWrongFalsely : Prop := fnExactPanOfRow.holds Try.pinned (OpenSpec.ofChange fnExactPanOfWrong)

/- THE SECOND FORM. 'bulk': how many values and letters a reading holds, each counted each time it is reached (what is shared counts as often as it is met; a slice's spare places count too). A statement '..UptoSaid' is the law's where the arguments, and the package variables that the reading takes, are together of bulk at most 1048576: NARROWER than '..Said'. Prove '..Said' where nothing that the law and all that it calls make is longer than what came in: it says more and counts as full. Else prove '..UptoSaid'. A law counts once. -/
mutual
def uptoBulk {H : Type} : DataW H → Nat
  | .lit (.string bytes) => bytes.length + 1
  | .lit _ => 1
  | .nil => 1
  | .ptr d => uptoBulk d + 1
  | .slice elems spare => uptoBulkAll elems + uptoBulkAll spare + 1
  | .agg parts => uptoBulkAll parts + 1
  | .iface _ d => uptoBulk d + 1
  | .map entries => uptoBulkEntries entries + 1
  | .held _ => 1
def uptoBulkAll {H : Type} : List (DataW H) → Nat
  | [] => 0
  | d :: r => uptoBulk d + uptoBulkAll r
def uptoBulkEntries {H : Type} : List (Lit × DataW H) → Nat
  | [] => 0
  | x :: r => uptoBulkEntry x + uptoBulkEntries r
def uptoBulkEntry {H : Type} : Lit × DataW H → Nat
  | (.string bytes, d) => bytes.length + uptoBulk d + 1
  | (_, d) => uptoBulk d + 1
 end
def uptoSmall : (H : Type) → List (DataW H) → Bool := fun _ ds => decide (uptoBulkAll ds ≤ 1048576)
def OpenSpec.upto (s : _root_.Go.ChangeSpec) : _root_.Go.OpenSpec := { _root_.Go.OpenSpec.ofChange s with cond := some uptoSmall }

/-- 'laws.FnExactPanOk', WHERE WHAT IT READS IS OF BULK AT MOST 1048576: true; the input reads as it did. -/
def fnExactPanOkUptoRow : OpenClaim := { program := "ytbcmoanmkonfpaa", sum := "9aa4d8d04c982f2feeb7cd072c407682f41d3e8d6fd69cdc3cbaea8297c7f311", func := "loop.example/freshet/laws.FnExactPanOk", spec := "fnExactPanOk", apart := false, narrowed := true }
def FnExactPanOkUptoSaid : Prop := fnExactPanOkUptoRow.holds Try.pinned (OpenSpec.upto fnExactPanOkSpec)

/-- 'laws.FnExactLatOk', WHERE WHAT IT READS IS OF BULK AT MOST 1048576: true; the input reads as it did. -/
def fnExactLatOkUptoRow : OpenClaim := { program := "ytbcmoanmkonfpaa", sum := "9aa4d8d04c982f2feeb7cd072c407682f41d3e8d6fd69cdc3cbaea8297c7f311", func := "loop.example/freshet/laws.FnExactLatOk", spec := "fnExactLatOk", unfollowed := true, recurses := true, apart := false, narrowed := true }
def FnExactLatOkUptoSaid : Prop := fnExactLatOkUptoRow.holds Try.pinned (OpenSpec.upto fnExactLatOkSpec)

/-- 'laws.FnExactTabFind', WHERE WHAT IT READS IS OF BULK AT MOST 1048576: true; the input reads as it did. -/
def fnExactTabFindUptoRow : OpenClaim := { program := "ytbcmoanmkonfpaa", sum := "9aa4d8d04c982f2feeb7cd072c407682f41d3e8d6fd69cdc3cbaea8297c7f311", func := "loop.example/freshet/laws.FnExactTabFind", spec := "fnExactTabFind", apart := false, narrowed := true }
def FnExactTabFindUptoSaid : Prop := fnExactTabFindUptoRow.holds Try.pinned (OpenSpec.upto fnExactTabFindSpec)

/-- 'laws.FnExactTabOut', WHERE WHAT IT READS IS OF BULK AT MOST 1048576: true; the input reads as it did. -/
def fnExactTabOutUptoRow : OpenClaim := { program := "ytbcmoanmkonfpaa", sum := "9aa4d8d04c982f2feeb7cd072c407682f41d3e8d6fd69cdc3cbaea8297c7f311", func := "loop.example/freshet/laws.FnExactTabOut", spec := "fnExactTabOut", unfollowed := true, recurses := true, apart := false, narrowed := true }
def FnExactTabOutUptoSaid : Prop := fnExactTabOutUptoRow.holds Try.pinned (OpenSpec.upto fnExactTabOutSpec)

/-- 'laws.FnExactTabCount', WHERE WHAT IT READS IS OF BULK AT MOST 1048576: true; the input reads as it did. -/
def fnExactTabCountUptoRow : OpenClaim := { program := "ytbcmoanmkonfpaa", sum := "9aa4d8d04c982f2feeb7cd072c407682f41d3e8d6fd69cdc3cbaea8297c7f311", func := "loop.example/freshet/laws.FnExactTabCount", spec := "fnExactTabCount", apart := false, narrowed := true }
def FnExactTabCountUptoSaid : Prop := fnExactTabCountUptoRow.holds Try.pinned (OpenSpec.upto fnExactTabCountSpec)

/-- 'laws.FnExactTabSame', WHERE WHAT IT READS IS OF BULK AT MOST 1048576: true; the input reads as it did. -/
def fnExactTabSameUptoRow : OpenClaim := { program := "ytbcmoanmkonfpaa", sum := "9aa4d8d04c982f2feeb7cd072c407682f41d3e8d6fd69cdc3cbaea8297c7f311", func := "loop.example/freshet/laws.FnExactTabSame", spec := "fnExactTabSame", apart := false, narrowed := true }
def FnExactTabSameUptoSaid : Prop := fnExactTabSameUptoRow.holds Try.pinned (OpenSpec.upto fnExactTabSameSpec)

/-- 'laws.FnExactLatRecs', WHERE WHAT IT READS IS OF BULK AT MOST 1048576: true; the input reads as it did. -/
def fnExactLatRecsUptoRow : OpenClaim := { program := "ytbcmoanmkonfpaa", sum := "9aa4d8d04c982f2feeb7cd072c407682f41d3e8d6fd69cdc3cbaea8297c7f311", func := "loop.example/freshet/laws.FnExactLatRecs", spec := "fnExactLatRecs", apart := false, narrowed := true }
def FnExactLatRecsUptoSaid : Prop := fnExactLatRecsUptoRow.holds Try.pinned (OpenSpec.upto fnExactLatRecsSpec)

/-- 'laws.FnExactPanOf', WHERE WHAT IT READS IS OF BULK AT MOST 1048576: true; the input reads as it did. -/
def fnExactPanOfUptoRow : OpenClaim := { program := "ytbcmoanmkonfpaa", sum := "9aa4d8d04c982f2feeb7cd072c407682f41d3e8d6fd69cdc3cbaea8297c7f311", func := "loop.example/freshet/laws.FnExactPanOf", spec := "fnExactPanOf", unfollowed := true, recurses := true, apart := false, narrowed := true }
def FnExactPanOfUptoSaid : Prop := fnExactPanOfUptoRow.holds Try.pinned (OpenSpec.upto fnExactPanOfSpec)

end Rows
end Go.Proofs.Ytbcmoanmkonfpaa
