/-
  No cell of these rows narrows 'for every input' (looked for: loops, veiled, ifaces, maps, wideKeys, modest, calm, conditions, laid).
  DERIVED. THE GIVEN ROWS OF THIS SEAT. 7 by the template 'for every input the law returns true; each argument reads behind the call as it read before'; 0 by the template 'total and deterministic' (their statements: YteiomphjcoopnaaTotals.lean).
  GIVEN WITH THE SEED: the statements are not yours to turn. If you find one false, say at which input.
  Laid BY PROGRAM, IN A SANDBOX (cutbox-rows.mjs): the forced cells as the released guide's own fill.sh prints them over the translation 585e877eda00c75b… (all of the seat's roots in one cut). By AI agents, Wed Nov 11 2026. No macro, syntax, notation, axiom, sorry.
-/
import Derived.Test.YteiomphjcoopnaaChecked
import GoSem.Claim
import GoSem.ClaimJoined
import GoSem.ClaimMapViews
import Derived.JoinedTies
import Derived.KernelRfl
namespace Go.Proofs.Yteiomphjcoopnaa
/- THE CELL 'sum', in the pinned program and in every row, IS THE sha256 OF THE DUMP (.gsa) THAT YteiomphjcoopnaaProg.lean LOADS. Nothing in Lean hashes anything: it is a label: what it is worth is what the hold of that sum in a sandbox is worth. -/
noncomputable def Try.pinned : Pinned := { name := "yteiomphjcoopnaa", sum := "585e877eda00c75b099396a59f9ff1c54df67d15dd474341e20dfbdcafe86699", checked := Try.checked }
namespace Rows
def none {H : Type} : Left H := { results := [], args := [] }

/-- 'laws.FnExactAggOk': WHATEVER THE INPUT: true; the input reads as it did. -/
def fnExactAggOkSpec : ChangeSpec := { name := "fnExactAggOk", fn := fun _ => fun
  | [d] => { results := [.lit (.bool true)], args := [d] }
  | _ => none }
def fnExactAggOkRow : OpenClaim := { program := "yteiomphjcoopnaa", sum := "585e877eda00c75b099396a59f9ff1c54df67d15dd474341e20dfbdcafe86699", func := "loop.example/freshet/laws.FnExactAggOk", spec := "fnExactAggOk", apart := false }
def FnExactAggOkSaid : Prop := fnExactAggOkRow.holds Try.pinned (OpenSpec.ofChange fnExactAggOkSpec)

/-- ITS FALSE NEIGHBOUR: 'it returns false'. Refute it at one input. -/
def fnExactAggOkWrong : ChangeSpec := { name := "fnExactAggOk", fn := fun _ => fun
  | [d] => { results := [.lit (.bool false)], args := [d] }
  | _ => none }
def FnExactAggOkWrongFalsely : Prop := fnExactAggOkRow.holds Try.pinned (OpenSpec.ofChange fnExactAggOkWrong)

/-- 'laws.FnExactAggBoth': WHATEVER THE INPUT: true; the input reads as it did. -/
def fnExactAggBothSpec : ChangeSpec := { name := "fnExactAggBoth", fn := fun _ => fun
  | [d1, d2] => { results := [.lit (.bool true)], args := [d1, d2] }
  | _ => none }
def fnExactAggBothRow : OpenClaim := { program := "yteiomphjcoopnaa", sum := "585e877eda00c75b099396a59f9ff1c54df67d15dd474341e20dfbdcafe86699", func := "loop.example/freshet/laws.FnExactAggBoth", spec := "fnExactAggBoth", unfollowed := true, recurses := true, apart := false }
def FnExactAggBothSaid : Prop := fnExactAggBothRow.holds Try.pinned (OpenSpec.ofChange fnExactAggBothSpec)

/-- ITS FALSE NEIGHBOUR: 'it returns false'. Refute it at one input. -/
def fnExactAggBothWrong : ChangeSpec := { name := "fnExactAggBoth", fn := fun _ => fun
  | [d1, d2] => { results := [.lit (.bool false)], args := [d1, d2] }
  | _ => none }
def FnExactAggBothWrongFalsely : Prop := fnExactAggBothRow.holds Try.pinned (OpenSpec.ofChange fnExactAggBothWrong)

/-- 'laws.FnExactAggAdd': WHATEVER THE INPUT: true; the input reads as it did. -/
def fnExactAggAddSpec : ChangeSpec := { name := "fnExactAggAdd", fn := fun _ => fun
  | [d1, d2] => { results := [.lit (.bool true)], args := [d1, d2] }
  | _ => none }
def fnExactAggAddRow : OpenClaim := { program := "yteiomphjcoopnaa", sum := "585e877eda00c75b099396a59f9ff1c54df67d15dd474341e20dfbdcafe86699", func := "loop.example/freshet/laws.FnExactAggAdd", spec := "fnExactAggAdd", unfollowed := true, recurses := true, apart := false }
def FnExactAggAddSaid : Prop := fnExactAggAddRow.holds Try.pinned (OpenSpec.ofChange fnExactAggAddSpec)

/-- ITS FALSE NEIGHBOUR: 'it returns false'. Refute it at one input. -/
def fnExactAggAddWrong : ChangeSpec := { name := "fnExactAggAdd", fn := fun _ => fun
  | [d1, d2] => { results := [.lit (.bool false)], args := [d1, d2] }
  | _ => none }
def FnExactAggAddWrongFalsely : Prop := fnExactAggAddRow.holds Try.pinned (OpenSpec.ofChange fnExactAggAddWrong)

/-- 'laws.FnExactAggTell': WHATEVER THE INPUT: true; the input reads as it did. -/
def fnExactAggTellSpec : ChangeSpec := { name := "fnExactAggTell", fn := fun _ => fun
  | [d1, d2] => { results := [.lit (.bool true)], args := [d1, d2] }
  | _ => none }
def fnExactAggTellRow : OpenClaim := { program := "yteiomphjcoopnaa", sum := "585e877eda00c75b099396a59f9ff1c54df67d15dd474341e20dfbdcafe86699", func := "loop.example/freshet/laws.FnExactAggTell", spec := "fnExactAggTell", apart := false }
def FnExactAggTellSaid : Prop := fnExactAggTellRow.holds Try.pinned (OpenSpec.ofChange fnExactAggTellSpec)

/-- ITS FALSE NEIGHBOUR: 'it returns false'. Refute it at one input. -/
def fnExactAggTellWrong : ChangeSpec := { name := "fnExactAggTell", fn := fun _ => fun
  | [d1, d2] => { results := [.lit (.bool false)], args := [d1, d2] }
  | _ => none }
def FnExactAggTellWrongFalsely : Prop := fnExactAggTellRow.holds Try.pinned (OpenSpec.ofChange fnExactAggTellWrong)

/-- 'laws.FnExactJobOk': WHATEVER THE INPUT: true; the input reads as it did. -/
def fnExactJobOkSpec : ChangeSpec := { name := "fnExactJobOk", fn := fun _ => fun
  | [d] => { results := [.lit (.bool true)], args := [d] }
  | _ => none }
def fnExactJobOkRow : OpenClaim := { program := "yteiomphjcoopnaa", sum := "585e877eda00c75b099396a59f9ff1c54df67d15dd474341e20dfbdcafe86699", func := "loop.example/freshet/laws.FnExactJobOk", spec := "fnExactJobOk", apart := false }
def FnExactJobOkSaid : Prop := fnExactJobOkRow.holds Try.pinned (OpenSpec.ofChange fnExactJobOkSpec)

/-- ITS FALSE NEIGHBOUR: 'it returns false'. Refute it at one input. -/
def fnExactJobOkWrong : ChangeSpec := { name := "fnExactJobOk", fn := fun _ => fun
  | [d] => { results := [.lit (.bool false)], args := [d] }
  | _ => none }
def FnExactJobOkWrongFalsely : Prop := fnExactJobOkRow.holds Try.pinned (OpenSpec.ofChange fnExactJobOkWrong)

/-- 'laws.FnExactWinOf': WHATEVER THE INPUT: true; the input reads as it did. -/
def fnExactWinOfSpec : ChangeSpec := { name := "fnExactWinOf", fn := fun _ => fun
  | [d1, d2] => { results := [.lit (.bool true)], args := [d1, d2] }
  | _ => none }
def fnExactWinOfRow : OpenClaim := { program := "yteiomphjcoopnaa", sum := "585e877eda00c75b099396a59f9ff1c54df67d15dd474341e20dfbdcafe86699", func := "loop.example/freshet/laws.FnExactWinOf", spec := "fnExactWinOf", unfollowed := true, recurses := true, apart := false }
def FnExactWinOfSaid : Prop := fnExactWinOfRow.holds Try.pinned (OpenSpec.ofChange fnExactWinOfSpec)

/-- ITS FALSE NEIGHBOUR: 'it returns false'. Refute it at one input. -/
def fnExactWinOfWrong : ChangeSpec := { name := "fnExactWinOf", fn := fun _ => fun
  | [d1, d2] => { results := [.lit (.bool false)], args := [d1, d2] }
  | _ => none }
def FnExactWinOfWrongFalsely : Prop := fnExactWinOfRow.holds Try.pinned (OpenSpec.ofChange fnExactWinOfWrong)

/-- 'laws.FnExactJobTask': WHATEVER THE INPUT: true; the input reads as it did. -/
def fnExactJobTaskSpec : ChangeSpec := { name := "fnExactJobTask", fn := fun _ => fun
  | [d1, d2] => { results := [.lit (.bool true)], args := [d1, d2] }
  | _ => none }
def fnExactJobTaskRow : OpenClaim := { program := "yteiomphjcoopnaa", sum := "585e877eda00c75b099396a59f9ff1c54df67d15dd474341e20dfbdcafe86699", func := "loop.example/freshet/laws.FnExactJobTask", spec := "fnExactJobTask", apart := false }
def FnExactJobTaskSaid : Prop := fnExactJobTaskRow.holds Try.pinned (OpenSpec.ofChange fnExactJobTaskSpec)

/-- ITS FALSE NEIGHBOUR: 'it returns false'. Refute it at one input. -/
def fnExactJobTaskWrong : ChangeSpec := { name := "fnExactJobTask", fn := fun _ => fun
  | [d1, d2] => { results := [.lit (.bool false)], args := [d1, d2] }
  | _ => none }
def FnExactJobTaskWrongFalsely : Prop := fnExactJobTaskRow.holds Try.pinned (OpenSpec.ofChange fnExactJobTaskWrong)

/- THE SECOND FORM. 'bulk': how many values and letters a reading holds, each counted each time it is reached (what is shared counts as often as it is met; a slice's spare places count too). A statement '..UptoSaid' is the law's where the arguments, and the package variables that the reading takes, are together of bulk at most 1048576: NARROWER than '..Said'. Prove '..Said' where nothing that the law and all that it calls make is longer than what came in: it says more and counts as full. Else prove '..UptoSaid'. A law counts once. -/
mutual
def uptoBulk {H : Type} : DataW H → Nat
  | .lit (.string bytes) => bytes.length + 1
  | .lit _ => 1
  | .nil => 1
  | .ptr d => uptoBulk d + 1
  | .slice elems spare => uptoBulkAll elems + uptoBulkAll spare + 1
  | .agg parts => uptoBulkAll parts + 1
  | .iface _ d => uptoBulk d + 1
  | .map entries => uptoBulkEntries entries + 1
  | .held _ => 1
def uptoBulkAll {H : Type} : List (DataW H) → Nat
  | [] => 0
  | d :: r => uptoBulk d + uptoBulkAll r
def uptoBulkEntries {H : Type} : List (Lit × DataW H) → Nat
  | [] => 0
  | x :: r => uptoBulkEntry x + uptoBulkEntries r
def uptoBulkEntry {H : Type} : Lit × DataW H → Nat
  | (.string bytes, d) => bytes.length + uptoBulk d + 1
  | (_, d) => uptoBulk d + 1
 end
def uptoSmall : (H : Type) → List (DataW H) → Bool := fun _ ds => decide (uptoBulkAll ds ≤ 1048576)
def OpenSpec.upto (s : _root_.Go.ChangeSpec) : _root_.Go.OpenSpec := { _root_.Go.OpenSpec.ofChange s with cond := some uptoSmall }

/-- 'laws.FnExactAggOk', WHERE WHAT IT READS IS OF BULK AT MOST 1048576: true; the input reads as it did. -/
def fnExactAggOkUptoRow : OpenClaim := { program := "yteiomphjcoopnaa", sum := "585e877eda00c75b099396a59f9ff1c54df67d15dd474341e20dfbdcafe86699", func := "loop.example/freshet/laws.FnExactAggOk", spec := "fnExactAggOk", apart := false, narrowed := true }
def FnExactAggOkUptoSaid : Prop := fnExactAggOkUptoRow.holds Try.pinned (OpenSpec.upto fnExactAggOkSpec)

/-- 'laws.FnExactAggBoth', WHERE WHAT IT READS IS OF BULK AT MOST 1048576: true; the input reads as it did. -/
def fnExactAggBothUptoRow : OpenClaim := { program := "yteiomphjcoopnaa", sum := "585e877eda00c75b099396a59f9ff1c54df67d15dd474341e20dfbdcafe86699", func := "loop.example/freshet/laws.FnExactAggBoth", spec := "fnExactAggBoth", unfollowed := true, recurses := true, apart := false, narrowed := true }
def FnExactAggBothUptoSaid : Prop := fnExactAggBothUptoRow.holds Try.pinned (OpenSpec.upto fnExactAggBothSpec)

/-- 'laws.FnExactAggAdd', WHERE WHAT IT READS IS OF BULK AT MOST 1048576: true; the input reads as it did. -/
def fnExactAggAddUptoRow : OpenClaim := { program := "yteiomphjcoopnaa", sum := "585e877eda00c75b099396a59f9ff1c54df67d15dd474341e20dfbdcafe86699", func := "loop.example/freshet/laws.FnExactAggAdd", spec := "fnExactAggAdd", unfollowed := true, recurses := true, apart := false, narrowed := true }
def FnExactAggAddUptoSaid : Prop := fnExactAggAddUptoRow.holds Try.pinned (OpenSpec.upto fnExactAggAddSpec)

/-- 'laws.FnExactAggTell', WHERE WHAT IT READS IS OF BULK AT MOST 1048576: true; the input reads as it did. -/
def fnExactAggTellUptoRow : OpenClaim := { program := "yteiomphjcoopnaa", sum := "585e877eda00c75b099396a59f9ff1c54df67d15dd474341e20dfbdcafe86699", func := "loop.example/freshet/laws.FnExactAggTell", spec := "fnExactAggTell", apart := false, narrowed := true }
def FnExactAggTellUptoSaid : Prop := fnExactAggTellUptoRow.holds Try.pinned (OpenSpec.upto fnExactAggTellSpec)

/-- 'laws.FnExactJobOk', WHERE WHAT IT READS IS OF BULK AT MOST 1048576: true; the input reads as it did. -/
def fnExactJobOkUptoRow : OpenClaim := { program := "yteiomphjcoopnaa", sum := "585e877eda00c75b099396a59f9ff1c54df67d15dd474341e20dfbdcafe86699", func := "loop.example/freshet/laws.FnExactJobOk", spec := "fnExactJobOk", apart := false, narrowed := true }
def FnExactJobOkUptoSaid : Prop := fnExactJobOkUptoRow.holds Try.pinned (OpenSpec.upto fnExactJobOkSpec)

/-- 'laws.FnExactWinOf', WHERE WHAT IT READS IS OF BULK AT MOST 1048576: true; the input reads as it did. -/
def fnExactWinOfUptoRow : OpenClaim := { program := "yteiomphjcoopnaa", sum := "585e877eda00c75b099396a59f9ff1c54df67d15dd474341e20dfbdcafe86699", func := "loop.example/freshet/laws.FnExactWinOf", spec := "fnExactWinOf", unfollowed := true, recurses := true, apart := false, narrowed := true }
def FnExactWinOfUptoSaid : Prop := fnExactWinOfUptoRow.holds Try.pinned (OpenSpec.upto fnExactWinOfSpec)

/-- 'laws.FnExactJobTask', WHERE WHAT IT READS IS OF BULK AT MOST 1048576: true; the input reads as it did. -/
def fnExactJobTaskUptoRow : OpenClaim := { program := "yteiomphjcoopnaa", sum := "585e877eda00c75b099396a59f9ff1c54df67d15dd474341e20dfbdcafe86699", func := "loop.example/freshet/laws.FnExactJobTask", spec := "fnExactJobTask", apart := false, narrowed := true }
def FnExactJobTaskUptoSaid : Prop := fnExactJobTaskUptoRow.holds Try.pinned (OpenSpec.upto fnExactJobTaskSpec)

end Rows
end Go.Proofs.Yteiomphjcoopnaa
