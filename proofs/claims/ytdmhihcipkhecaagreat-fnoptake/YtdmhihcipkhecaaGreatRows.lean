/-
  No cell of these rows narrows 'for every input' (looked for: loops, veiled, ifaces, maps, wideKeys, modest, calm, conditions, laid).
  DERIVED. THE GIVEN ROWS OF THIS SEAT. 4 by the template 'for every input the law returns true; each argument reads behind the call as it read before'; 0 by the template 'total and deterministic' (their statements: YtdmhihcipkhecaaGreatTotals.lean).
  GIVEN WITH THE SEED: the statements are not yours to turn. If you find one false, say at which input.
  Laid BY PROGRAM, IN A SANDBOX (cutbox-rows.mjs): the forced cells as the released guide's own fill.sh prints them over the translation c6fed0cc6df05803… (all of the seat's roots in one cut). By AI agents, Wed Nov 11 2026. No macro, syntax, notation, axiom, sorry.
-/
import Derived.Test.YtdmhihcipkhecaaGreatChecked
import GoSem.Claim
import GoSem.ClaimJoined
import GoSem.ClaimMapViews
import Derived.JoinedTies
import Derived.KernelRfl
namespace Go.Proofs.YtdmhihcipkhecaaGreat
/- THE CELL 'sum', in the pinned program and in every row, IS THE sha256 OF THE DUMP (.gsa) THAT YtdmhihcipkhecaaGreatProg.lean LOADS. Nothing in Lean hashes anything: it is a label: what it is worth is what the hold of that sum in a sandbox is worth. -/
noncomputable def Tryz.pinned : Pinned := { name := "ytdmhihcipkhecaagreat", sum := "c6fed0cc6df05803b75d7b0c8ed462094c5cbf903711773733ce2daa125253f8", checked := Tryz.checked }
namespace Rows
def none {H : Type} : Left H := { results := [], args := [] }

/-- 'laws.FnOpStays': WHATEVER THE INPUT: true; the input reads as it did. -/
def fnOpStaysSpec : ChangeSpec := { name := "fnOpStays", fn := fun _ => fun
  | [d1, d2] => { results := [.lit (.bool true)], args := [d1, d2] }
  | _ => none }
def fnOpStaysRow : OpenClaim := { program := "ytdmhihcipkhecaagreat", sum := "c6fed0cc6df05803b75d7b0c8ed462094c5cbf903711773733ce2daa125253f8", func := "loop.example/freshet/laws.FnOpStays", spec := "fnOpStays", unfollowed := true, recurses := true, plainKeys := false, apart := false }
def FnOpStaysSaid : Prop := fnOpStaysRow.holds Tryz.pinned (OpenSpec.ofChange fnOpStaysSpec)

/-- ITS FALSE NEIGHBOUR: 'it returns false'. Refute it at one input. -/
def fnOpStaysWrong : ChangeSpec := { name := "fnOpStays", fn := fun _ => fun
  | [d1, d2] => { results := [.lit (.bool false)], args := [d1, d2] }
  | _ => none }
def FnOpStaysWrongFalsely : Prop := fnOpStaysRow.holds Tryz.pinned (OpenSpec.ofChange fnOpStaysWrong)

/-- 'laws.FnOpTake': WHATEVER THE INPUT: true; the input reads as it did. -/
def fnOpTakeSpec : ChangeSpec := { name := "fnOpTake", fn := fun _ => fun
  | [d] => { results := [.lit (.bool true)], args := [d] }
  | _ => none }
def fnOpTakeRow : OpenClaim := { program := "ytdmhihcipkhecaagreat", sum := "c6fed0cc6df05803b75d7b0c8ed462094c5cbf903711773733ce2daa125253f8", func := "loop.example/freshet/laws.FnOpTake", spec := "fnOpTake", unfollowed := true, recurses := true, plainKeys := false, apart := false }
def FnOpTakeSaid : Prop := fnOpTakeRow.holds Tryz.pinned (OpenSpec.ofChange fnOpTakeSpec)

/-- ITS FALSE NEIGHBOUR: 'it returns false'. Refute it at one input. -/
def fnOpTakeWrong : ChangeSpec := { name := "fnOpTake", fn := fun _ => fun
  | [d] => { results := [.lit (.bool false)], args := [d] }
  | _ => none }
def FnOpTakeWrongFalsely : Prop := fnOpTakeRow.holds Tryz.pinned (OpenSpec.ofChange fnOpTakeWrong)

/-- 'laws.FnOpLate': WHATEVER THE INPUT: true; the input reads as it did. -/
def fnOpLateSpec : ChangeSpec := { name := "fnOpLate", fn := fun _ => fun
  | [d] => { results := [.lit (.bool true)], args := [d] }
  | _ => none }
def fnOpLateRow : OpenClaim := { program := "ytdmhihcipkhecaagreat", sum := "c6fed0cc6df05803b75d7b0c8ed462094c5cbf903711773733ce2daa125253f8", func := "loop.example/freshet/laws.FnOpLate", spec := "fnOpLate", unfollowed := true, recurses := true, plainKeys := false, apart := false }
def FnOpLateSaid : Prop := fnOpLateRow.holds Tryz.pinned (OpenSpec.ofChange fnOpLateSpec)

/-- ITS FALSE NEIGHBOUR: 'it returns false'. Refute it at one input. -/
def fnOpLateWrong : ChangeSpec := { name := "fnOpLate", fn := fun _ => fun
  | [d] => { results := [.lit (.bool false)], args := [d] }
  | _ => none }
def FnOpLateWrongFalsely : Prop := fnOpLateRow.holds Tryz.pinned (OpenSpec.ofChange fnOpLateWrong)

/-- 'laws.FnOpEnd': WHATEVER THE INPUT: true; the input reads as it did. -/
def fnOpEndSpec : ChangeSpec := { name := "fnOpEnd", fn := fun _ => fun
  | [d] => { results := [.lit (.bool true)], args := [d] }
  | _ => none }
def fnOpEndRow : OpenClaim := { program := "ytdmhihcipkhecaagreat", sum := "c6fed0cc6df05803b75d7b0c8ed462094c5cbf903711773733ce2daa125253f8", func := "loop.example/freshet/laws.FnOpEnd", spec := "fnOpEnd", unfollowed := true, recurses := true, plainKeys := false, apart := false }
def FnOpEndSaid : Prop := fnOpEndRow.holds Tryz.pinned (OpenSpec.ofChange fnOpEndSpec)

/-- ITS FALSE NEIGHBOUR: 'it returns false'. Refute it at one input. -/
def fnOpEndWrong : ChangeSpec := { name := "fnOpEnd", fn := fun _ => fun
  | [d] => { results := [.lit (.bool false)], args := [d] }
  | _ => none }
def FnOpEndWrongFalsely : Prop := fnOpEndRow.holds Tryz.pinned (OpenSpec.ofChange fnOpEndWrong)

/- THE SECOND FORM. 'bulk': how many values and letters a reading holds, each counted each time it is reached (what is shared counts as often as it is met; a slice's spare places count too). A statement '..UptoSaid' is the law's where the arguments, and the package variables that the reading takes, are together of bulk at most 1048576: NARROWER than '..Said'. Prove '..Said' where nothing that the law and all that it calls make is longer than what came in: it says more and counts as full. Else prove '..UptoSaid'. A law counts once. -/
mutual
def uptoBulk {H : Type} : DataW H → Nat
  | .lit (.string bytes) => bytes.length + 1
  | .lit _ => 1
  | .nil => 1
  | .ptr d => uptoBulk d + 1
  | .slice elems spare => uptoBulkAll elems + uptoBulkAll spare + 1
  | .agg parts => uptoBulkAll parts + 1
  | .iface _ d => uptoBulk d + 1
  | .map entries => uptoBulkEntries entries + 1
  | .held _ => 1
def uptoBulkAll {H : Type} : List (DataW H) → Nat
  | [] => 0
  | d :: r => uptoBulk d + uptoBulkAll r
def uptoBulkEntries {H : Type} : List (Lit × DataW H) → Nat
  | [] => 0
  | x :: r => uptoBulkEntry x + uptoBulkEntries r
def uptoBulkEntry {H : Type} : Lit × DataW H → Nat
  | (.string bytes, d) => bytes.length + uptoBulk d + 1
  | (_, d) => uptoBulk d + 1
 end
def uptoSmall : (H : Type) → List (DataW H) → Bool := fun _ ds => decide (uptoBulkAll ds ≤ 1048576)
def OpenSpec.upto (s : _root_.Go.ChangeSpec) : _root_.Go.OpenSpec := { _root_.Go.OpenSpec.ofChange s with cond := some uptoSmall }

/-- 'laws.FnOpStays', WHERE WHAT IT READS IS OF BULK AT MOST 1048576: true; the input reads as it did. -/
def fnOpStaysUptoRow : OpenClaim := { program := "ytdmhihcipkhecaagreat", sum := "c6fed0cc6df05803b75d7b0c8ed462094c5cbf903711773733ce2daa125253f8", func := "loop.example/freshet/laws.FnOpStays", spec := "fnOpStays", unfollowed := true, recurses := true, plainKeys := false, apart := false, narrowed := true }
def FnOpStaysUptoSaid : Prop := fnOpStaysUptoRow.holds Tryz.pinned (OpenSpec.upto fnOpStaysSpec)

/-- 'laws.FnOpTake', WHERE WHAT IT READS IS OF BULK AT MOST 1048576: true; the input reads as it did. -/
def fnOpTakeUptoRow : OpenClaim := { program := "ytdmhihcipkhecaagreat", sum := "c6fed0cc6df05803b75d7b0c8ed462094c5cbf903711773733ce2daa125253f8", func := "loop.example/freshet/laws.FnOpTake", spec := "fnOpTake", unfollowed := true, recurses := true, plainKeys := false, apart := false, narrowed := true }
def FnOpTakeUptoSaid : Prop := fnOpTakeUptoRow.holds Tryz.pinned (OpenSpec.upto fnOpTakeSpec)

/-- 'laws.FnOpLate', WHERE WHAT IT READS IS OF BULK AT MOST 1048576: true; the input reads as it did. -/
def fnOpLateUptoRow : OpenClaim := { program := "ytdmhihcipkhecaagreat", sum := "c6fed0cc6df05803b75d7b0c8ed462094c5cbf903711773733ce2daa125253f8", func := "loop.example/freshet/laws.FnOpLate", spec := "fnOpLate", unfollowed := true, recurses := true, plainKeys := false, apart := false, narrowed := true }
def FnOpLateUptoSaid : Prop := fnOpLateUptoRow.holds Tryz.pinned (OpenSpec.upto fnOpLateSpec)

/-- 'laws.FnOpEnd', WHERE WHAT IT READS IS OF BULK AT MOST 1048576: true; the input reads as it did. -/
def fnOpEndUptoRow : OpenClaim := { program := "ytdmhihcipkhecaagreat", sum := "c6fed0cc6df05803b75d7b0c8ed462094c5cbf903711773733ce2daa125253f8", func := "loop.example/freshet/laws.FnOpEnd", spec := "fnOpEnd", unfollowed := true, recurses := true, plainKeys := false, apart := false, narrowed := true }
def FnOpEndUptoSaid : Prop := fnOpEndUptoRow.holds Tryz.pinned (OpenSpec.upto fnOpEndSpec)

end Rows
end Go.Proofs.YtdmhihcipkhecaaGreat
