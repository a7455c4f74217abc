/-
  No cell of these rows narrows 'for every input' (looked for: loops, veiled, ifaces, maps, wideKeys, modest, calm, conditions, laid).
  DERIVED. THE GIVEN ROWS OF THIS SEAT. 7 by the template 'for every input the law returns true; each argument reads behind the call as it read before'; 0 by the template 'total and deterministic' (their statements: YtbbgiklhkhlnaaaTotals.lean).
  GIVEN WITH THE SEED: the statements are not yours to turn. If you find one false, say at which input.
  Laid BY PROGRAM, IN A SANDBOX (cutbox-rows.mjs): the forced cells as the released guide's own fill.sh prints them over the translation 36700c2529b2e0d4… (all of the seat's roots in one cut). By AI agents, Wed Nov 11 2026. No macro, syntax, notation, axiom, sorry.
-/
import Derived.Test.YtbbgiklhkhlnaaaChecked
import GoSem.Claim
import GoSem.ClaimJoined
import GoSem.ClaimMapViews
import Derived.JoinedTies
import Derived.KernelRfl
namespace Go.Proofs.Ytbbgiklhkhlnaaa
/- THE CELL 'sum', in the pinned program and in every row, IS THE sha256 OF THE DUMP (.gsa) THAT YtbbgiklhkhlnaaaProg.lean LOADS. Nothing in Lean hashes anything: it is a label: what it is worth is what the hold of that sum in a sandbox is worth. -/
noncomputable def Try.pinned : Pinned := { name := "ytbbgiklhkhlnaaa", sum := "36700c2529b2e0d4f63d6f6247a6679a4cb722fcb1c3d0b3f77b61398688d5fb", checked := Try.checked }
namespace Rows
def none {H : Type} : Left H := { results := [], args := [] }

/-- 'laws.FnExactItmOk': WHATEVER THE INPUT: true; the input reads as it did. -/
def fnExactItmOkSpec : ChangeSpec := { name := "fnExactItmOk", fn := fun _ => fun
  | [d] => { results := [.lit (.bool true)], args := [d] }
  | _ => none }
def fnExactItmOkRow : OpenClaim := { program := "ytbbgiklhkhlnaaa", sum := "36700c2529b2e0d4f63d6f6247a6679a4cb722fcb1c3d0b3f77b61398688d5fb", func := "loop.example/freshet/laws.FnExactItmOk", spec := "fnExactItmOk", unfollowed := true, recurses := true, apart := false }
def FnExactItmOkSaid : Prop := fnExactItmOkRow.holds Try.pinned (OpenSpec.ofChange fnExactItmOkSpec)

/-- ITS FALSE NEIGHBOUR: 'it returns false'. Refute it at one input. -/
def fnExactItmOkWrong : ChangeSpec := { name := "fnExactItmOk", fn := fun _ => fun
  | [d] => { results := [.lit (.bool false)], args := [d] }
  | _ => none }
def FnExactItmOkWrongFalsely : Prop := fnExactItmOkRow.holds Try.pinned (OpenSpec.ofChange fnExactItmOkWrong)

/-- 'laws.FnExactLogOk': WHATEVER THE INPUT: true; the input reads as it did. -/
def fnExactLogOkSpec : ChangeSpec := { name := "fnExactLogOk", fn := fun _ => fun
  | [d] => { results := [.lit (.bool true)], args := [d] }
  | _ => none }
def fnExactLogOkRow : OpenClaim := { program := "ytbbgiklhkhlnaaa", sum := "36700c2529b2e0d4f63d6f6247a6679a4cb722fcb1c3d0b3f77b61398688d5fb", func := "loop.example/freshet/laws.FnExactLogOk", spec := "fnExactLogOk", unfollowed := true, recurses := true, apart := false }
def FnExactLogOkSaid : Prop := fnExactLogOkRow.holds Try.pinned (OpenSpec.ofChange fnExactLogOkSpec)

/-- ITS FALSE NEIGHBOUR: 'it returns false'. Refute it at one input. -/
def fnExactLogOkWrong : ChangeSpec := { name := "fnExactLogOk", fn := fun _ => fun
  | [d] => { results := [.lit (.bool false)], args := [d] }
  | _ => none }
def FnExactLogOkWrongFalsely : Prop := fnExactLogOkRow.holds Try.pinned (OpenSpec.ofChange fnExactLogOkWrong)

/-- 'laws.FnExactLogRecs': WHATEVER THE INPUT: true; the input reads as it did. -/
def fnExactLogRecsSpec : ChangeSpec := { name := "fnExactLogRecs", fn := fun _ => fun
  | [d1, d2] => { results := [.lit (.bool true)], args := [d1, d2] }
  | _ => none }
def fnExactLogRecsRow : OpenClaim := { program := "ytbbgiklhkhlnaaa", sum := "36700c2529b2e0d4f63d6f6247a6679a4cb722fcb1c3d0b3f77b61398688d5fb", func := "loop.example/freshet/laws.FnExactLogRecs", spec := "fnExactLogRecs", unfollowed := true, recurses := true, apart := false }
def FnExactLogRecsSaid : Prop := fnExactLogRecsRow.holds Try.pinned (OpenSpec.ofChange fnExactLogRecsSpec)

/-- ITS FALSE NEIGHBOUR: 'it returns false'. Refute it at one input. -/
def fnExactLogRecsWrong : ChangeSpec := { name := "fnExactLogRecs", fn := fun _ => fun
  | [d1, d2] => { results := [.lit (.bool false)], args := [d1, d2] }
  | _ => none }
def FnExactLogRecsWrongFalsely : Prop := fnExactLogRecsRow.holds Try.pinned (OpenSpec.ofChange fnExactLogRecsWrong)

/-- 'laws.FnExactLogPunctual': WHATEVER THE INPUT: true; the input reads as it did. -/
def fnExactLogPunctualSpec : ChangeSpec := { name := "fnExactLogPunctual", fn := fun _ => fun
  | [d1, d2] => { results := [.lit (.bool true)], args := [d1, d2] }
  | _ => none }
def fnExactLogPunctualRow : OpenClaim := { program := "ytbbgiklhkhlnaaa", sum := "36700c2529b2e0d4f63d6f6247a6679a4cb722fcb1c3d0b3f77b61398688d5fb", func := "loop.example/freshet/laws.FnExactLogPunctual", spec := "fnExactLogPunctual", unfollowed := true, recurses := true, apart := false }
def FnExactLogPunctualSaid : Prop := fnExactLogPunctualRow.holds Try.pinned (OpenSpec.ofChange fnExactLogPunctualSpec)

/-- ITS FALSE NEIGHBOUR: 'it returns false'. Refute it at one input. -/
def fnExactLogPunctualWrong : ChangeSpec := { name := "fnExactLogPunctual", fn := fun _ => fun
  | [d1, d2] => { results := [.lit (.bool false)], args := [d1, d2] }
  | _ => none }
def FnExactLogPunctualWrongFalsely : Prop := fnExactLogPunctualRow.holds Try.pinned (OpenSpec.ofChange fnExactLogPunctualWrong)

/-- 'laws.FnExactWinOk': WHATEVER THE INPUT: true; the input reads as it did. -/
def fnExactWinOkSpec : ChangeSpec := { name := "fnExactWinOk", fn := fun _ => fun
  | [d] => { results := [.lit (.bool true)], args := [d] }
  | _ => none }
def fnExactWinOkRow : OpenClaim := { program := "ytbbgiklhkhlnaaa", sum := "36700c2529b2e0d4f63d6f6247a6679a4cb722fcb1c3d0b3f77b61398688d5fb", func := "loop.example/freshet/laws.FnExactWinOk", spec := "fnExactWinOk", apart := false }
def FnExactWinOkSaid : Prop := fnExactWinOkRow.holds Try.pinned (OpenSpec.ofChange fnExactWinOkSpec)

/-- ITS FALSE NEIGHBOUR: 'it returns false'. Refute it at one input. -/
def fnExactWinOkWrong : ChangeSpec := { name := "fnExactWinOk", fn := fun _ => fun
  | [d] => { results := [.lit (.bool false)], args := [d] }
  | _ => none }
def FnExactWinOkWrongFalsely : Prop := fnExactWinOkRow.holds Try.pinned (OpenSpec.ofChange fnExactWinOkWrong)

/-- 'laws.FnExactWinTouch': WHATEVER THE INPUT: true; the input reads as it did. -/
def fnExactWinTouchSpec : ChangeSpec := { name := "fnExactWinTouch", fn := fun _ => fun
  | [d1, d2] => { results := [.lit (.bool true)], args := [d1, d2] }
  | _ => none }
def fnExactWinTouchRow : OpenClaim := { program := "ytbbgiklhkhlnaaa", sum := "36700c2529b2e0d4f63d6f6247a6679a4cb722fcb1c3d0b3f77b61398688d5fb", func := "loop.example/freshet/laws.FnExactWinTouch", spec := "fnExactWinTouch", apart := false }
def FnExactWinTouchSaid : Prop := fnExactWinTouchRow.holds Try.pinned (OpenSpec.ofChange fnExactWinTouchSpec)

/-- ITS FALSE NEIGHBOUR: 'it returns false'. Refute it at one input. -/
def fnExactWinTouchWrong : ChangeSpec := { name := "fnExactWinTouch", fn := fun _ => fun
  | [d1, d2] => { results := [.lit (.bool false)], args := [d1, d2] }
  | _ => none }
def FnExactWinTouchWrongFalsely : Prop := fnExactWinTouchRow.holds Try.pinned (OpenSpec.ofChange fnExactWinTouchWrong)

/-- 'laws.FnExactWinSpan': WHATEVER THE INPUT: true; the input reads as it did. -/
def fnExactWinSpanSpec : ChangeSpec := { name := "fnExactWinSpan", fn := fun _ => fun
  | [d1, d2] => { results := [.lit (.bool true)], args := [d1, d2] }
  | _ => none }
def fnExactWinSpanRow : OpenClaim := { program := "ytbbgiklhkhlnaaa", sum := "36700c2529b2e0d4f63d6f6247a6679a4cb722fcb1c3d0b3f77b61398688d5fb", func := "loop.example/freshet/laws.FnExactWinSpan", spec := "fnExactWinSpan", apart := false }
def FnExactWinSpanSaid : Prop := fnExactWinSpanRow.holds Try.pinned (OpenSpec.ofChange fnExactWinSpanSpec)

/-- ITS FALSE NEIGHBOUR: 'it returns false'. Refute it at one input. -/
def fnExactWinSpanWrong : ChangeSpec := { name := "fnExactWinSpan", fn := fun _ => fun
  | [d1, d2] => { results := [.lit (.bool false)], args := [d1, d2] }
  | _ => none }
def FnExactWinSpanWrongFalsely : Prop := fnExactWinSpanRow.holds Try.pinned (OpenSpec.ofChange fnExactWinSpanWrong)

/- THE SECOND FORM. 'bulk': how many values and letters a reading holds, each counted each time it is reached (what is shared counts as often as it is met; a slice's spare places count too). A statement '..UptoSaid' is the law's where the arguments, and the package variables that the reading takes, are together of bulk at most 1048576: NARROWER than '..Said'. Prove '..Said' where nothing that the law and all that it calls make is longer than what came in: it says more and counts as full. Else prove '..UptoSaid'. A law counts once. -/
mutual
def uptoBulk {H : Type} : DataW H → Nat
  | .lit (.string bytes) => bytes.length + 1
  | .lit _ => 1
  | .nil => 1
  | .ptr d => uptoBulk d + 1
  | .slice elems spare => uptoBulkAll elems + uptoBulkAll spare + 1
  | .agg parts => uptoBulkAll parts + 1
  | .iface _ d => uptoBulk d + 1
  | .map entries => uptoBulkEntries entries + 1
  | .held _ => 1
def uptoBulkAll {H : Type} : List (DataW H) → Nat
  | [] => 0
  | d :: r => uptoBulk d + uptoBulkAll r
def uptoBulkEntries {H : Type} : List (Lit × DataW H) → Nat
  | [] => 0
  | x :: r => uptoBulkEntry x + uptoBulkEntries r
def uptoBulkEntry {H : Type} : Lit × DataW H → Nat
  | (.string bytes, d) => bytes.length + uptoBulk d + 1
  | (_, d) => uptoBulk d + 1
 end
def uptoSmall : (H : Type) → List (DataW H) → Bool := fun _ ds => decide (uptoBulkAll ds ≤ 1048576)
def OpenSpec.upto (s : _root_.Go.ChangeSpec) : _root_.Go.OpenSpec := { _root_.Go.OpenSpec.ofChange s with cond := some uptoSmall }

/-- 'laws.FnExactItmOk', WHERE WHAT IT READS IS OF BULK AT MOST 1048576: true; the input reads as it did. -/
def fnExactItmOkUptoRow : OpenClaim := { program := "ytbbgiklhkhlnaaa", sum := "36700c2529b2e0d4f63d6f6247a6679a4cb722fcb1c3d0b3f77b61398688d5fb", func := "loop.example/freshet/laws.FnExactItmOk", spec := "fnExactItmOk", unfollowed := true, recurses := true, apart := false, narrowed := true }
def FnExactItmOkUptoSaid : Prop := fnExactItmOkUptoRow.holds Try.pinned (OpenSpec.upto fnExactItmOkSpec)

/-- 'laws.FnExactLogOk', WHERE WHAT IT READS IS OF BULK AT MOST 1048576: true; the input reads as it did. -/
def fnExactLogOkUptoRow : OpenClaim := { program := "ytbbgiklhkhlnaaa", sum := "36700c2529b2e0d4f63d6f6247a6679a4cb722fcb1c3d0b3f77b61398688d5fb", func := "loop.example/freshet/laws.FnExactLogOk", spec := "fnExactLogOk", unfollowed := true, recurses := true, apart := false, narrowed := true }
def FnExactLogOkUptoSaid : Prop := fnExactLogOkUptoRow.holds Try.pinned (OpenSpec.upto fnExactLogOkSpec)

/-- 'laws.FnExactLogRecs', WHERE WHAT IT READS IS OF BULK AT MOST 1048576: true; the input reads as it did. -/
def fnExactLogRecsUptoRow : OpenClaim := { program := "ytbbgiklhkhlnaaa", sum := "36700c2529b2e0d4f63d6f6247a6679a4cb722fcb1c3d0b3f77b61398688d5fb", func := "loop.example/freshet/laws.FnExactLogRecs", spec := "fnExactLogRecs", unfollowed := true, recurses := true, apart := false, narrowed := true }
def FnExactLogRecsUptoSaid : Prop := fnExactLogRecsUptoRow.holds Try.pinned (OpenSpec.upto fnExactLogRecsSpec)

/-- 'laws.FnExactLogPunctual', WHERE WHAT IT READS IS OF BULK AT MOST 1048576: true; the input reads as it did. -/
def fnExactLogPunctualUptoRow : OpenClaim := { program := "ytbbgiklhkhlnaaa", sum := "36700c2529b2e0d4f63d6f6247a6679a4cb722fcb1c3d0b3f77b61398688d5fb", func := "loop.example/freshet/laws.FnExactLogPunctual", spec := "fnExactLogPunctual", unfollowed := true, recurses := true, apart := false, narrowed := true }
def FnExactLogPunctualUptoSaid : Prop := fnExactLogPunctualUptoRow.holds Try.pinned (OpenSpec.upto fnExactLogPunctualSpec)

/-- 'laws.FnExactWinOk', WHERE WHAT IT READS IS OF BULK AT MOST 1048576: true; the input reads as it did. -/
def fnExactWinOkUptoRow : OpenClaim := { program := "ytbbgiklhkhlnaaa", sum := "36700c2529b2e0d4f63d6f6247a6679a4cb722fcb1c3d0b3f77b61398688d5fb", func := "loop.example/freshet/laws.FnExactWinOk", spec := "fnExactWinOk", apart := false, narrowed := true }
def FnExactWinOkUptoSaid : Prop := fnExactWinOkUptoRow.holds Try.pinned (OpenSpec.upto fnExactWinOkSpec)

/-- 'laws.FnExactWinTouch', WHERE WHAT IT READS IS OF BULK AT MOST 1048576: true; the input reads as it did. -/
def fnExactWinTouchUptoRow : OpenClaim := { program := "ytbbgiklhkhlnaaa", sum := "36700c2529b2e0d4f63d6f6247a6679a4cb722fcb1c3d0b3f77b61398688d5fb", func := "loop.example/freshet/laws.FnExactWinTouch", spec := "fnExactWinTouch", apart := false, narrowed := true }
def FnExactWinTouchUptoSaid : Prop := fnExactWinTouchUptoRow.holds Try.pinned (OpenSpec.upto fnExactWinTouchSpec)

/-- 'laws.FnExactWinSpan', WHERE WHAT IT READS IS OF BULK AT MOST 1048576: true; the input reads as it did. -/
def fnExactWinSpanUptoRow : OpenClaim := { program := "ytbbgiklhkhlnaaa", sum := "36700c2529b2e0d4f63d6f6247a6679a4cb722fcb1c3d0b3f77b61398688d5fb", func := "loop.example/freshet/laws.FnExactWinSpan", spec := "fnExactWinSpan", apart := false, narrowed := true }
def FnExactWinSpanUptoSaid : Prop := fnExactWinSpanUptoRow.holds Try.pinned (OpenSpec.upto fnExactWinSpanSpec)

end Rows
end Go.Proofs.Ytbbgiklhkhlnaaa
