/-
  No cell of these rows narrows 'for every input' (looked for: loops, veiled, ifaces, maps, wideKeys, modest, calm, conditions, laid).
  DERIVED. THE GIVEN ROWS OF THIS SEAT. 4 by the template 'for every input the law returns true; each argument reads behind the call as it read before'; 0 by the template 'total and deterministic' (their statements: YtbockbdlojkpiaaGreatTotals.lean).
  GIVEN WITH THE SEED: the statements are not yours to turn. If you find one false, say at which input.
  Laid BY PROGRAM, IN A SANDBOX (cutbox-rows.mjs): the forced cells as the released guide's own fill.sh prints them over the translation ab6d9f7494d9db63… (all of the seat's roots in one cut). By AI agents, Wed Nov 11 2026. No macro, syntax, notation, axiom, sorry.
-/
import Derived.Test.YtbockbdlojkpiaaGreatChecked
import GoSem.Claim
import GoSem.ClaimJoined
import GoSem.ClaimMapViews
import Derived.JoinedTies
import Derived.KernelRfl
namespace Go.Proofs.YtbockbdlojkpiaaGreat
/- THE CELL 'sum', in the pinned program and in every row, IS THE sha256 OF THE DUMP (.gsa) THAT YtbockbdlojkpiaaGreatProg.lean LOADS. Nothing in Lean hashes anything: it is a label: what it is worth is what the hold of that sum in a sandbox is worth. -/
noncomputable def Tryz.pinned : Pinned := { name := "ytbockbdlojkpiaagreat", sum := "ab6d9f7494d9db63cd28f827526ef8b342208d17bf2d37d7bc785b61524eafe5", checked := Tryz.checked }
namespace Rows
def none {H : Type} : Left H := { results := [], args := [] }

/-- 'laws.FnSpcTable': WHATEVER THE INPUT: true; the input reads as it did. -/
def fnSpcTableSpec : ChangeSpec := { name := "fnSpcTable", fn := fun _ => fun
  | [d] => { results := [.lit (.bool true)], args := [d] }
  | _ => none }
def fnSpcTableRow : OpenClaim := { program := "ytbockbdlojkpiaagreat", sum := "ab6d9f7494d9db63cd28f827526ef8b342208d17bf2d37d7bc785b61524eafe5", func := "loop.example/freshet/laws.FnSpcTable", spec := "fnSpcTable", inPlace := ["slices.overlaps[loop.example/freshet/impl.TabRow]"], unfollowed := true, recurses := true, plainKeys := false, apart := false }
def FnSpcTableSaid : Prop := fnSpcTableRow.holds Tryz.pinned (OpenSpec.ofChange fnSpcTableSpec)

/-- ITS FALSE NEIGHBOUR: 'it returns false'. Refute it at one input. -/
def fnSpcTableWrong : ChangeSpec := { name := "fnSpcTable", fn := fun _ => fun
  | [d] => { results := [.lit (.bool false)], args := [d] }
  | _ => none }
def FnSpcTableWrongFalsely : Prop := fnSpcTableRow.holds Tryz.pinned (OpenSpec.ofChange fnSpcTableWrong)

/-- 'laws.FnSpcOrder': WHATEVER THE INPUT: true; the input reads as it did. -/
def fnSpcOrderSpec : ChangeSpec := { name := "fnSpcOrder", fn := fun _ => fun
  | [d] => { results := [.lit (.bool true)], args := [d] }
  | _ => none }
def fnSpcOrderRow : OpenClaim := { program := "ytbockbdlojkpiaagreat", sum := "ab6d9f7494d9db63cd28f827526ef8b342208d17bf2d37d7bc785b61524eafe5", func := "loop.example/freshet/laws.FnSpcOrder", spec := "fnSpcOrder", inPlace := ["slices.overlaps[loop.example/freshet/impl.TabRow]"], unfollowed := true, recurses := true, plainKeys := false, apart := false }
def FnSpcOrderSaid : Prop := fnSpcOrderRow.holds Tryz.pinned (OpenSpec.ofChange fnSpcOrderSpec)

/-- ITS FALSE NEIGHBOUR: 'it returns false'. Refute it at one input. -/
def fnSpcOrderWrong : ChangeSpec := { name := "fnSpcOrder", fn := fun _ => fun
  | [d] => { results := [.lit (.bool false)], args := [d] }
  | _ => none }
def FnSpcOrderWrongFalsely : Prop := fnSpcOrderRow.holds Tryz.pinned (OpenSpec.ofChange fnSpcOrderWrong)

/-- 'laws.FnSpcSess': WHATEVER THE INPUT: true; the input reads as it did. -/
def fnSpcSessSpec : ChangeSpec := { name := "fnSpcSess", fn := fun _ => fun
  | [d] => { results := [.lit (.bool true)], args := [d] }
  | _ => none }
def fnSpcSessRow : OpenClaim := { program := "ytbockbdlojkpiaagreat", sum := "ab6d9f7494d9db63cd28f827526ef8b342208d17bf2d37d7bc785b61524eafe5", func := "loop.example/freshet/laws.FnSpcSess", spec := "fnSpcSess", inPlace := ["slices.overlaps[loop.example/freshet/impl.TabRow]"], unfollowed := true, recurses := true, plainKeys := false, apart := false }
def FnSpcSessSaid : Prop := fnSpcSessRow.holds Tryz.pinned (OpenSpec.ofChange fnSpcSessSpec)

/-- ITS FALSE NEIGHBOUR: 'it returns false'. Refute it at one input. -/
def fnSpcSessWrong : ChangeSpec := { name := "fnSpcSess", fn := fun _ => fun
  | [d] => { results := [.lit (.bool false)], args := [d] }
  | _ => none }
def FnSpcSessWrongFalsely : Prop := fnSpcSessRow.holds Tryz.pinned (OpenSpec.ofChange fnSpcSessWrong)

/-- 'laws.FnSpcMore': WHATEVER THE INPUT: true; the input reads as it did. -/
def fnSpcMoreSpec : ChangeSpec := { name := "fnSpcMore", fn := fun _ => fun
  | [d] => { results := [.lit (.bool true)], args := [d] }
  | _ => none }
def fnSpcMoreRow : OpenClaim := { program := "ytbockbdlojkpiaagreat", sum := "ab6d9f7494d9db63cd28f827526ef8b342208d17bf2d37d7bc785b61524eafe5", func := "loop.example/freshet/laws.FnSpcMore", spec := "fnSpcMore", inPlace := ["slices.overlaps[loop.example/freshet/impl.TabRow]"], unfollowed := true, recurses := true, plainKeys := false, apart := false }
def FnSpcMoreSaid : Prop := fnSpcMoreRow.holds Tryz.pinned (OpenSpec.ofChange fnSpcMoreSpec)

/-- ITS FALSE NEIGHBOUR: 'it returns false'. Refute it at one input. -/
def fnSpcMoreWrong : ChangeSpec := { name := "fnSpcMore", fn := fun _ => fun
  | [d] => { results := [.lit (.bool false)], args := [d] }
  | _ => none }
def FnSpcMoreWrongFalsely : Prop := fnSpcMoreRow.holds Tryz.pinned (OpenSpec.ofChange fnSpcMoreWrong)

/- THE SECOND FORM. 'bulk': how many values and letters a reading holds, each counted each time it is reached (what is shared counts as often as it is met; a slice's spare places count too). A statement '..UptoSaid' is the law's where the arguments, and the package variables that the reading takes, are together of bulk at most 1048576: NARROWER than '..Said'. Prove '..Said' where nothing that the law and all that it calls make is longer than what came in: it says more and counts as full. Else prove '..UptoSaid'. A law counts once. -/
mutual
def uptoBulk {H : Type} : DataW H → Nat
  | .lit (.string bytes) => bytes.length + 1
  | .lit _ => 1
  | .nil => 1
  | .ptr d => uptoBulk d + 1
  | .slice elems spare => uptoBulkAll elems + uptoBulkAll spare + 1
  | .agg parts => uptoBulkAll parts + 1
  | .iface _ d => uptoBulk d + 1
  | .map entries => uptoBulkEntries entries + 1
  | .held _ => 1
def uptoBulkAll {H : Type} : List (DataW H) → Nat
  | [] => 0
  | d :: r => uptoBulk d + uptoBulkAll r
def uptoBulkEntries {H : Type} : List (Lit × DataW H) → Nat
  | [] => 0
  | x :: r => uptoBulkEntry x + uptoBulkEntries r
def uptoBulkEntry {H : Type} : Lit × DataW H → Nat
  | (.string bytes, d) => bytes.length + uptoBulk d + 1
  | (_, d) => uptoBulk d + 1
 end
def uptoSmall : (H : Type) → List (DataW H) → Bool := fun _ ds => decide (uptoBulkAll ds ≤ 1048576)
def OpenSpec.upto (s : _root_.Go.ChangeSpec) : _root_.Go.OpenSpec := { _root_.Go.OpenSpec.ofChange s with cond := some uptoSmall }

/-- 'laws.FnSpcTable', WHERE WHAT IT READS IS OF BULK AT MOST 1048576: true; the input reads as it did. -/
def fnSpcTableUptoRow : OpenClaim := { program := "ytbockbdlojkpiaagreat", sum := "ab6d9f7494d9db63cd28f827526ef8b342208d17bf2d37d7bc785b61524eafe5", func := "loop.example/freshet/laws.FnSpcTable", spec := "fnSpcTable", inPlace := ["slices.overlaps[loop.example/freshet/impl.TabRow]"], unfollowed := true, recurses := true, plainKeys := false, apart := false, narrowed := true }
def FnSpcTableUptoSaid : Prop := fnSpcTableUptoRow.holds Tryz.pinned (OpenSpec.upto fnSpcTableSpec)

/-- 'laws.FnSpcOrder', WHERE WHAT IT READS IS OF BULK AT MOST 1048576: true; the input reads as it did. -/
def fnSpcOrderUptoRow : OpenClaim := { program := "ytbockbdlojkpiaagreat", sum := "ab6d9f7494d9db63cd28f827526ef8b342208d17bf2d37d7bc785b61524eafe5", func := "loop.example/freshet/laws.FnSpcOrder", spec := "fnSpcOrder", inPlace := ["slices.overlaps[loop.example/freshet/impl.TabRow]"], unfollowed := true, recurses := true, plainKeys := false, apart := false, narrowed := true }
def FnSpcOrderUptoSaid : Prop := fnSpcOrderUptoRow.holds Tryz.pinned (OpenSpec.upto fnSpcOrderSpec)

/-- 'laws.FnSpcSess', WHERE WHAT IT READS IS OF BULK AT MOST 1048576: true; the input reads as it did. -/
def fnSpcSessUptoRow : OpenClaim := { program := "ytbockbdlojkpiaagreat", sum := "ab6d9f7494d9db63cd28f827526ef8b342208d17bf2d37d7bc785b61524eafe5", func := "loop.example/freshet/laws.FnSpcSess", spec := "fnSpcSess", inPlace := ["slices.overlaps[loop.example/freshet/impl.TabRow]"], unfollowed := true, recurses := true, plainKeys := false, apart := false, narrowed := true }
def FnSpcSessUptoSaid : Prop := fnSpcSessUptoRow.holds Tryz.pinned (OpenSpec.upto fnSpcSessSpec)

/-- 'laws.FnSpcMore', WHERE WHAT IT READS IS OF BULK AT MOST 1048576: true; the input reads as it did. -/
def fnSpcMoreUptoRow : OpenClaim := { program := "ytbockbdlojkpiaagreat", sum := "ab6d9f7494d9db63cd28f827526ef8b342208d17bf2d37d7bc785b61524eafe5", func := "loop.example/freshet/laws.FnSpcMore", spec := "fnSpcMore", inPlace := ["slices.overlaps[loop.example/freshet/impl.TabRow]"], unfollowed := true, recurses := true, plainKeys := false, apart := false, narrowed := true }
def FnSpcMoreUptoSaid : Prop := fnSpcMoreUptoRow.holds Tryz.pinned (OpenSpec.upto fnSpcMoreSpec)

end Rows
end Go.Proofs.YtbockbdlojkpiaaGreat
