/-
  DERIVED. GIVEN WITH THE SEED: THE CARDS: each row of YtcokdcehjibanaaGreatDoorRows.lean that lists a variable, with what it lists TIED to the program's text (the seventh form; the later family's looks); each row that meets fmt, with fmt's text TOLD by the authors' own Lean function (tested against real Go, not proved from fmt's source: count such statements apart). THE CARD IS WHAT COUNTS. Prove the row's statement (the work); the ties are given (YtcokdcehjibanaaGreatDoorTie.lean); close each card by the builder's one call (the guide's Derived/Test/ToyasCard.lean, 'card_holds'). Laid BY PROGRAM, IN A SANDBOX (cutbox-door.mjs). By AI agents, Wed Nov 11 2026. No macro, syntax, notation, axiom, sorry.
-/
import Derived.Test.YtcokdcehjibanaaGreatDoorRows
import GoSem.ClaimSeven
namespace Go.Proofs.YtcokdcehjibanaaGreatDoor
namespace Rows

/-- THE TIED CARD OF 'laws.FnDskLogs'. -/
def fnDskLogsCard : Claim7 := { stood := { row := fnDskLogsRow, standIns := [], harness := (true, "38bf0151c27c18d3a841ded898ffcb79c4d237a8e5b820f8eb841fa7ff08d2b8"), looks := true }, kinds := [], alts := [], laidByText := true, laidKinds := [.data, .data, .data, .data, .sentinel, .sentinel, .pinned], laidTests := true, laidLooks := .later }
def FnDskLogsCardSaid : Prop := Claim7.holds Tryz.pinned (.plain (OpenSpec.ofChange fnDskLogsSpec)) fnDskLogsCard

/-- THE SECOND FORM's CARD OF 'laws.FnDskLogs'. -/
def fnDskLogsUptoCard : Claim7 := { stood := { row := fnDskLogsUptoRow, standIns := [], harness := (true, "38bf0151c27c18d3a841ded898ffcb79c4d237a8e5b820f8eb841fa7ff08d2b8"), looks := true }, kinds := [], alts := [], laidByText := true, laidKinds := [.data, .data, .data, .data, .sentinel, .sentinel, .pinned], laidTests := true, laidLooks := .later }
def FnDskLogsUptoCardSaid : Prop := Claim7.holds Tryz.pinned (.plain (OpenSpec.upto fnDskLogsSpec)) fnDskLogsUptoCard
end Rows
end Go.Proofs.YtcokdcehjibanaaGreatDoor
