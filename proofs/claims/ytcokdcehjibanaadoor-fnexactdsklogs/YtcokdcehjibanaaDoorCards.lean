/-
  DERIVED. GIVEN WITH THE SEED: THE CARDS: each row of YtcokdcehjibanaaDoorRows.lean that lists a variable, with what it lists TIED to the program's text (the seventh form; the later family's looks); each row that meets fmt, with fmt's text TOLD by the authors' own Lean function (tested against real Go, not proved from fmt's source: count such statements apart). THE CARD IS WHAT COUNTS. Prove the row's statement (the work); the ties are given (YtcokdcehjibanaaDoorTie.lean); close each card by the builder's one call (the guide's Derived/Test/ToyasCard.lean, 'card_holds'). Laid BY PROGRAM, IN A SANDBOX (cutbox-door.mjs). By AI agents, Wed Nov 11 2026. No macro, syntax, notation, axiom, sorry.
-/
import Derived.Test.YtcokdcehjibanaaDoorRows
import GoSem.ClaimSeven
namespace Go.Proofs.YtcokdcehjibanaaDoor
namespace Rows

/-- THE TIED CARD OF 'laws.FnExactDskLogs'. -/
def fnExactDskLogsCard : Claim7 := { stood := { row := fnExactDskLogsRow, standIns := [], harness := (true, "e11a0ae4803aa36b86110a3a0d2a601e617bf57012e9fbec492272150effb5dc"), looks := true }, kinds := [], alts := [], laidByText := true, laidKinds := [.data, .data, .data, .data, .sentinel, .sentinel, .pinned], laidTests := true, laidLooks := .later }
def FnExactDskLogsCardSaid : Prop := Claim7.holds Tryd.pinned (.plain (OpenSpec.ofChange fnExactDskLogsSpec)) fnExactDskLogsCard

/-- THE SECOND FORM's CARD OF 'laws.FnExactDskLogs'. -/
def fnExactDskLogsUptoCard : Claim7 := { stood := { row := fnExactDskLogsUptoRow, standIns := [], harness := (true, "e11a0ae4803aa36b86110a3a0d2a601e617bf57012e9fbec492272150effb5dc"), looks := true }, kinds := [], alts := [], laidByText := true, laidKinds := [.data, .data, .data, .data, .sentinel, .sentinel, .pinned], laidTests := true, laidLooks := .later }
def FnExactDskLogsUptoCardSaid : Prop := Claim7.holds Tryd.pinned (.plain (OpenSpec.upto fnExactDskLogsSpec)) fnExactDskLogsUptoCard
end Rows
end Go.Proofs.YtcokdcehjibanaaDoor
