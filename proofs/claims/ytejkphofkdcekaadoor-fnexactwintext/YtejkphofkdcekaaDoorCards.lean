/-
  DERIVED. GIVEN WITH THE SEED: THE CARDS: each row of YtejkphofkdcekaaDoorRows.lean that lists a variable, with what it lists TIED to the program's text (the seventh form; the later family's looks); each row that meets fmt, with fmt's text TOLD by the authors' own Lean function (tested against real Go, not proved from fmt's source: count such statements apart). THE CARD IS WHAT COUNTS. Prove the row's statement (the work); the ties are given (YtejkphofkdcekaaDoorTie.lean); close each card by the builder's one call (the guide's Derived/Test/ToyasCard.lean, 'card_holds'). Laid BY PROGRAM, IN A SANDBOX (cutbox-door.mjs). By AI agents, Wed Nov 11 2026. No macro, syntax, notation, axiom, sorry.
-/
import Derived.Test.YtejkphofkdcekaaDoorRows
import GoSem.ClaimSeven
namespace Go.Proofs.YtejkphofkdcekaaDoor
namespace Rows

/-- THE TIED CARD OF 'laws.FnItmText'. -/
def fnItmTextCard : Claim7 := { stood := { row := fnItmTextRow, standIns := [], harness := (true, "edd475ebc93ba81e7d00c9133b4307b6a03f6ef9677b1968f9ead157f350b298"), looks := true }, kinds := [], alts := [], laidByText := true, laidKinds := [.data, .data, .data, .data, .sentinel, .sentinel, .pinned], laidTests := true, laidLooks := .later }
def FnItmTextCardSaid : Prop := Claim7.holds Tryd.pinned (.plain (OpenSpec.ofChange fnItmTextSpec)) fnItmTextCard

/-- THE TIED CARD OF 'laws.FnExactItmRead'. -/
def fnExactItmReadCard : Claim7 := { stood := { row := fnExactItmReadRow, standIns := [], harness := (true, "edd475ebc93ba81e7d00c9133b4307b6a03f6ef9677b1968f9ead157f350b298"), looks := true }, kinds := [], alts := [], laidByText := true, laidKinds := [.data, .data, .data, .data, .sentinel, .sentinel, .pinned], laidTests := true, laidLooks := .later }
def FnExactItmReadCardSaid : Prop := Claim7.holds Tryd.pinned (.plain (OpenSpec.ofChange fnExactItmReadSpec)) fnExactItmReadCard

/-- THE TIED CARD OF 'laws.FnExactWinText'. -/
def fnExactWinTextCard : Claim7 := { stood := { row := fnExactWinTextRow, standIns := [], harness := (true, "edd475ebc93ba81e7d00c9133b4307b6a03f6ef9677b1968f9ead157f350b298"), looks := true }, kinds := [], alts := [], laidByText := true, laidKinds := [.data, .data, .data], laidTests := true, laidLooks := .later }
def FnExactWinTextCardSaid : Prop := Claim7.holds Tryd.pinned (.plain (OpenSpec.ofChange fnExactWinTextSpec)) fnExactWinTextCard

/-- THE TIED CARD OF 'laws.FnExactWinRead'. -/
def fnExactWinReadCard : Claim7 := { stood := { row := fnExactWinReadRow, standIns := [], harness := (true, "edd475ebc93ba81e7d00c9133b4307b6a03f6ef9677b1968f9ead157f350b298"), looks := true }, kinds := [], alts := [], laidByText := true, laidKinds := [.data, .data, .data, .sentinel, .sentinel], laidTests := true, laidLooks := .later }
def FnExactWinReadCardSaid : Prop := Claim7.holds Tryd.pinned (.plain (OpenSpec.ofChange fnExactWinReadSpec)) fnExactWinReadCard

/-- THE SECOND FORM's CARD OF 'laws.FnItmText'. -/
def fnItmTextUptoCard : Claim7 := { stood := { row := fnItmTextUptoRow, standIns := [], harness := (true, "edd475ebc93ba81e7d00c9133b4307b6a03f6ef9677b1968f9ead157f350b298"), looks := true }, kinds := [], alts := [], laidByText := true, laidKinds := [.data, .data, .data, .data, .sentinel, .sentinel, .pinned], laidTests := true, laidLooks := .later }
def FnItmTextUptoCardSaid : Prop := Claim7.holds Tryd.pinned (.plain (OpenSpec.upto fnItmTextSpec)) fnItmTextUptoCard

/-- THE SECOND FORM's CARD OF 'laws.FnExactItmRead'. -/
def fnExactItmReadUptoCard : Claim7 := { stood := { row := fnExactItmReadUptoRow, standIns := [], harness := (true, "edd475ebc93ba81e7d00c9133b4307b6a03f6ef9677b1968f9ead157f350b298"), looks := true }, kinds := [], alts := [], laidByText := true, laidKinds := [.data, .data, .data, .data, .sentinel, .sentinel, .pinned], laidTests := true, laidLooks := .later }
def FnExactItmReadUptoCardSaid : Prop := Claim7.holds Tryd.pinned (.plain (OpenSpec.upto fnExactItmReadSpec)) fnExactItmReadUptoCard

/-- THE SECOND FORM's CARD OF 'laws.FnExactWinText'. -/
def fnExactWinTextUptoCard : Claim7 := { stood := { row := fnExactWinTextUptoRow, standIns := [], harness := (true, "edd475ebc93ba81e7d00c9133b4307b6a03f6ef9677b1968f9ead157f350b298"), looks := true }, kinds := [], alts := [], laidByText := true, laidKinds := [.data, .data, .data], laidTests := true, laidLooks := .later }
def FnExactWinTextUptoCardSaid : Prop := Claim7.holds Tryd.pinned (.plain (OpenSpec.upto fnExactWinTextSpec)) fnExactWinTextUptoCard

/-- THE SECOND FORM's CARD OF 'laws.FnExactWinRead'. -/
def fnExactWinReadUptoCard : Claim7 := { stood := { row := fnExactWinReadUptoRow, standIns := [], harness := (true, "edd475ebc93ba81e7d00c9133b4307b6a03f6ef9677b1968f9ead157f350b298"), looks := true }, kinds := [], alts := [], laidByText := true, laidKinds := [.data, .data, .data, .sentinel, .sentinel], laidTests := true, laidLooks := .later }
def FnExactWinReadUptoCardSaid : Prop := Claim7.holds Tryd.pinned (.plain (OpenSpec.upto fnExactWinReadSpec)) fnExactWinReadUptoCard
end Rows
end Go.Proofs.YtejkphofkdcekaaDoor
