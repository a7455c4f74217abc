/-
  DERIVED. GIVEN WITH THE SEED: THE CARDS: each row of YtbbjjpgmekfbeaaDoorRows.lean that lists a variable, with what it lists TIED to the program's text (the seventh form; the later family's looks); each row that meets fmt, with fmt's text TOLD by the authors' own Lean function (tested against real Go, not proved from fmt's source: count such statements apart). THE CARD IS WHAT COUNTS. Prove the row's statement (the work); the ties are given (YtbbjjpgmekfbeaaDoorTie.lean); close each card by the builder's one call (the guide's Derived/Test/ToyasCard.lean, 'card_holds'). Laid BY PROGRAM, IN A SANDBOX (cutbox-door.mjs). By AI agents, Wed Nov 11 2026. No macro, syntax, notation, axiom, sorry.
-/
import Derived.Test.YtbbjjpgmekfbeaaDoorRows
import GoSem.ClaimSeven
namespace Go.Proofs.YtbbjjpgmekfbeaaDoor
namespace Rows

/-- THE TIED CARD OF 'laws.FnExactItmRead'. -/
def fnExactItmReadCard : Claim7 := { stood := { row := fnExactItmReadRow, standIns := [], harness := (true, "a1618eee6ea623a2c5488084787b9ea8c2a2272c72cfd3d7652cd7c141ae4482"), looks := true }, kinds := [], alts := [], laidByText := true, laidKinds := [.data, .data, .data, .data, .sentinel, .sentinel, .pinned], laidTests := true, laidLooks := .later }
def FnExactItmReadCardSaid : Prop := Claim7.holds Tryd.pinned (.plain (OpenSpec.ofChange fnExactItmReadSpec)) fnExactItmReadCard

/-- THE TIED CARD OF 'laws.FnExactDskEvent'. -/
def fnExactDskEventCard : Claim7 := { stood := { row := fnExactDskEventRow, standIns := [], harness := (true, "a1618eee6ea623a2c5488084787b9ea8c2a2272c72cfd3d7652cd7c141ae4482"), looks := true }, kinds := [], alts := [], laidByText := true, laidKinds := [.data, .data, .data, .data, .sentinel, .sentinel, .pinned], laidTests := true, laidLooks := .later }
def FnExactDskEventCardSaid : Prop := Claim7.holds Tryd.pinned (.plain (OpenSpec.ofChange fnExactDskEventSpec)) fnExactDskEventCard

/-- THE TIED CARD OF 'laws.FnDskEvent'. -/
def fnDskEventCard : Claim7 := { stood := { row := fnDskEventRow, standIns := [], harness := (true, "a1618eee6ea623a2c5488084787b9ea8c2a2272c72cfd3d7652cd7c141ae4482"), looks := true }, kinds := [], alts := [], laidByText := true, laidKinds := [.data, .data, .data, .data, .sentinel, .sentinel, .pinned], laidTests := true, laidLooks := .later }
def FnDskEventCardSaid : Prop := Claim7.holds Tryd.pinned (.plain (OpenSpec.ofChange fnDskEventSpec)) fnDskEventCard

/-- THE TIED CARD OF 'laws.FnItmText'. -/
def fnItmTextCard : Claim7 := { stood := { row := fnItmTextRow, standIns := [], harness := (true, "a1618eee6ea623a2c5488084787b9ea8c2a2272c72cfd3d7652cd7c141ae4482"), looks := true }, kinds := [], alts := [], laidByText := true, laidKinds := [.data, .data, .data, .data, .sentinel, .sentinel, .pinned], laidTests := true, laidLooks := .later }
def FnItmTextCardSaid : Prop := Claim7.holds Tryd.pinned (.plain (OpenSpec.ofChange fnItmTextSpec)) fnItmTextCard

/-- THE SECOND FORM's CARD OF 'laws.FnExactItmRead'. -/
def fnExactItmReadUptoCard : Claim7 := { stood := { row := fnExactItmReadUptoRow, standIns := [], harness := (true, "a1618eee6ea623a2c5488084787b9ea8c2a2272c72cfd3d7652cd7c141ae4482"), looks := true }, kinds := [], alts := [], laidByText := true, laidKinds := [.data, .data, .data, .data, .sentinel, .sentinel, .pinned], laidTests := true, laidLooks := .later }
def FnExactItmReadUptoCardSaid : Prop := Claim7.holds Tryd.pinned (.plain (OpenSpec.upto fnExactItmReadSpec)) fnExactItmReadUptoCard

/-- THE SECOND FORM's CARD OF 'laws.FnExactDskEvent'. -/
def fnExactDskEventUptoCard : Claim7 := { stood := { row := fnExactDskEventUptoRow, standIns := [], harness := (true, "a1618eee6ea623a2c5488084787b9ea8c2a2272c72cfd3d7652cd7c141ae4482"), looks := true }, kinds := [], alts := [], laidByText := true, laidKinds := [.data, .data, .data, .data, .sentinel, .sentinel, .pinned], laidTests := true, laidLooks := .later }
def FnExactDskEventUptoCardSaid : Prop := Claim7.holds Tryd.pinned (.plain (OpenSpec.upto fnExactDskEventSpec)) fnExactDskEventUptoCard

/-- THE SECOND FORM's CARD OF 'laws.FnDskEvent'. -/
def fnDskEventUptoCard : Claim7 := { stood := { row := fnDskEventUptoRow, standIns := [], harness := (true, "a1618eee6ea623a2c5488084787b9ea8c2a2272c72cfd3d7652cd7c141ae4482"), looks := true }, kinds := [], alts := [], laidByText := true, laidKinds := [.data, .data, .data, .data, .sentinel, .sentinel, .pinned], laidTests := true, laidLooks := .later }
def FnDskEventUptoCardSaid : Prop := Claim7.holds Tryd.pinned (.plain (OpenSpec.upto fnDskEventSpec)) fnDskEventUptoCard

/-- THE SECOND FORM's CARD OF 'laws.FnItmText'. -/
def fnItmTextUptoCard : Claim7 := { stood := { row := fnItmTextUptoRow, standIns := [], harness := (true, "a1618eee6ea623a2c5488084787b9ea8c2a2272c72cfd3d7652cd7c141ae4482"), looks := true }, kinds := [], alts := [], laidByText := true, laidKinds := [.data, .data, .data, .data, .sentinel, .sentinel, .pinned], laidTests := true, laidLooks := .later }
def FnItmTextUptoCardSaid : Prop := Claim7.holds Tryd.pinned (.plain (OpenSpec.upto fnItmTextSpec)) fnItmTextUptoCard
end Rows
end Go.Proofs.YtbbjjpgmekfbeaaDoor
