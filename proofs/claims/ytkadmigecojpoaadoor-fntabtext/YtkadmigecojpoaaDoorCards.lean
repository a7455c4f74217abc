/-
  DERIVED. GIVEN WITH THE SEED: THE CARDS: each row of YtkadmigecojpoaaDoorRows.lean that lists a variable, with what it lists TIED to the program's text (the seventh form; the later family's looks); each row that meets fmt, with fmt's text TOLD by the authors' own Lean function (tested against real Go, not proved from fmt's source: count such statements apart). THE CARD IS WHAT COUNTS. Prove the row's statement (the work); the ties are given (YtkadmigecojpoaaDoorTie.lean); close each card by the builder's one call (the guide's Derived/Test/ToyasCard.lean, 'card_holds'). Laid BY PROGRAM, IN A SANDBOX (cutbox-door.mjs). By AI agents, Wed Nov 11 2026. No macro, syntax, notation, axiom, sorry.
-/
import Derived.Test.YtkadmigecojpoaaDoorRows
import GoSem.ClaimSeven
namespace Go.Proofs.YtkadmigecojpoaaDoor
namespace Rows

/-- THE TIED CARD OF 'laws.FnWinText'. -/
def fnWinTextCard : Claim7 := { stood := { row := fnWinTextRow, standIns := [], harness := (true, "30afb2088fa7c988d91dea34a466311e1dafc7c0f59e388eb23bc25606c365e2"), looks := true }, kinds := [], alts := [], laidByText := true, laidKinds := [.data, .data, .data, .sentinel, .sentinel], laidTests := true, laidLooks := .later }
def FnWinTextCardSaid : Prop := Claim7.holds Tryd.pinned (.plain (OpenSpec.ofChange fnWinTextSpec)) fnWinTextCard

/-- THE TIED CARD OF 'laws.FnTabText'. -/
def fnTabTextCard : Claim7 := { stood := { row := fnTabTextRow, standIns := [], harness := (true, "30afb2088fa7c988d91dea34a466311e1dafc7c0f59e388eb23bc25606c365e2"), looks := true }, kinds := [], alts := [], laidByText := true, laidKinds := [.data, .data, .data], laidTests := true, laidLooks := .later }
def FnTabTextCardSaid : Prop := Claim7.holds Tryd.pinned (.plain (OpenSpec.ofChange fnTabTextSpec)) fnTabTextCard

/-- THE TIED CARD OF 'laws.FnPanText'. -/
def fnPanTextCard : Claim7 := { stood := { row := fnPanTextRow, standIns := [], harness := (true, "30afb2088fa7c988d91dea34a466311e1dafc7c0f59e388eb23bc25606c365e2"), looks := true }, kinds := [], alts := [], laidByText := true, laidKinds := [.data, .data, .data], laidTests := true, laidLooks := .later }
def FnPanTextCardSaid : Prop := Claim7.holds Tryd.pinned (.plain (OpenSpec.ofChange fnPanTextSpec)) fnPanTextCard

/-- THE SECOND FORM's CARD OF 'laws.FnWinText'. -/
def fnWinTextUptoCard : Claim7 := { stood := { row := fnWinTextUptoRow, standIns := [], harness := (true, "30afb2088fa7c988d91dea34a466311e1dafc7c0f59e388eb23bc25606c365e2"), looks := true }, kinds := [], alts := [], laidByText := true, laidKinds := [.data, .data, .data, .sentinel, .sentinel], laidTests := true, laidLooks := .later }
def FnWinTextUptoCardSaid : Prop := Claim7.holds Tryd.pinned (.plain (OpenSpec.upto fnWinTextSpec)) fnWinTextUptoCard

/-- THE SECOND FORM's CARD OF 'laws.FnTabText'. -/
def fnTabTextUptoCard : Claim7 := { stood := { row := fnTabTextUptoRow, standIns := [], harness := (true, "30afb2088fa7c988d91dea34a466311e1dafc7c0f59e388eb23bc25606c365e2"), looks := true }, kinds := [], alts := [], laidByText := true, laidKinds := [.data, .data, .data], laidTests := true, laidLooks := .later }
def FnTabTextUptoCardSaid : Prop := Claim7.holds Tryd.pinned (.plain (OpenSpec.upto fnTabTextSpec)) fnTabTextUptoCard

/-- THE SECOND FORM's CARD OF 'laws.FnPanText'. -/
def fnPanTextUptoCard : Claim7 := { stood := { row := fnPanTextUptoRow, standIns := [], harness := (true, "30afb2088fa7c988d91dea34a466311e1dafc7c0f59e388eb23bc25606c365e2"), looks := true }, kinds := [], alts := [], laidByText := true, laidKinds := [.data, .data, .data], laidTests := true, laidLooks := .later }
def FnPanTextUptoCardSaid : Prop := Claim7.holds Tryd.pinned (.plain (OpenSpec.upto fnPanTextSpec)) fnPanTextUptoCard
end Rows
end Go.Proofs.YtkadmigecojpoaaDoor
