/-
  DERIVED. GIVEN WITH THE SEED: THE CARDS: each row of YtbdodamibkikpaaDoorRows.lean that lists a variable, with what it lists TIED to the program's text (the seventh form; the later family's looks); each row that meets fmt, with fmt's text TOLD by the authors' own Lean function (tested against real Go, not proved from fmt's source: count such statements apart). THE CARD IS WHAT COUNTS. Prove the row's statement (the work); the ties are given (YtbdodamibkikpaaDoorTie.lean); close each card by the builder's one call (the guide's Derived/Test/ToyasCard.lean, 'card_holds'). Laid BY PROGRAM, IN A SANDBOX (cutbox-door.mjs). By AI agents, Wed Nov 11 2026. No macro, syntax, notation, axiom, sorry.
-/
import Derived.Test.YtbdodamibkikpaaDoorRows
import GoSem.ClaimSeven
namespace Go.Proofs.YtbdodamibkikpaaDoor
namespace Rows

/-- THE TIED CARD OF 'laws.FnExactPanText'. -/
def fnExactPanTextCard : Claim7 := { stood := { row := fnExactPanTextRow, standIns := [], harness := (true, "e93f14db9661f940e7e0d9a8765a30f009fafca9529443e6b17a5a575a0b4662"), looks := false }, kinds := [], alts := [], laidByText := true, laidKinds := [.data, .data, .data], laidTests := true, laidLooks := .later }
def FnExactPanTextCardSaid : Prop := Claim7.holds Tryd.pinned (.plain (OpenSpec.ofChange fnExactPanTextSpec)) fnExactPanTextCard

/-- THE TIED CARD OF 'laws.FnExactTabText'. -/
def fnExactTabTextCard : Claim7 := { stood := { row := fnExactTabTextRow, standIns := [], harness := (true, "e93f14db9661f940e7e0d9a8765a30f009fafca9529443e6b17a5a575a0b4662"), looks := false }, kinds := [], alts := [], laidByText := true, laidKinds := [.data, .data, .data], laidTests := true, laidLooks := .later }
def FnExactTabTextCardSaid : Prop := Claim7.holds Tryd.pinned (.plain (OpenSpec.ofChange fnExactTabTextSpec)) fnExactTabTextCard

/-- THE SECOND FORM's CARD OF 'laws.FnExactPanText'. -/
def fnExactPanTextUptoCard : Claim7 := { stood := { row := fnExactPanTextUptoRow, standIns := [], harness := (true, "e93f14db9661f940e7e0d9a8765a30f009fafca9529443e6b17a5a575a0b4662"), looks := false }, kinds := [], alts := [], laidByText := true, laidKinds := [.data, .data, .data], laidTests := true, laidLooks := .later }
def FnExactPanTextUptoCardSaid : Prop := Claim7.holds Tryd.pinned (.plain (OpenSpec.upto fnExactPanTextSpec)) fnExactPanTextUptoCard

/-- THE SECOND FORM's CARD OF 'laws.FnExactTabText'. -/
def fnExactTabTextUptoCard : Claim7 := { stood := { row := fnExactTabTextUptoRow, standIns := [], harness := (true, "e93f14db9661f940e7e0d9a8765a30f009fafca9529443e6b17a5a575a0b4662"), looks := false }, kinds := [], alts := [], laidByText := true, laidKinds := [.data, .data, .data], laidTests := true, laidLooks := .later }
def FnExactTabTextUptoCardSaid : Prop := Claim7.holds Tryd.pinned (.plain (OpenSpec.upto fnExactTabTextSpec)) fnExactTabTextUptoCard
end Rows
end Go.Proofs.YtbdodamibkikpaaDoor
