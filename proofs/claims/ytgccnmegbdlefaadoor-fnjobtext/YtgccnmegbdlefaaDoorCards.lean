/-
  DERIVED. GIVEN WITH THE SEED: THE CARDS: each row of YtgccnmegbdlefaaDoorRows.lean that lists a variable, with what it lists TIED to the program's text (the seventh form; the later family's looks); each row that meets fmt, with fmt's text TOLD by the authors' own Lean function (tested against real Go, not proved from fmt's source: count such statements apart). THE CARD IS WHAT COUNTS. Prove the row's statement (the work); the ties are given (YtgccnmegbdlefaaDoorTie.lean); close each card by the builder's one call (the guide's Derived/Test/ToyasCard.lean, 'card_holds'). Laid BY PROGRAM, IN A SANDBOX (cutbox-door.mjs). By AI agents, Wed Nov 11 2026. No macro, syntax, notation, axiom, sorry.
-/
import Derived.Test.YtgccnmegbdlefaaDoorRows
import GoSem.ClaimSeven
namespace Go.Proofs.YtgccnmegbdlefaaDoor
namespace Rows

/-- THE TIED CARD OF 'laws.FnJobText'. -/
def fnJobTextCard : Claim7 := { stood := { row := fnJobTextRow, standIns := [], harness := (true, "14843145babb4b2265e9e6331dadd89783ea37d4a3e6eaa368667510c19c47ce"), looks := true }, kinds := [], alts := [], laidByText := true, laidKinds := [.data, .data, .data, .handle, .sentinel, .sentinel, .data], laidTests := true, laidLooks := .later }
def FnJobTextCardSaid : Prop := Claim7.holds Tryd.pinned (.plain (OpenSpec.ofChange fnJobTextSpec)) fnJobTextCard

/-- THE TIED CARD OF 'laws.FnExactJobPrint'. -/
def fnExactJobPrintCard : Claim7 := { stood := { row := fnExactJobPrintRow, standIns := [], harness := (true, "14843145babb4b2265e9e6331dadd89783ea37d4a3e6eaa368667510c19c47ce"), looks := true }, kinds := [], alts := [], laidByText := true, laidKinds := [.data, .data, .data, .data], laidTests := true, laidLooks := .later }
def FnExactJobPrintCardSaid : Prop := Claim7.holds Tryd.pinned (.plain (OpenSpec.ofChange fnExactJobPrintSpec)) fnExactJobPrintCard

/-- THE TIED CARD OF 'laws.FnExactJobParse'. -/
def fnExactJobParseCard : Claim7 := { stood := { row := fnExactJobParseRow, standIns := [], harness := (true, "14843145babb4b2265e9e6331dadd89783ea37d4a3e6eaa368667510c19c47ce"), looks := true }, kinds := [], alts := [], laidByText := true, laidKinds := [.data, .data, .data, .handle, .sentinel, .sentinel, .data], laidTests := true, laidLooks := .later }
def FnExactJobParseCardSaid : Prop := Claim7.holds Tryd.pinned (.plain (OpenSpec.ofChange fnExactJobParseSpec)) fnExactJobParseCard

/-- THE SECOND FORM's CARD OF 'laws.FnJobText'. -/
def fnJobTextUptoCard : Claim7 := { stood := { row := fnJobTextUptoRow, standIns := [], harness := (true, "14843145babb4b2265e9e6331dadd89783ea37d4a3e6eaa368667510c19c47ce"), looks := true }, kinds := [], alts := [], laidByText := true, laidKinds := [.data, .data, .data, .handle, .sentinel, .sentinel, .data], laidTests := true, laidLooks := .later }
def FnJobTextUptoCardSaid : Prop := Claim7.holds Tryd.pinned (.plain (OpenSpec.upto fnJobTextSpec)) fnJobTextUptoCard

/-- THE SECOND FORM's CARD OF 'laws.FnExactJobPrint'. -/
def fnExactJobPrintUptoCard : Claim7 := { stood := { row := fnExactJobPrintUptoRow, standIns := [], harness := (true, "14843145babb4b2265e9e6331dadd89783ea37d4a3e6eaa368667510c19c47ce"), looks := true }, kinds := [], alts := [], laidByText := true, laidKinds := [.data, .data, .data, .data], laidTests := true, laidLooks := .later }
def FnExactJobPrintUptoCardSaid : Prop := Claim7.holds Tryd.pinned (.plain (OpenSpec.upto fnExactJobPrintSpec)) fnExactJobPrintUptoCard

/-- THE SECOND FORM's CARD OF 'laws.FnExactJobParse'. -/
def fnExactJobParseUptoCard : Claim7 := { stood := { row := fnExactJobParseUptoRow, standIns := [], harness := (true, "14843145babb4b2265e9e6331dadd89783ea37d4a3e6eaa368667510c19c47ce"), looks := true }, kinds := [], alts := [], laidByText := true, laidKinds := [.data, .data, .data, .handle, .sentinel, .sentinel, .data], laidTests := true, laidLooks := .later }
def FnExactJobParseUptoCardSaid : Prop := Claim7.holds Tryd.pinned (.plain (OpenSpec.upto fnExactJobParseSpec)) fnExactJobParseUptoCard
end Rows
end Go.Proofs.YtgccnmegbdlefaaDoor
