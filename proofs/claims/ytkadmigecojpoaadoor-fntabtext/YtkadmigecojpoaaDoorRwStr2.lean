/- Proved here: a slice of texts is marked, and found again; an append to a slice of the call's own, as one step of a statement whose order is open. -/
import Derived.Test.YtkadmigecojpoaaDoorRwStr
import Derived.Test.YtkadmigecojpoaaDoorWinText
import Derived.Deep.RegionLawGrows
import Derived.Deep.Onto
namespace Go.Proofs.YtkadmigecojpoaaDoor
open Go.ChangeShapes Go.WideShapes Go.ChangeAt Go.RowKit
set_option linter.unusedVariables false

theorem grown_bel {w wr w' : World} {row : Option Nat} (h : w.grownBy wr row) (hb : Below wr.heap.size wr w') : w.grownBy w' row :=
  ⟨hb.os.trans h.os, hb.tape.trans h.tape, hb.output.trans h.output, Nat.le_trans h.size hb.size, fun k hk hne => (hb.block k (Nat.lt_of_lt_of_le hk h.size)).trans (h.block k hk hne)⟩

end Go.Proofs.YtkadmigecojpoaaDoor
