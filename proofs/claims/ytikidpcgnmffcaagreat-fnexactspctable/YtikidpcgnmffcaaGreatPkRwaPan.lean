/- Laid together: what the claim needs of the texts that were built one by one. -/
import Derived.Test.YtikidpcgnmffcaaGreatPkBase
import Derived.Test.YtikidpcgnmffcaaGreatPkRwPan
namespace Go.Proofs.YtikidpcgnmffcaaGreat
open Go.ChangeShapes Go.WideShapes Go.ChangeAt Go.RowKit Go.Deep
set_option linter.unusedVariables false

/-- Each number is an int. -/
def PnR.ok64 (x : PnR) : Prop := (-9223372036854775808 ≤ x.ky ∧ x.ky ≤ 9223372036854775807) ∧ (-9223372036854775808 ≤ x.st ∧ x.st ≤ 9223372036854775807) ∧ (-9223372036854775808 ≤ x.en ∧ x.en ≤ 9223372036854775807) ∧ (-9223372036854775808 ≤ x.no ∧ x.no ≤ 9223372036854775807) ∧ (-9223372036854775808 ≤ x.kd ∧ x.kd ≤ 9223372036854775807) ∧ (-9223372036854775808 ≤ x.n ∧ x.n ≤ 9223372036854775807) ∧ (-9223372036854775808 ≤ x.su ∧ x.su ≤ 9223372036854775807) ∧ (-9223372036854775808 ≤ x.le ∧ x.le ≤ 9223372036854775807) ∧ (-9223372036854775808 ≤ x.mo ∧ x.mo ≤ 9223372036854775807)
end Go.Proofs.YtikidpcgnmffcaaGreat
