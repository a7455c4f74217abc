/- Proved here: what the specification says of a log. -/
import Derived.Test.YtikhmgkoodoeoaaLogEq
namespace Go.Proofs.Ytikhmgkoodoeoaa
open Go.ChangeShapes Go.WideShapes Go.ChangeAt Go.RowKit
set_option linter.unusedVariables false

/-- Whether an item is ok. -/
def It.okB (x : It) : Bool := okItm x.q x.t x.k x.v x.n
/-- Whether the end of a log is one, behind a mark. -/
def logGo : List It → Int → Bool
  | [], _ => true
  | x :: r, m => x.okB && !(x.q == 3) && (if x.q = 2 then decide (m < x.t) && logGo r x.t else logGo r m)
/-- Whether an item is the mark of the end. -/
def It.endB (x : It) : Bool := x.q == 2 && x.t == 1000 && x.k == 0 && x.v == 0 && x.n == 0
/-- Whether items are a log. -/
def okLog (xs : List It) : Bool := inB xs.length 1 40 && (match xs.getLast? with | some x => x.endB | none => false) && logGo xs 0

theorem logGo_drop {xs : List It} {k : Nat} {q t kk v nn : Int} (h : xs[k]? = some ⟨q, t, kk, v, nn⟩) (m : Int) : logGo (xs.drop k) m = (okItm q t kk v nn && !(q == 3) && (if q = 2 then decide (m < t) && logGo (xs.drop (k + 1)) t else logGo (xs.drop (k + 1)) m)) := by
  obtain ⟨hk, he⟩ := List.getElem?_eq_some_iff.1 h
  rw [List.drop_eq_getElem_cons hk, he]
  rfl

end Go.Proofs.Ytikhmgkoodoeoaa
