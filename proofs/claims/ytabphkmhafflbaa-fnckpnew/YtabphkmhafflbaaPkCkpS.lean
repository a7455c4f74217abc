/- Laid together: what the claim needs of the texts that were built one by one. -/
import Derived.Test.YtabphkmhafflbaaPkBase
import Derived.Test.YtabphkmhafflbaaPkOpOkS
import Derived.Test.YtabphkmhafflbaaPkJob
namespace Go.Proofs.Ytabphkmhafflbaa
open Go.ChangeShapes Go.WideShapes Go.ChangeAt Go.RowKit Go.Deep
set_option linter.unusedVariables false

/-- The least of marks, and 1000. -/
def lowM (ms : List Int) : Int := ms.foldl loI 1000

def okMk (m : Int) : Bool := inB m 0 1000

/-- Whether what is kept of a task is ok. -/
def okSn (s t k z p l e v r : Int) (x : SnD) : Bool := okOp s t k z p l e v r x.ma x.rows && decide ((x.marks.length : Int) = s) && x.marks.all okMk && x.ma == lowM x.marks

/-- Whether what is safe is ok. -/
def okAtI (m : Int) : Bool := inB m 0 40

def okCs (s t k z p l e v r : Int) (x : CsD) : Bool := inB x.sfn 0 900 && decide ((x.at_.length : Int) = s) && decide ((x.ssn.length : Int) = t) && x.at_.all okAtI && x.ssn.all (okSn s t k z p l e v r)

theorem all_tt {α : Type} {xs : List α} {p : α → Bool} {k : Nat} {x : α} (h : (xs.take k).all p = true) (hx : xs[k]? = some x) (hp : p x = true) : (xs.take (k + 1)).all p = true := by
  obtain ⟨hk, he⟩ := List.getElem?_eq_some_iff.1 hx
  rw [List.take_succ_eq_append_getElem hk, List.all_append, h, he]
  simp [hp]

theorem all_ff {α : Type} {xs : List α} {p : α → Bool} {k : Nat} {x : α} (hx : xs[k]? = some x) (hp : p x = false) : xs.all p = false := by
  rw [List.all_eq_false]
  exact ⟨x, List.mem_of_getElem? hx, by simp [hp]⟩

theorem all_end {α : Type} {xs : List α} {p : α → Bool} {k : Nat} (h : (xs.take k).all p = true) (hk : xs.length ≤ k) : xs.all p = true := by rwa [List.take_of_length_le hk] at h
end Go.Proofs.Ytabphkmhafflbaa
