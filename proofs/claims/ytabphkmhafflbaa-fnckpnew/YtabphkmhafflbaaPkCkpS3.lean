/- Laid together: what the claim needs of the texts that were built one by one. -/
import Derived.Test.YtabphkmhafflbaaPkCkpS
import Derived.Test.YtabphkmhafflbaaPkBase
namespace Go.Proofs.Ytabphkmhafflbaa
open Go.ChangeShapes Go.WideShapes Go.ChangeAt Go.RowKit Go.Deep
set_option linter.unusedVariables false

/-- Checkpoints lie in memory. -/
structure CkIs (W : World) (B : Nat) (a2 : Option Addr) (l2 : Nat) (a3 : Option Addr) (l3 : Nat) (a4 : Option Addr) (l4 : Nat) (a6 : Option Addr) (l6 : Nat) (a7 : Option Addr) (l7 : Nat) (x : CkD) : Prop where
  src : InB W B a2 l2 x.src
  tsk : BoB W B a3 l3 x.tsk
  sn : SnB W B a4 l4 x.sn
  at_ : InB W B a6 l6 x.at_
  ssn : SnB W B a7 l7 x.ssn

theorem CkIs.below {W W' : World} {B : Nat} {a2 a3 a4 a6 a7 : Option Addr} {l2 l3 l4 l6 l7 : Nat} {x : CkD} (h : CkIs W B a2 l2 a3 l3 a4 l4 a6 l6 a7 l7 x) (hb : Below W.heap.size W W') : CkIs W' B a2 l2 a3 l3 a4 l4 a6 l6 a7 l7 x := ⟨h.1.below hb, h.2.below hb, h.3.below hb, h.4.below hb, h.5.below hb⟩

theorem CkIs.less {W : World} {B B' : Nat} {a2 a3 a4 a6 a7 : Option Addr} {l2 l3 l4 l6 l7 : Nat} {x : CkD} (h : CkIs W B a2 l2 a3 l3 a4 l4 a6 l6 a7 l7 x) (hB : B' ≤ B) : CkIs W B' a2 l2 a3 l3 a4 l4 a6 l6 a7 l7 x := ⟨h.1.less hB, h.2.less hB, h.3.less hB, h.4.less hB, h.5.less hB⟩

/-- Nothing is kept of a task. -/
def nothSn (y : SnD) : Bool := y.ma == 0 && decide (y.rows.length + y.marks.length = 0)

/-- Whether a source, a task, may have told that. -/
def okSrc (op : Bool) (m : Int) : Bool := inB m (-1) 40 && (op || m == -1)

def okTk (s t k z p l e v r : Int) (op : Bool) (q : Bool × SnD) : Bool := match q.1 with
  | true => op && okSn s t k z p l e v r q.2
  | false => nothSn q.2

/-- Whether checkpoints are ok. -/
def okCk (s t k z p l e v r : Int) (x : CkD) : Bool := okJob s t k z p l e v r && inB x.n x.sfn 900 && !(x.op && x.n == x.sfn) && decide ((x.src.length : Int) = s) && decide ((x.tsk.length : Int) = t) && decide ((x.sn.length : Int) = t) && okCs s t k z p l e v r ⟨x.sfn, x.at_, x.ssn⟩ && x.src.all (okSrc x.op) && (x.tsk.zip x.sn).all (okTk s t k z p l e v r x.op)

theorem zip_at {α β : Type} {xs : List α} {ys : List β} {i : Nat} {x : α} {y : β} (h1 : xs[i]? = some x) (h2 : ys[i]? = some y) : (xs.zip ys)[i]? = some (x, y) := by
  rw [List.getElem?_zip_eq_some]
  exact ⟨h1, h2⟩

theorem okCk_and {s t k z p l e v r : Int} {x : CkD} (h : okCk s t k z p l e v r x = true) : (x.src.length : Int) = s ∧ (x.tsk.length : Int) = t ∧ (x.sn.length : Int) = t ∧ okCs s t k z p l e v r ⟨x.sfn, x.at_, x.ssn⟩ = true ∧ x.src.all (okSrc x.op) = true ∧ (x.tsk.zip x.sn).all (okTk s t k z p l e v r x.op) = true := by
  unfold okCk at h
  simp only [Bool.and_eq_true, decide_eq_true_eq] at h
  obtain ⟨⟨⟨⟨⟨⟨_, h4⟩, h5⟩, h6⟩, h7⟩, h8⟩, h9⟩ := h
  exact ⟨h4, h5, h6, h7, h8, h9⟩
end Go.Proofs.Ytabphkmhafflbaa
