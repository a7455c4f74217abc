/- Laid together: what the claim needs of the texts that were built one by one. -/
import Derived.Test.YtabphkmhafflbaaPkCkpQ
import Derived.Test.YtabphkmhafflbaaPkBase
namespace Go.Proofs.Ytabphkmhafflbaa
open Go.ChangeShapes Go.WideShapes Go.ChangeAt Go.RowKit Go.Deep
set_option linter.unusedVariables false

/-- What checkpoints are in memory. -/
def CkM (W : World) (B : Nat) (a2 a3 a4 a6 a7 : Option Addr) (D : CkD) : Prop := InB W B a2 D.src.length D.src ∧ BoB W B a3 D.tsk.length D.tsk ∧ SnB W B a4 D.sn.length D.sn ∧ InB W B a6 D.at_.length D.at_ ∧ SnB W B a7 D.ssn.length D.ssn

theorem CkM.below {W W' : World} {B : Nat} {a2 a3 a4 a6 a7 : Option Addr} {D : CkD} (h : CkM W B a2 a3 a4 a6 a7 D) (hb : Below W.heap.size W W') : CkM W' B a2 a3 a4 a6 a7 D := ⟨h.1.below hb, h.2.1.below hb, h.2.2.1.below hb, h.2.2.2.1.below hb, h.2.2.2.2.below hb⟩

theorem CkM.less {W : World} {B B' : Nat} {a2 a3 a4 a6 a7 : Option Addr} {D : CkD} (h : CkM W B a2 a3 a4 a6 a7 D) (hB : B' ≤ B) : CkM W B' a2 a3 a4 a6 a7 D := ⟨h.1.less hB, h.2.1.less hB, h.2.2.1.less hB, h.2.2.2.1.less hB, h.2.2.2.2.less hB⟩

theorem CkM.set {W : World} {B : Nat} {p : Addr} {v : Value} {a2 a3 a4 a6 a7 : Option Addr} {D : CkD} (h : CkM W B a2 a3 a4 a6 a7 D) (hp : p.block < B) : CkM (W.setCell p v) B a2 a3 a4 a6 a7 D := ⟨h.1.set hp, h.2.1.set hp, h.2.2.1.set hp, h.2.2.2.1.set hp, h.2.2.2.2.set hp⟩
end Go.Proofs.Ytabphkmhafflbaa
