/- Laid together: what the claim needs of the texts that were built one by one. -/
import Derived.Test.YtbjhpiannjepkaaGreatPsCkpQ
import Derived.Test.YtbjhpiannjepkaaGreatPsCkpM3
import Derived.Test.YtbjhpiannjepkaaGreatPsBase
namespace Go.Proofs.YtbjhpiannjepkaaGreat
open Go.ChangeShapes Go.WideShapes Go.ChangeAt Go.RowKit Go.Deep
set_option linter.unusedVariables false

/-- What checkpoints are in memory. -/
def CkM (W : World) (B : Nat) (a2 a3 a4 a6 a7 : Option Addr) (D : CkD) : Prop := InB W B a2 D.src.length D.src ∧ BoB W B a3 D.tsk.length D.tsk ∧ SnB W B a4 D.sn.length D.sn ∧ InB W B a6 D.at_.length D.at_ ∧ SnB W B a7 D.ssn.length D.ssn

theorem CkM.below {W W' : World} {B : Nat} {a2 a3 a4 a6 a7 : Option Addr} {D : CkD} (h : CkM W B a2 a3 a4 a6 a7 D) (hb : Below W.heap.size W W') : CkM W' B a2 a3 a4 a6 a7 D := ⟨h.1.below hb, h.2.1.below hb, h.2.2.1.below hb, h.2.2.2.1.below hb, h.2.2.2.2.below hb⟩

theorem CkM.less {W : World} {B B' : Nat} {a2 a3 a4 a6 a7 : Option Addr} {D : CkD} (h : CkM W B a2 a3 a4 a6 a7 D) (hB : B' ≤ B) : CkM W B' a2 a3 a4 a6 a7 D := ⟨h.1.less hB, h.2.1.less hB, h.2.2.1.less hB, h.2.2.2.1.less hB, h.2.2.2.2.less hB⟩

theorem CkM.set {W : World} {B : Nat} {p : Addr} {v : Value} {a2 a3 a4 a6 a7 : Option Addr} {D : CkD} (h : CkM W B a2 a3 a4 a6 a7 D) (hp : p.block < B) : CkM (W.setCell p v) B a2 a3 a4 a6 a7 D := ⟨h.1.set hp, h.2.1.set hp, h.2.2.1.set hp, h.2.2.2.1.set hp, h.2.2.2.2.set hp⟩

theorem kCk_pos {W : World} {D : CkD} {a2 a3 a4 a6 a7 : Option Addr} {c2 c3 c4 c6 c7 : Nat} {v4 v7 : List SnV} (h : WrCk W a2 D.src.length c2 a3 D.tsk.length c3 a4 D.sn.length c4 a6 D.at_.length c6 a7 D.ssn.length c7 v4 v7) : 0 ≤ kCk D.src.length D.tsk.length v4 D.at_.length v7 := by
  have h1 := (kSn_bd (1 + (D.src.length : Int) + (D.tsk.length : Int)) v4 h.r4.lims).1
  have h2 := (kSn_bd (kC7 D.src.length D.tsk.length v4 D.at_.length) v7 h.r7.lims).1
  unfold kCk
  unfold kC7 at h2 ⊢
  unfold kC6 at h2 ⊢
  omega
end Go.Proofs.YtbjhpiannjepkaaGreat
