/- Laid together: what the claim needs of the texts that were built one by one. -/
import Derived.Test.YtdmhihcipkhecaaGreatR18
import Derived.Maps.RangeWalk
import Derived.Test.YtdmhihcipkhecaaGreatR0
import Derived.DefersIn
import Derived.Test.YtdmhihcipkhecaaGreatR5
import Derived.Test.YtdmhihcipkhecaaGreatR17
set_option linter.unusedVariables false
namespace Go.Proofs.YtdmhihcipkhecaaGreat
open Go.ChangeShapes Go.WideShapes Go.ChangeAt Go.RowKit Go.Shelf Go.Maps
set_option linter.unusedSimpArgs false
theorem OpD.del{D:DataW Value}{m:P3→Option Value}(h:OpD Tryz.prog 87 v3 gI DataW.held D m)(x:P3){kl:Lit}(hkl:keyOf Tryz.prog 87 (v3 x)=some kl):OpD Tryz.prog 87 v3 gI DataW.held (D.del kl) (fun q=>if q=x then none else m q):=fun q hq kq hkq=>by
 by_cases e:q=x
 ·subst e
  rw[hkl]at hkq
  cases hkq
  simp only[if_true]
  exact⟨fun a' ha'=>(by cases ha'),fun _=>has_del_same⟩
 ·have hne:kq≠kl:=fun e'=>e (inj3 _ _ (key3.inj (by rw[←e'];exact hkq) hkl))
  simp only[if_neg e]
  obtain⟨f1,f2⟩:=h q hq kq hkq
  exact⟨fun a' ha' zd=>by rw[atKey_del_other hne];exact f1 a' ha' zd,fun h9=>by rw[has_del_other hne];exact f2 h9⟩
set_option linter.unusedSimpArgs false
theorem bU.set{W:World}{B mb nn Bo o:Nat}{es:List bV}{cs:Array Value}(h:bU W B mb nn es)(hO:W.heap[Bo]? =some (.cells cs 75 (0,0)))(u:Value):bU (W.setCell ⟨Bo,o,none⟩ u) B mb nn es:=by
 refine⟨bB.keep h.map (Below.heap_setCell _ _ _ _ (fun e=>h.map.ne_cells hO e.symm)),fun e he=>?_,h.ge,h.nd⟩
 have b9:=h.box e he
 exact(Below.heap_setCell _ _ _ _ (fun e9=>by have b7:=b9;unfold eA at b7;rw[show e.1=Bo from e9,hO]at b7;simp at b7)).trans b9
end Go.Proofs.YtdmhihcipkhecaaGreat
namespace Go.Proofs.YtdmhihcipkhecaaGreat
open Go.ChangeShapes Go.WideShapes Go.ChangeAt Go.RowKit
set_option linter.unusedSimpArgs false
/-- A row is told by a mark, in time; the rows and the panes behind it. -/
def jk(mark:Int)(x:aD):Bool:= !x.tm&&decide (x.en≤mark)
def iI(mark:Int)(x:aD):aD:=if jk mark x=true then dp x else x
def mkPan(pc:Bool)(x:aD):cO:=⟨x.ky,x.st,x.en,x.td,1,if pc=true then x.fn else x.an,if pc=true then x.fsu else x.asu,if pc=true then x.fle else x.ale,if pc=true then x.fmo else x.amo⟩
def bE(l mark:Int)(xs:List aD):List aD:=(xs.map (iI mark)).filter (fun x=>decide (mark<x.en+l))
def b5(pc:Bool)(mark:Int)(xs:List aD):List cO:=(xs.filter (jk mark)).map (mkPan pc)
def ey(s t k z q l e:Int)(b:Bool)(v r m:Int)(xs:List aD)(mark:Int):Int×List aD×List cO:=if (cX s t k z q l e v r m xs&&ce mark 0 1000)=true then(if m<mark then(mark,bE l mark xs,b5 b mark xs)else(m,xs,[]))else(0,[],[])
end Go.Proofs.YtdmhihcipkhecaaGreat
namespace Go.Proofs.YtdmhihcipkhecaaGreat
open Go.ChangeShapes Go.WideShapes Go.ChangeAt Go.RowKit Go.Shelf Go.Maps
set_option linter.unusedSimpArgs false
theorem eN{W:World}{B B' size n:Nat}{e:TypeId}{v:Value}{ys:List Value}(h:W.ownsRow B e size v n ys)(hB:B'≤B):W.ownsRow B' e size v n ys:=by
 rcases h with⟨hl,h|⟨g,cap,cur,rfl,hg,r⟩⟩
 ·exact⟨hl,Or.inl h⟩
 ·exact⟨hl,Or.inr ⟨g,cap,cur,rfl,by omega,r⟩⟩
end Go.Proofs.YtdmhihcipkhecaaGreat
