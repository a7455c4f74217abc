/- Laid together: what the claim needs of the texts that were built one by one. -/
import Derived.Test.YtdmhihcipkhecaaGreatT15
import Derived.Maps.RangeWalk
import Derived.DefersIn
import Derived.Test.YtdmhihcipkhecaaGreatT3
import Derived.Test.YtdmhihcipkhecaaGreatT0
import Derived.Test.YtdmhihcipkhecaaGreatT14
set_option linter.unusedVariables false
namespace Go.Proofs.YtdmhihcipkhecaaGreat
open Go.ChangeShapes Go.WideShapes Go.ChangeAt Go.RowKit
set_option linter.unusedSimpArgs false
/-- A row is told by a mark, in time; the rows and the panes behind it. -/
def iU(mark:Int)(x:aC):Bool:= !x.tm&&decide (x.en≤mark)
def ie(mark:Int)(x:aC):aC:=if iU mark x=true then cT x else x
def mkPan(pc:Bool)(x:aC):cY:=⟨x.ky,x.st,x.en,x.td,1,if pc=true then x.fn else x.an,if pc=true then x.fsu else x.asu,if pc=true then x.fle else x.ale,if pc=true then x.fmo else x.amo⟩
def bq(l mark:Int)(xs:List aC):List aC:=(xs.map (ie mark)).filter (fun x=>decide (mark<x.en+l))
def bx(pc:Bool)(mark:Int)(xs:List aC):List cY:=(xs.filter (iU mark)).map (mkPan pc)
def ej(s t k z q l e:Int)(b:Bool)(v r m:Int)(xs:List aC)(mark:Int):Int×List aC×List cY:=if (cB s t k z q l e v r m xs&&bH mark 0 1000)=true then(if m<mark then(mark,bq l mark xs,bx b mark xs)else(m,xs,[]))else(0,[],[])
end Go.Proofs.YtdmhihcipkhecaaGreat
namespace Go.Proofs.YtdmhihcipkhecaaGreat
open Go.ChangeShapes Go.WideShapes Go.ChangeAt Go.RowKit Go.Shelf Go.Maps
set_option linter.unusedSimpArgs false
theorem ez{W:World}{B B' size n:Nat}{e:TypeId}{v:Value}{ys:List Value}(h:W.ownsRow B e size v n ys)(hB:B'≤B):W.ownsRow B' e size v n ys:=by
 rcases h with⟨hl,h|⟨g,cap,cur,rfl,hg,r⟩⟩
 ·exact⟨hl,Or.inl h⟩
 ·exact⟨hl,Or.inr ⟨g,cap,cur,rfl,by omega,r⟩⟩
end Go.Proofs.YtdmhihcipkhecaaGreat
