/- Laid together: what the claim needs of the texts that were built one by one. -/
import Derived.Test.YtealpjmannopeaaGreatX7
import Derived.Test.YtealpjmannopeaaGreatX13
import Derived.Test.YtealpjmannopeaaGreatX14
import Derived.Test.YtealpjmannopeaaGreatX0
set_option linter.unusedVariables false
namespace Go.Proofs.YtealpjmannopeaaGreat
open Go.ChangeShapes Go.WideShapes Go.ChangeAt Go.RowKit
set_option linter.unusedSimpArgs false
def ju(y:bF):It:=⟨y.kd,y.tm,y.ke,y.va,y.nn⟩
theorem im{W:World}{a:Option Addr}{n:Nat}{xs:List bF}(h:bG W a n xs):Its W a n (xs.map ju):=by
 refine⟨by rw[List.length_map];exact h.1,h.2.1,h.2.2.imp id fun⟨g,o,e,hx⟩=>⟨g,o,e,fun i x hi=>?_⟩⟩
 rw[List.getElem?_map,Option.map_eq_some_iff]at hi
 obtain⟨y,hy,rfl⟩:=hi
 exact hx i y hy
/-- Whether a log, a transaction, a sink is ok. -/
def bS.okB(x:bS):Bool:=bu (x.q.map ju)
def cf.okB(x:cf):Bool:=bj x.n x.ps x.ls
def bv:Int→List cf→Bool
 |_,[]=>true
 |n,x :: r=>decide (n<x.n)&&bv x.n r
def dI:Int→List cf→Int
 |n,[]=>n
 |_,x :: r=>dI x.n r
theorem fQ:∀(l:List cf) (n:Int) (x:cf),bv n (l++[x])=(bv n l&&decide (dI n l<x.n))
 | [],n,x=>by
  show(decide (n<x.n)&&true)=(true&&decide (n<x.n))
  rw[Bool.and_true,Bool.true_and]
 |y :: l,n,x=>by
  show(decide (n<y.n)&&bv y.n (l++[x]))=_
  rw[fQ l y.n x,←Bool.and_assoc];rfl
theorem iY:∀(l:List cf) (n:Int) (x:cf),dI n (l++[x])=x.n
 | [],_,_=>rfl
 |y :: l,n,x=>iY l y.n x
theorem last_ge:∀(l:List cf) (n:Int),bv n l=true→n≤dI n l
 | [],n,_=>Int.le_refl _
 |y :: l,n,h=>by
  simp only[bv,Bool.and_eq_true,decide_eq_true_eq]at h
  have:=last_ge l y.n h.2
  show n≤dI y.n l
  omega
def bC.okB(x:bC):Bool:=decide (x.rd.length≤12)&&aP x.n 0 900&&decide (x.ps.length≤1500)&&decide (x.ls.length≤1500)&&x.rd.all cf.okB&&bv x.n x.rd&&x.ps.all cx.okB&&x.ls.all cq.okB
theorem gL{α:Type}{l:List α}{i:Nat}{x:α}(h:l[i]? =some x):l.take (i+1)=l.take i++[x]:=by rw[List.take_add_one,h];rfl
theorem em{α:Type}{f:α→Bool}{l:List α}{i:Nat}{x:α}(h:(l.take i).all f=true)(hx:l[i]? =some x)(hf:f x=true):(l.take (i+1)).all f=true:=by rw[gL hx,List.all_append,h];simp[hf]
theorem eL{α:Type}{f:α→Bool}{l:List α}{i:Nat}{x:α}(hx:l[i]? =some x)(hf:f x=false):l.all f=false:=List.all_eq_false.2 ⟨x,List.mem_of_getElem? hx,by simp[hf]⟩
theorem gp{n:Int}{l:List cf}{i:Nat}{x:cf}(h:bv n (l.take i)=true)(hx:l[i]? =some x)(hf:dI n (l.take i)<x.n):bv n (l.take (i+1))=true:=by rw[gL hx,fQ,h,decide_eq_true hf];rfl
theorem io:∀(l:List cf) (n:Int) (i:Nat),bv n l=true→bv n (l.take i)=true
 | [],_,_,_=>by simp[bv]
 |y :: l,n,0,_=>rfl
 |y :: l,n,i+1,h=>by
  simp only[bv,Bool.and_eq_true]at h
  show(decide (n<y.n)&&bv y.n (l.take i))=true
  rw[h.1,io l y.n i h.2];rfl
theorem iq{n:Int}{l:List cf}{i:Nat}{x:cf}(hx:l[i]? =some x)(hf:¬ dI n (l.take i)<x.n):bv n l=false:=by
 cases hr:bv n l with
 |false=>rfl
 |true=>
  have:=io l n (i+1) hr
  rw[gL hx,fQ,decide_eq_false hf,Bool.and_false]at this
  cases this
theorem iZ{n:Int}{l:List cf}{i:Nat}{y:cf}(hy:l[i]? =some y):dI n (l.take (i+1))=y.n:=by rw[gL hy,iY]
/-- Whether a source is where it may be. -/
def fR(n:Int)(logs:List bS)(srcs:List dY)(ats:List Int)(i:Nat):Bool:=match logs[i]?,srcs[i]?,ats[i]? with
 |some l,some s,some a=>aP s.at_ 0 (l.q.length:Int)&&aP s.wl 0 n&& !decide ((l.q.length:Int)<a)
 |_,_,_=>false
def bz(s t k z p l e v r n:Int)(x:dr):Bool:=bc s t k z p l e v r x.om x.wl x.pn ⟨x.ins,x.rows,x.ps,x.ls⟩&& !decide (n<x.wl)
def fW.ck(x:fW):iQ:=⟨x.n,x.op,x.src,x.tsk,x.sn,x.sfn,x.at_,x.ssn⟩
/-- Whether a flow is ok. -/
def cv(x:fW):Bool:=ca x.s x.t x.k x.z x.p x.l x.e x.v x.r x.ck&&decide ((x.logs.length:Int)=x.s)&&decide ((x.srcs.length:Int)=x.s)&&decide ((x.tks.length:Int)=x.t)&&decide ((x.sks.length:Int)=x.t)&&x.logs.all bS.okB&&(List.range x.logs.length).all (fR x.n x.logs x.srcs x.at_)&&x.tks.all (bz x.s x.t x.k x.z x.p x.l x.e x.v x.r x.n)&&x.sks.all bC.okB
end Go.Proofs.YtealpjmannopeaaGreat
