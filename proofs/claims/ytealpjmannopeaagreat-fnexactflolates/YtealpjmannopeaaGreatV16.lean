/- Laid together: what the claim needs of the texts that were built one by one. -/
import Derived.Test.YtealpjmannopeaaGreatV8
import Derived.Test.YtealpjmannopeaaGreatV14
import Derived.Test.YtealpjmannopeaaGreatV15
import Derived.Test.YtealpjmannopeaaGreatV0
set_option linter.unusedVariables false
namespace Go.Proofs.YtealpjmannopeaaGreat
open Go.ChangeShapes Go.WideShapes Go.ChangeAt Go.RowKit
set_option linter.unusedSimpArgs false
def itOf(y:cJ):It:=⟨y.kd,y.tm,y.ke,y.va,y.nn⟩
theorem its_of{W:World}{a:Option Addr}{n:Nat}{xs:List cJ}(h:cD W a n xs):Its W a n (xs.map itOf):=by
 refine⟨by rw[List.length_map];exact h.1,h.2.1,h.2.2.imp id fun⟨g,o,e,hx⟩=>⟨g,o,e,fun i x hi=>?_⟩⟩
 rw[List.getElem?_map,Option.map_eq_some_iff]at hi
 obtain⟨y,hy,rfl⟩:=hi
 exact hx i y hy
/-- Whether a log, a transaction, a sink is ok. -/
def cb.okB(x:cb):Bool:=bt (x.q.map itOf)
def bZ.okB(x:bZ):Bool:=bj x.n x.ps x.ls
def bv:Int→List bZ→Bool
 |_,[]=>true
 |n,x :: r=>decide (n<x.n)&&bv x.n r
def dD:Int→List bZ→Int
 |n,[]=>n
 |_,x :: r=>dD x.n r
theorem fE:∀(l:List bZ) (n:Int) (x:bZ),bv n (l++[x])=(bv n l&&decide (dD n l<x.n))
 | [],n,x=>by
  show(decide (n<x.n)&&true)=(true&&decide (n<x.n))
  rw[Bool.and_true,Bool.true_and]
 |y :: l,n,x=>by
  show(decide (n<y.n)&&bv y.n (l++[x]))=_
  rw[fE l y.n x,←Bool.and_assoc];rfl
theorem iF:∀(l:List bZ) (n:Int) (x:bZ),dD n (l++[x])=x.n
 | [],_,_=>rfl
 |y :: l,n,x=>iF l y.n x
theorem last_ge:∀(l:List bZ) (n:Int),bv n l=true→n≤dD n l
 | [],n,_=>Int.le_refl _
 |y :: l,n,h=>by
  simp only[bv,Bool.and_eq_true,decide_eq_true_eq]at h
  have:=last_ge l y.n h.2
  show n≤dD y.n l
  omega
def bu.okB(x:bu):Bool:=decide (x.rd.length≤12)&&aP x.n 0 900&&decide (x.ps.length≤1500)&&decide (x.ls.length≤1500)&&x.rd.all bZ.okB&&bv x.n x.rd&&x.ps.all co.okB&&x.ls.all bz.okB
theorem gt{α:Type}{l:List α}{i:Nat}{x:α}(h:l[i]? =some x):l.take (i+1)=l.take i++[x]:=by rw[List.take_add_one,h];rfl
theorem ed{α:Type}{f:α→Bool}{l:List α}{i:Nat}{x:α}(h:(l.take i).all f=true)(hx:l[i]? =some x)(hf:f x=true):(l.take (i+1)).all f=true:=by rw[gt hx,List.all_append,h];simp[hf]
theorem eC{α:Type}{f:α→Bool}{l:List α}{i:Nat}{x:α}(hx:l[i]? =some x)(hf:f x=false):l.all f=false:=List.all_eq_false.2 ⟨x,List.mem_of_getElem? hx,by simp[hf]⟩
theorem fY{n:Int}{l:List bZ}{i:Nat}{x:bZ}(h:bv n (l.take i)=true)(hx:l[i]? =some x)(hf:dD n (l.take i)<x.n):bv n (l.take (i+1))=true:=by rw[gt hx,fE,h,decide_eq_true hf];rfl
theorem gO:∀(l:List bZ) (n:Int) (i:Nat),bv n l=true→bv n (l.take i)=true
 | [],_,_,_=>by simp[bv]
 |y :: l,n,0,_=>rfl
 |y :: l,n,i+1,h=>by
  simp only[bv,Bool.and_eq_true]at h
  show(decide (n<y.n)&&bv y.n (l.take i))=true
  rw[h.1,gO l y.n i h.2];rfl
theorem gP{n:Int}{l:List bZ}{i:Nat}{x:bZ}(hx:l[i]? =some x)(hf:¬ dD n (l.take i)<x.n):bv n l=false:=by
 cases hr:bv n l with
 |false=>rfl
 |true=>
  have:=gO l n (i+1) hr
  rw[gt hx,fE,decide_eq_false hf,Bool.and_false]at this
  cases this
theorem iG{n:Int}{l:List bZ}{i:Nat}{y:bZ}(hy:l[i]? =some y):dD n (l.take (i+1))=y.n:=by rw[gt hy,iF]
/-- Whether a source is where it may be. -/
def fF(n:Int)(logs:List cb)(srcs:List dR)(ats:List Int)(i:Nat):Bool:=match logs[i]?,srcs[i]?,ats[i]? with
 |some l,some s,some a=>aP s.at_ 0 (l.q.length:Int)&&aP s.wl 0 n&& !decide ((l.q.length:Int)<a)
 |_,_,_=>false
def bC(s t k z p l e v r n:Int)(x:dk):Bool:=bc s t k z p l e v r x.om x.wl x.pn ⟨x.ins,x.rows,x.ps,x.ls⟩&& !decide (n<x.wl)
def fL.ck(x:fL):iw:=⟨x.n,x.op,x.src,x.tsk,x.sn,x.sfn,x.at_,x.ssn⟩
/-- Whether a flow is ok. -/
def cl(x:fL):Bool:=bU x.s x.t x.k x.z x.p x.l x.e x.v x.r x.ck&&decide ((x.logs.length:Int)=x.s)&&decide ((x.srcs.length:Int)=x.s)&&decide ((x.tks.length:Int)=x.t)&&decide ((x.sks.length:Int)=x.t)&&x.logs.all cb.okB&&(List.range x.logs.length).all (fF x.n x.logs x.srcs x.at_)&&x.tks.all (bC x.s x.t x.k x.z x.p x.l x.e x.v x.r x.n)&&x.sks.all bu.okB
end Go.Proofs.YtealpjmannopeaaGreat
