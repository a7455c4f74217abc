/- Laid together: what the claim needs of the texts that were built one by one. -/
import Derived.Test.YtiilbnjjhgcjdaaGreatV7
import Derived.Test.YtiilbnjjhgcjdaaGreatV13
import Derived.Test.YtiilbnjjhgcjdaaGreatV14
import Derived.Test.YtiilbnjjhgcjdaaGreatV0
set_option linter.unusedVariables false
namespace Go.Proofs.YtiilbnjjhgcjdaaGreat
open Go.ChangeShapes Go.WideShapes Go.ChangeAt Go.RowKit
set_option linter.unusedSimpArgs false
def itOf(y:cw):It:=⟨y.kd,y.tm,y.ke,y.va,y.nn⟩
theorem its_of{W:World}{a:Option Addr}{n:Nat}{xs:List cw}(h:cr W a n xs):Its W a n (xs.map itOf):=by
 refine⟨by rw[List.length_map];exact h.1,h.2.1,h.2.2.imp id fun⟨g,o,e,hx⟩=>⟨g,o,e,fun i x hi=>?_⟩⟩
 rw[List.getElem?_map,Option.map_eq_some_iff]at hi
 obtain⟨y,hy,rfl⟩:=hi
 exact hx i y hy
/-- Whether a log, a transaction, a sink is ok. -/
def cj.okB(x:cj):Bool:=bl (x.q.map itOf)
def cg.okB(x:cg):Bool:=bd x.n x.ps x.ls
def bn:Int→List cg→Bool
 |_,[]=>true
 |n,x :: r=>decide (n<x.n)&&bn x.n r
def dm:Int→List cg→Int
 |n,[]=>n
 |_,x :: r=>dm x.n r
theorem fb:∀(l:List cg) (n:Int) (x:cg),bn n (l++[x])=(bn n l&&decide (dm n l<x.n))
 | [],n,x=>by
  show(decide (n<x.n)&&true)=(true&&decide (n<x.n))
  rw[Bool.and_true,Bool.true_and]
 |y :: l,n,x=>by
  show(decide (n<y.n)&&bn y.n (l++[x]))=_
  rw[fb l y.n x,←Bool.and_assoc];rfl
theorem gL:∀(l:List cg) (n:Int) (x:cg),dm n (l++[x])=x.n
 | [],_,_=>rfl
 |y :: l,n,x=>gL l y.n x
theorem last_ge:∀(l:List cg) (n:Int),bn n l=true→n≤dm n l
 | [],n,_=>Int.le_refl _
 |y :: l,n,h=>by
  simp only[bn,Bool.and_eq_true,decide_eq_true_eq]at h
  have:=last_ge l y.n h.2
  show n≤dm y.n l
  omega
def bG.okB(x:bG):Bool:=decide (x.rd.length≤12)&&aM x.n 0 900&&decide (x.ps.length≤1500)&&decide (x.ls.length≤1500)&&x.rd.all cg.okB&&bn x.n x.rd&&x.ps.all ce.okB&&x.ls.all cb.okB
theorem fP{α:Type}{l:List α}{i:Nat}{x:α}(h:l[i]? =some x):l.take (i+1)=l.take i++[x]:=by rw[List.take_add_one,h];rfl
theorem dQ{α:Type}{f:α→Bool}{l:List α}{i:Nat}{x:α}(h:(l.take i).all f=true)(hx:l[i]? =some x)(hf:f x=true):(l.take (i+1)).all f=true:=by rw[fP hx,List.all_append,h];simp[hf]
theorem eo{α:Type}{f:α→Bool}{l:List α}{i:Nat}{x:α}(hx:l[i]? =some x)(hf:f x=false):l.all f=false:=List.all_eq_false.2 ⟨x,List.mem_of_getElem? hx,by simp[hf]⟩
theorem fx{n:Int}{l:List cg}{i:Nat}{x:cg}(h:bn n (l.take i)=true)(hx:l[i]? =some x)(hf:dm n (l.take i)<x.n):bn n (l.take (i+1))=true:=by rw[fP hx,fb,h,decide_eq_true hf];rfl
theorem gi:∀(l:List cg) (n:Int) (i:Nat),bn n l=true→bn n (l.take i)=true
 | [],_,_,_=>by simp[bn]
 |y :: l,n,0,_=>rfl
 |y :: l,n,i+1,h=>by
  simp only[bn,Bool.and_eq_true]at h
  show(decide (n<y.n)&&bn y.n (l.take i))=true
  rw[h.1,gi l y.n i h.2];rfl
theorem gj{n:Int}{l:List cg}{i:Nat}{x:cg}(hx:l[i]? =some x)(hf:¬ dm n (l.take i)<x.n):bn n l=false:=by
 cases hr:bn n l with
 |false=>rfl
 |true=>
  have:=gi l n (i+1) hr
  rw[fP hx,fb,decide_eq_false hf,Bool.and_false]at this
  cases this
theorem gM{n:Int}{l:List cg}{i:Nat}{y:cg}(hy:l[i]? =some y):dm n (l.take (i+1))=y.n:=by rw[fP hy,gL]
/-- Whether a source is where it may be. -/
def fc(n:Int)(logs:List cj)(srcs:List dJ)(ats:List Int)(i:Nat):Bool:=match logs[i]?,srcs[i]?,ats[i]? with
 |some l,some s,some a=>aM s.at_ 0 (l.q.length:Int)&&aM s.wl 0 n&& !decide ((l.q.length:Int)<a)
 |_,_,_=>false
def bq(s t k z p l e v r n:Int)(x:dM):Bool:=aZ s t k z p l e v r x.om x.wl x.pn ⟨x.ins,x.rows,x.ps,x.ls⟩&& !decide (n<x.wl)
def fN.ck(x:fN):gD:=⟨x.n,x.op,x.src,x.tsk,x.sn,x.sfn,x.at_,x.ssn⟩
/-- Whether a flow is ok. -/
def ci(x:fN):Bool:=bF x.s x.t x.k x.z x.p x.l x.e x.v x.r x.ck&&decide ((x.logs.length:Int)=x.s)&&decide ((x.srcs.length:Int)=x.s)&&decide ((x.tks.length:Int)=x.t)&&decide ((x.sks.length:Int)=x.t)&&x.logs.all cj.okB&&(List.range x.logs.length).all (fc x.n x.logs x.srcs x.at_)&&x.tks.all (bq x.s x.t x.k x.z x.p x.l x.e x.v x.r x.n)&&x.sks.all bG.okB
end Go.Proofs.YtiilbnjjhgcjdaaGreat
