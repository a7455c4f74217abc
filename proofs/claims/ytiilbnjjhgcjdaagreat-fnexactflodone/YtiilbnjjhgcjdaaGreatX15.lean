/- Laid together: what the claim needs of the texts that were built one by one. -/
import Derived.Test.YtiilbnjjhgcjdaaGreatX7
import Derived.Test.YtiilbnjjhgcjdaaGreatX13
import Derived.Test.YtiilbnjjhgcjdaaGreatX14
import Derived.Test.YtiilbnjjhgcjdaaGreatX0
set_option linter.unusedVariables false
namespace Go.Proofs.YtiilbnjjhgcjdaaGreat
open Go.ChangeShapes Go.WideShapes Go.ChangeAt Go.RowKit
set_option linter.unusedSimpArgs false
def itOf(y:cH):It:=⟨y.kd,y.tm,y.ke,y.va,y.nn⟩
theorem its_of{W:World}{a:Option Addr}{n:Nat}{xs:List cH}(h:cw W a n xs):Its W a n (xs.map itOf):=by
 refine⟨by rw[List.length_map];exact h.1,h.2.1,h.2.2.imp id fun⟨g,o,e,hx⟩=>⟨g,o,e,fun i x hi=>?_⟩⟩
 rw[List.getElem?_map,Option.map_eq_some_iff]at hi
 obtain⟨y,hy,rfl⟩:=hi
 exact hx i y hy
/-- Whether a log, a transaction, a sink is ok. -/
def cr.okB(x:cr):Bool:=bn (x.q.map itOf)
def co.okB(x:co):Bool:=bf x.n x.ps x.ls
def bp:Int→List co→Bool
 |_,[]=>true
 |n,x :: r=>decide (n<x.n)&&bp x.n r
def dw:Int→List co→Int
 |n,[]=>n
 |_,x :: r=>dw x.n r
theorem fl:∀(l:List co) (n:Int) (x:co),bp n (l++[x])=(bp n l&&decide (dw n l<x.n))
 | [],n,x=>by
  show(decide (n<x.n)&&true)=(true&&decide (n<x.n))
  rw[Bool.and_true,Bool.true_and]
 |y :: l,n,x=>by
  show(decide (n<y.n)&&bp y.n (l++[x]))=_
  rw[fl l y.n x,←Bool.and_assoc];rfl
theorem gY:∀(l:List co) (n:Int) (x:co),dw n (l++[x])=x.n
 | [],_,_=>rfl
 |y :: l,n,x=>gY l y.n x
theorem last_ge:∀(l:List co) (n:Int),bp n l=true→n≤dw n l
 | [],n,_=>Int.le_refl _
 |y :: l,n,h=>by
  simp only[bp,Bool.and_eq_true,decide_eq_true_eq]at h
  have:=last_ge l y.n h.2
  show n≤dw y.n l
  omega
def bE.okB(x:bE):Bool:=decide (x.rd.length≤12)&&aO x.n 0 900&&decide (x.ps.length≤1500)&&decide (x.ls.length≤1500)&&x.rd.all co.okB&&bp x.n x.rd&&x.ps.all cl.okB&&x.ls.all ch.okB
theorem fZ{α:Type}{l:List α}{i:Nat}{x:α}(h:l[i]? =some x):l.take (i+1)=l.take i++[x]:=by rw[List.take_add_one,h];rfl
theorem dx{α:Type}{f:α→Bool}{l:List α}{i:Nat}{x:α}(h:(l.take i).all f=true)(hx:l[i]? =some x)(hf:f x=true):(l.take (i+1)).all f=true:=by rw[fZ hx,List.all_append,h];simp[hf]
theorem dG{α:Type}{f:α→Bool}{l:List α}{i:Nat}{x:α}(hx:l[i]? =some x)(hf:f x=false):l.all f=false:=List.all_eq_false.2 ⟨x,List.mem_of_getElem? hx,by simp[hf]⟩
theorem fJ{n:Int}{l:List co}{i:Nat}{x:co}(h:bp n (l.take i)=true)(hx:l[i]? =some x)(hf:dw n (l.take i)<x.n):bp n (l.take (i+1))=true:=by rw[fZ hx,fl,h,decide_eq_true hf];rfl
theorem gv:∀(l:List co) (n:Int) (i:Nat),bp n l=true→bp n (l.take i)=true
 | [],_,_,_=>by simp[bp]
 |y :: l,n,0,_=>rfl
 |y :: l,n,i+1,h=>by
  simp only[bp,Bool.and_eq_true]at h
  show(decide (n<y.n)&&bp y.n (l.take i))=true
  rw[h.1,gv l y.n i h.2];rfl
theorem gw{n:Int}{l:List co}{i:Nat}{x:co}(hx:l[i]? =some x)(hf:¬ dw n (l.take i)<x.n):bp n l=false:=by
 cases hr:bp n l with
 |false=>rfl
 |true=>
  have:=gv l n (i+1) hr
  rw[fZ hx,fl,decide_eq_false hf,Bool.and_false]at this
  cases this
theorem hG{n:Int}{l:List co}{i:Nat}{y:co}(hy:l[i]? =some y):dw n (l.take (i+1))=y.n:=by rw[fZ hy,gY]
/-- Whether a source is where it may be. -/
def fm(n:Int)(logs:List cr)(srcs:List dO)(ats:List Int)(i:Nat):Bool:=match logs[i]?,srcs[i]?,ats[i]? with
 |some l,some s,some a=>aO s.at_ 0 (l.q.length:Int)&&aO s.wl 0 n&& !decide ((l.q.length:Int)<a)
 |_,_,_=>false
def br(s t k z p l e v r n:Int)(x:dB):Bool:=aZ s t k z p l e v r x.om x.wl x.pn ⟨x.ins,x.rows,x.ps,x.ls⟩&& !decide (n<x.wl)
def eC.ck(x:eC):gP:=⟨x.n,x.op,x.src,x.tsk,x.sn,x.sfn,x.at_,x.ssn⟩
/-- Whether a flow is ok. -/
def bS(x:eC):Bool:=bC x.s x.t x.k x.z x.p x.l x.e x.v x.r x.ck&&decide ((x.logs.length:Int)=x.s)&&decide ((x.srcs.length:Int)=x.s)&&decide ((x.tks.length:Int)=x.t)&&decide ((x.sks.length:Int)=x.t)&&x.logs.all cr.okB&&(List.range x.logs.length).all (fm x.n x.logs x.srcs x.at_)&&x.tks.all (br x.s x.t x.k x.z x.p x.l x.e x.v x.r x.n)&&x.sks.all bE.okB
end Go.Proofs.YtiilbnjjhgcjdaaGreat
