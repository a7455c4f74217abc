/- Laid together: what the claim needs of the texts that were built one by one. -/
import Derived.Test.YtiilbnjjhgcjdaaGreatX19
import Derived.Test.YtiilbnjjhgcjdaaGreatX23
import Derived.Test.YtiilbnjjhgcjdaaGreatX0
set_option linter.unusedVariables false
namespace Go.Proofs.YtiilbnjjhgcjdaaGreat
open Go.ChangeShapes Go.WideShapes Go.ChangeAt Go.RowKit Go.Deep
set_option linter.unusedSimpArgs false
def dL(x:eC)(i:Nat):Bool:=match x.logs[i]?,x.srcs[i]?,x.at_[i]? with
 |some l,some s,some a=> !decide (s.at_<(l.q.length:Int))&& !decide (a<(l.q.length:Int))
 |_,_,_=>false
def bw(y:bK):Bool:=(y.q.length:Int)==0
def ea(y:dB):Bool:=(y.om==1000)&&y.ins.all bw&&((y.ps.length:Int)==0)&&((y.ls.length:Int)==0)
def cE(x:eC)(i:Nat):Bool:=match x.tks[i]?,x.ssn[i]?,x.sks[i]? with
 |some y,some n,some s=>ea y&& !decide (n.ma<1000)&& !decide (0<(s.rd.length:Int))
 |_,_,_=>false
/-- Whether a flow is at its end. -/
def endB(x:eC):Bool:= !x.op&&(List.range x.logs.length).all (dL x)&&(List.range x.tks.length).all (cE x)
def dA(x:eC):Bool:=bS x&&endB x
theorem sent_at{x:eC}{i:Nat}{l:cr}{s:dO}{a:Int}(h1:x.logs[i]? =some l)(h2:x.srcs[i]? =some s)(h3:x.at_[i]? =some a):dL x i=(!decide (s.at_<(l.q.length:Int))&& !decide (a<(l.q.length:Int))):=by unfold dL;rw[h1,h2,h3]
theorem writ_at{x:eC}{i:Nat}{y:dB}{n:cz}{s:bE}(h1:x.tks[i]? =some y)(h2:x.ssn[i]? =some n)(h3:x.sks[i]? =some s):cE x i=(ea y&& !decide (n.ma<1000)&& !decide (0<(s.rd.length:Int))):=by unfold cE;rw[h1,h2,h3]
theorem bx{f:Nat→Bool}{n i:Nat}(h1:i<n)(h2:f i=false):(List.range n).all f=false:=by
 rw[List.all_eq_false]
 exact⟨i,List.mem_range.2 h1,by simp[h2]⟩
set_option maxRecDepth 20000 in
set_option maxHeartbeats 4000000 in
theorem emp_any(x:bK)(qa:Option Addr)(ql qc:Nat)(w:World)(h:cw w qa ql x.q):Calls Tryz.prog 206 #[.agg #[.slice qa ql qc,.int .i64 x.ma,.bool x.hd]] w fun e' w'=>e'= .returned (.bool (bw x))∧Below w.heap.size w w':=by
 have HE:Hid (bw x=((ql:Int)==0)):=ab (by unfold bw;rw[h.1])
 clear h
 go_enter Tryz.func206,Tryz.ntmps206
 go_wp2
 go_ret
 exact⟨ae (aa HE).symm,(aj)⟩
set_option maxRecDepth 20000 in
set_option maxHeartbeats 4000000 in
theorem everyTi(a:Option Addr)(len cap:Nat)(xs:List bK)(B:Nat)(w:World)(h:eW w B a len xs):Calls Tryz.prog 207 #[.slice a len cap,.func (.func 206) #[] #[]] w fun e' w'=>e'= .returned (.bool (xs.all bw))∧Below w.heap.size w w':=by
 have hm:=h.2.1
 unfold maxLen at hm
 go_enter Tryz.func207,Tryz.ntmps207
 go_wp2
 go_loopw [9] (fun i wr=>∃ix:Nat,ix≤len∧i= .int .i64 ix∧Hid ((xs.take ix).all bw=true)∧Below w.heap.size w wr) (fun i _=>len - (intOf i).toNat)
 case atStart=>exact⟨0,Nat.zero_le _,rfl,ab (by simp),Below.refl _ _⟩
 case round=>
  obtain⟨ix,hk,rfl,hA,hbw⟩:=hrel
  by_cases hlt:ix<len
  ·obtain⟨hxl,_,hx⟩:=h
   obtain⟨g,o,rfl,_,hr⟩:=hx.resolve_left (by omega)
   obtain⟨x,hxk⟩:∃x,xs[ix]? =some x:=⟨_,List.getElem?_eq_getElem (by omega)⟩
   have hX:=ab hxk
   obtain⟨a0,l0,c0,d0,d1,d2,k0,k9⟩:=(hr ix _ hxk).below hbw
   clear hx hxk hr
   cases hB:bw x
   ·have HE:Hid (xs.all bw=false):=ab (all_ff (aa hX) hB)
    go_wp2_with (go_at_call 206;refine(emp_any x a0 l0 c0 _ (k0.below (aj))).mono ?_;rw[hB];rintro e' wf ⟨rfl,hbf⟩)
    go_ret
    exact⟨ae (aa HE).symm,(aj)⟩
   ·have HE:Hid ((xs.take (ix+1)).all bw=true):=ab (all_tt (aa hA) (aa hX) hB)
    go_wp2_with (go_at_call 206;refine(emp_any x a0 l0 c0 _ (k0.below (aj))).mono ?_;rw[hB];rintro e' wf ⟨rfl,hbf⟩)
    go_roundw
    case rel=>exact⟨ix+1,by omega,by go_num,HE,(aj)⟩
    case measure=>simp[intOf];omega
  ·have HE:Hid (xs.all bw=true):=ab (bV (aa hA) (by have:=h.1;omega))
   go_wp2
   go_ret
   exact⟨ae (aa HE).symm,hbw⟩
set_option maxRecDepth 20000 in
set_option maxHeartbeats 4000000 in
theorem fC(x:dB)(a0:Option Addr)(l0 c0:Nat)(a2:Option Addr)(l2 c2:Nat)(a5:Option Addr)(l5 c5:Nat)(a6:Option Addr)(l6 c6:Nat)(B:Nat)(w:World)(h0:eW w B a0 l0 x.ins)(h5:cG w B a5 l5 x.ps)(h6:cJ w B a6 l6 x.ls):Calls Tryz.prog 181 #[.agg #[.slice a0 l0 c0,.int .i64 x.om,.slice a2 l2 c2,.int .i64 x.wl,.int .i64 x.pn,.slice a5 l5 c5,.slice a6 l6 c6]] w fun e' w'=>e'= .returned (.bool (ea x))∧Below w.heap.size w w':=by
 have HB0:Below w.heap.size w (w.alloc (.cells #[.slice a0 l0 c0,.int .i64 x.om,.slice a2 l2 c2,.int .i64 x.wl,.int .i64 x.pn,.slice a5 l5 c5,.slice a6 l6 c6] 86)):=ai _ _
 have e5:=h5.len.1
 have e6:=h6.len.1
 cases q0:(x.om==1000)
 ·have HE:Hid (ea x=false):=ab (by unfold ea;rw[q0];rfl)
  clear e5 e6
  go_enter Tryz.func181,Tryz.ntmps181
  go_wp2
  go_ret
  exact⟨ae (aa HE).symm,(aj)⟩
 ·have HE:Hid (ea x=(x.ins.all bw&&((l5:Int)==0)&&((l6:Int)==0))):=ab (by unfold ea;rw[q0,e5,e6,Bool.true_and])
  have H0:=ab (h0.below HB0)
  clear e5 e6 h0 h5 h6
  go_enter Tryz.func181,Tryz.ntmps181
  go_wp2_with fail
  refine(everyTi a0 l0 c0 x.ins B _ (aa H0)).mono ?_
  cases q1:x.ins.all bw
  ·have HE2:=ab (show ea x=false by rw[aa HE,q1];simp)
   rintro e' y1 ⟨rfl,hb1⟩
   go_wp2
   go_ret
   exact⟨ae (aa HE2).symm,ad HB0 hb1⟩
  ·have HE2:=ab (show ea x=(((l5:Int)==0)&&((l6:Int)==0)) by rw[aa HE,q1,Bool.true_and])
   rintro e' y1 ⟨rfl,hb1⟩
   have d5:y1.cell? ⟨w.heap.size,5,none⟩=some (.slice a5 l5 c5):=(hb1.cell (p:=⟨w.heap.size,5,none⟩) (by simp)).trans (iS)
   have d6:y1.cell? ⟨w.heap.size,6,none⟩=some (.slice a6 l6 c6):=(hb1.cell (p:=⟨w.heap.size,6,none⟩) (by simp)).trans (iS)
   cases q2:((l5:Int)==0)
   ·go_wp2
    go_ret
    exact⟨ae (by rw[aa HE2,q2];rfl),ad HB0 hb1⟩
   ·go_wp2
    go_ret
    exact⟨ae (by rw[aa HE2,q2,Bool.true_and]),ad HB0 hb1⟩
set_option maxRecDepth 20000 in
set_option maxHeartbeats 8000000 in
theorem sent_any(x:eC)(a10:Option Addr)(l10 c10:Nat)(a11:Option Addr)(l11 c11:Nat)(a12:Option Addr)(l12 c12:Nat)(a13:Option Addr)(l13 c13:Nat)(a16:Option Addr)(l16 c16:Nat)(a17:Option Addr)(l17 c17:Nat)(a18:Option Addr)(l18 c18:Nat)(a20:Option Addr)(l20 c20:Nat)(a21:Option Addr)(l21 c21:Nat)(B:Nat)(w:World)(h:FlIs w B a10 l10 a11 l11 a12 l12 a13 l13 a16 l16 a17 l17 a18 l18 a20 l20 a21 l21 x)(e10:(l10:Int)=x.s)(e11:(l11:Int)=x.s)(e20:(x.at_.length:Int)=x.s):Calls Tryz.prog 128 #[.agg #[.int .i64 x.s,.int .i64 x.t,.int .i64 x.k,.int .i64 x.z,.int .i64 x.p,.int .i64 x.l,.int .i64 x.e,.bool x.b,.int .i64 x.v,.int .i64 x.r,.slice a10 l10 c10,.slice a11 l11 c11,.slice a12 l12 c12,.slice a13 l13 c13,.int .i64 x.n,.bool x.op,.slice a16 l16 c16,.slice a17 l17 c17,.slice a18 l18 c18,.int .i64 x.sfn,.slice a20 l20 c20,.slice a21 l21 c21]] w fun e' w'=>e'= .returned (.bool ((List.range x.logs.length).all (dL x)))∧Below w.heap.size w w':=by
 have hl10:=h.logs.len
 have hl11:=h.srcs.len
 have hl20:=h.at_.len
 have HB0:Below w.heap.size w (w.alloc (.cells #[.int .i64 x.s,.int .i64 x.t,.int .i64 x.k,.int .i64 x.z,.int .i64 x.p,.int .i64 x.l,.int .i64 x.e,.bool x.b,.int .i64 x.v,.int .i64 x.r,.slice a10 l10 c10,.slice a11 l11 c11,.slice a12 l12 c12,.slice a13 l13 c13,.int .i64 x.n,.bool x.op,.slice a16 l16 c16,.slice a17 l17 c17,.slice a18 l18 c18,.int .i64 x.sfn,.slice a20 l20 c20,.slice a21 l21 c21] 50)):=ai _ _
 have bX:(w.alloc (.cells #[.int .i64 x.s,.int .i64 x.t,.int .i64 x.k,.int .i64 x.z,.int .i64 x.p,.int .i64 x.l,.int .i64 x.e,.bool x.b,.int .i64 x.v,.int .i64 x.r,.slice a10 l10 c10,.slice a11 l11 c11,.slice a12 l12 c12,.slice a13 l13 c13,.int .i64 x.n,.bool x.op,.slice a16 l16 c16,.slice a17 l17 c17,.slice a18 l18 c18,.int .i64 x.sfn,.slice a20 l20 c20,.slice a21 l21 c21] 50)).heap[w.heap.size]? =some (.cells #[.int .i64 x.s,.int .i64 x.t,.int .i64 x.k,.int .i64 x.z,.int .i64 x.p,.int .i64 x.l,.int .i64 x.e,.bool x.b,.int .i64 x.v,.int .i64 x.r,.slice a10 l10 c10,.slice a11 l11 c11,.slice a12 l12 c12,.slice a13 l13 c13,.int .i64 x.n,.bool x.op,.slice a16 l16 c16,.slice a17 l17 c17,.slice a18 l18 c18,.int .i64 x.sfn,.slice a20 l20 c20,.slice a21 l21 c21] 50 (0,0)):=aQ _ _ _
 have zz0:(w.alloc (.cells #[.int .i64 x.s,.int .i64 x.t,.int .i64 x.k,.int .i64 x.z,.int .i64 x.p,.int .i64 x.l,.int .i64 x.e,.bool x.b,.int .i64 x.v,.int .i64 x.r,.slice a10 l10 c10,.slice a11 l11 c11,.slice a12 l12 c12,.slice a13 l13 c13,.int .i64 x.n,.bool x.op,.slice a16 l16 c16,.slice a17 l17 c17,.slice a18 l18 c18,.int .i64 x.sfn,.slice a20 l20 c20,.slice a21 l21 c21] 50)).heap.size=w.heap.size+1:=by simp
 go_enter Tryz.func128,Tryz.ntmps128
 go_upto_region 1 with fail
 generalize (w.alloc (.cells #[.int .i64 x.s,.int .i64 x.t,.int .i64 x.k,.int .i64 x.z,.int .i64 x.p,.int .i64 x.l,.int .i64 x.e,.bool x.b,.int .i64 x.v,.int .i64 x.r,.slice a10 l10 c10,.slice a11 l11 c11,.slice a12 l12 c12,.slice a13 l13 c13,.int .i64 x.n,.bool x.op,.slice a16 l16 c16,.slice a17 l17 c17,.slice a18 l18 c18,.int .i64 x.sfn,.slice a20 l20 c20,.slice a21 l21 c21] 50))=W0 at bX HB0 zz0 ⊢
 have HF:=ab (h.below HB0)
 have HB:=ab HB0
 clear HB0 h
 have cx10:=cA bX 10
 simp only[gA,gZ,gS]at cx10
 have hm10:=hl10.2
 unfold maxLen at hm10
 have HL:=ab (And.intro hl10 (And.intro hl11 (And.intro hl20 (And.intro e10 (And.intro e11 e20)))))
 clear hl10 hl11 hl20 e10 e11 e20 zz0
 go_wp2
 clear cx10
 go_loopw [8] (fun i wr=>∃ix:Nat,ix≤l10∧i= .int .i64 ix∧Hid ((List.range ix).all (dL x)=true)∧Below W0.heap.size W0 wr) (fun i _=>l10 - (intOf i).toNat)
 case atStart=>exact⟨0,Nat.zero_le _,rfl,ab rfl,Below.refl _ _⟩
 case round=>
  obtain⟨ix,hk,rfl,HR,hbw⟩:=hrel
  have bXr:=(hbw.block _ (am bX)).trans bX
  have zXr:=am bXr
  have cx11:=cA bXr 11
  have cx20:=cA bXr 20
  simp only[gA,gZ,gS]at cx11 cx20
  by_cases hlt:ix<l10
  ·obtain⟨hl10,hl11,hl20,e10,e11,e20⟩:=aa HL
   have hF:=(aa HF).below hbw
   obtain⟨_,_,hx9⟩:=hF.logs
   obtain⟨g,o,rfl,_,hr⟩:=hx9.resolve_left (by omega)
   obtain⟨y,hy⟩:∃y,x.logs[ix]? =some y:=⟨_,List.getElem?_eq_getElem (by omega)⟩
   have hy1:=hr ix y hy
   have zg:=hy1.lt
   obtain⟨a0y,l0y,c0y,e0,k0⟩:=hy1
   rw[Nat.mul_one]at e0
   have hlq:=k0.len
   obtain⟨_,_,hx8⟩:=hF.srcs.1
   obtain⟨gs,os,rfl,hrs⟩:=hx8.resolve_left (by omega)
   obtain⟨ys,hys⟩:∃ys,x.srcs[ix]? =some ys:=⟨_,List.getElem?_eq_getElem (by omega)⟩
   have zs:=bg (hrs ix ys hys).1
   obtain⟨f0,f1⟩:=hrs ix ys hys
   obtain⟨_,_,hx7⟩:=hF.at_.1
   obtain⟨ga,oa,rfl,hra⟩:=hx7.resolve_left (by omega)
   obtain⟨ya,hya⟩:∃ya,x.at_[ix]? =some ya:=⟨_,List.getElem?_eq_getElem (by omega)⟩
   have m0:wr.cell? ⟨ga,oa+ix,none⟩=some (.int .i64 ya):=by have h9:=hra ix ya hya;simpa using h9
   have za:=bg m0
   have HP:=ab (sent_at hy hys hya)
   have HI:=ab (show ix<x.logs.length by omega)
   have hi11:(ix:Int)<(l11:Int):=by omega
   have hi20:(ix:Int)<(l20:Int):=by omega
   have hj11:ix<l11:=by omega
   have hj20:ix<l20:=by omega
   have hlen:y.q.length=l0y:=hlq.1
   rw[hlen]at HP
   clear hx9 hr hy hx8 hrs hys hx7 hra hya k0 hlq hF hlen hl10 hl11 hl20 e10 e11 e20 f1
   by_cases h1:ys.at_<(l0y:Int)
   ·have hE:=ab (bx (f:=dL x) (aa HI) (by rw[aa HP,decide_eq_true h1];rfl))
    have d1:decide (ys.at_<(l0y:Int))=true:=decide_eq_true h1
    clear h1
    go_wp2
    go_ret
    exact⟨ae (aa hE).symm,ad (aa HB) (ad hbw (aj))⟩
   ·have d1:decide (ys.at_<(l0y:Int))=false:=decide_eq_false h1
    by_cases h2:ya<(l0y:Int)
    ·have hE:=ab (bx (f:=dL x) (aa HI) (by rw[aa HP,d1,decide_eq_true h2];rfl))
     have d2:decide (ya<(l0y:Int))=true:=decide_eq_true h2
     clear h1 h2
     go_wp2
     go_ret
     exact⟨ae (aa hE).symm,ad (aa HB) (ad hbw (aj))⟩
    ·have d2:decide (ya<(l0y:Int))=false:=decide_eq_false h2
     have HR2:=ab (eY (f:=dL x) (aa HR) (by rw[aa HP,d1,d2];rfl))
     clear h1 h2
     go_wp2
     go_roundw
     case rel=>exact⟨ix+1,by omega,by go_num,HR2,ad hbw (aj)⟩
     case measure=>simp[intOf];omega
  ·have HE:Hid ((List.range x.logs.length).all (dL x)=true):=ab (by have h9:=aa HR;have h8:ix=x.logs.length:=(by obtain⟨hl10,hl11,hl20,e10,e11,e20⟩:=aa HL;omega);rwa [h8]at h9)
   go_wp2
   go_ret
   exact⟨ae (aa HE).symm,ad (aa HB) hbw⟩
set_option maxRecDepth 20000 in
set_option maxHeartbeats 8000000 in
theorem writ_any(x:eC)(a10:Option Addr)(l10 c10:Nat)(a11:Option Addr)(l11 c11:Nat)(a12:Option Addr)(l12 c12:Nat)(a13:Option Addr)(l13 c13:Nat)(a16:Option Addr)(l16 c16:Nat)(a17:Option Addr)(l17 c17:Nat)(a18:Option Addr)(l18 c18:Nat)(a20:Option Addr)(l20 c20:Nat)(a21:Option Addr)(l21 c21:Nat)(B:Nat)(w:World)(h:FlIs w B a10 l10 a11 l11 a12 l12 a13 l13 a16 l16 a17 l17 a18 l18 a20 l20 a21 l21 x)(e12:(l12:Int)=x.t)(e13:(l13:Int)=x.t)(e21:(x.ssn.length:Int)=x.t):Calls Tryz.prog 129 #[.agg #[.int .i64 x.s,.int .i64 x.t,.int .i64 x.k,.int .i64 x.z,.int .i64 x.p,.int .i64 x.l,.int .i64 x.e,.bool x.b,.int .i64 x.v,.int .i64 x.r,.slice a10 l10 c10,.slice a11 l11 c11,.slice a12 l12 c12,.slice a13 l13 c13,.int .i64 x.n,.bool x.op,.slice a16 l16 c16,.slice a17 l17 c17,.slice a18 l18 c18,.int .i64 x.sfn,.slice a20 l20 c20,.slice a21 l21 c21]] w fun e' w'=>e'= .returned (.bool ((List.range x.tks.length).all (cE x)))∧Below w.heap.size w w':=by
 have hl12:=h.tks.len
 have hl13:=h.sks.len
 have hl21:=h.ssn.len
 have HB0:Below w.heap.size w (w.alloc (.cells #[.int .i64 x.s,.int .i64 x.t,.int .i64 x.k,.int .i64 x.z,.int .i64 x.p,.int .i64 x.l,.int .i64 x.e,.bool x.b,.int .i64 x.v,.int .i64 x.r,.slice a10 l10 c10,.slice a11 l11 c11,.slice a12 l12 c12,.slice a13 l13 c13,.int .i64 x.n,.bool x.op,.slice a16 l16 c16,.slice a17 l17 c17,.slice a18 l18 c18,.int .i64 x.sfn,.slice a20 l20 c20,.slice a21 l21 c21] 50)):=ai _ _
 have bX:(w.alloc (.cells #[.int .i64 x.s,.int .i64 x.t,.int .i64 x.k,.int .i64 x.z,.int .i64 x.p,.int .i64 x.l,.int .i64 x.e,.bool x.b,.int .i64 x.v,.int .i64 x.r,.slice a10 l10 c10,.slice a11 l11 c11,.slice a12 l12 c12,.slice a13 l13 c13,.int .i64 x.n,.bool x.op,.slice a16 l16 c16,.slice a17 l17 c17,.slice a18 l18 c18,.int .i64 x.sfn,.slice a20 l20 c20,.slice a21 l21 c21] 50)).heap[w.heap.size]? =some (.cells #[.int .i64 x.s,.int .i64 x.t,.int .i64 x.k,.int .i64 x.z,.int .i64 x.p,.int .i64 x.l,.int .i64 x.e,.bool x.b,.int .i64 x.v,.int .i64 x.r,.slice a10 l10 c10,.slice a11 l11 c11,.slice a12 l12 c12,.slice a13 l13 c13,.int .i64 x.n,.bool x.op,.slice a16 l16 c16,.slice a17 l17 c17,.slice a18 l18 c18,.int .i64 x.sfn,.slice a20 l20 c20,.slice a21 l21 c21] 50 (0,0)):=aQ _ _ _
 have zz0:(w.alloc (.cells #[.int .i64 x.s,.int .i64 x.t,.int .i64 x.k,.int .i64 x.z,.int .i64 x.p,.int .i64 x.l,.int .i64 x.e,.bool x.b,.int .i64 x.v,.int .i64 x.r,.slice a10 l10 c10,.slice a11 l11 c11,.slice a12 l12 c12,.slice a13 l13 c13,.int .i64 x.n,.bool x.op,.slice a16 l16 c16,.slice a17 l17 c17,.slice a18 l18 c18,.int .i64 x.sfn,.slice a20 l20 c20,.slice a21 l21 c21] 50)).heap.size=w.heap.size+1:=by simp
 go_enter Tryz.func129,Tryz.ntmps129
 go_upto_region 1 with fail
 generalize (w.alloc (.cells #[.int .i64 x.s,.int .i64 x.t,.int .i64 x.k,.int .i64 x.z,.int .i64 x.p,.int .i64 x.l,.int .i64 x.e,.bool x.b,.int .i64 x.v,.int .i64 x.r,.slice a10 l10 c10,.slice a11 l11 c11,.slice a12 l12 c12,.slice a13 l13 c13,.int .i64 x.n,.bool x.op,.slice a16 l16 c16,.slice a17 l17 c17,.slice a18 l18 c18,.int .i64 x.sfn,.slice a20 l20 c20,.slice a21 l21 c21] 50))=W0 at bX HB0 zz0 ⊢
 have HF:=ab (h.below HB0)
 have HB:=ab HB0
 clear HB0 h
 have cx12:=cA bX 12
 simp only[gA,gZ,gS]at cx12
 have hm12:=hl12.2
 unfold maxLen at hm12
 have HL:=ab (And.intro hl12 (And.intro hl13 (And.intro hl21 (And.intro e12 (And.intro e13 e21)))))
 clear hl12 hl13 hl21 e12 e13 e21 zz0
 go_wp2
 clear cx12
 go_loopw [8] (fun i wr=>∃ix:Nat,ix≤l12∧i= .int .i64 ix∧Hid ((List.range ix).all (cE x)=true)∧Below W0.heap.size W0 wr) (fun i _=>l12 - (intOf i).toNat)
 case atStart=>exact⟨0,Nat.zero_le _,rfl,ab rfl,Below.refl _ _⟩
 case round=>
  obtain⟨ix,hk,rfl,HR,hbw⟩:=hrel
  have bXr:=(hbw.block _ (am bX)).trans bX
  have zXr:=am bXr
  have cx13:=cA bXr 13
  have cx21:=cA bXr 21
  simp only[gA,gZ,gS]at cx13 cx21
  by_cases hlt:ix<l12
  ·obtain⟨hl12,hl13,hl21,e12,e13,e21⟩:=aa HL
   have hF:=(aa HF).below hbw
   obtain⟨_,_,hx9⟩:=hF.tks
   obtain⟨g,o,rfl,_,hr⟩:=hx9.resolve_left (by omega)
   obtain⟨y,hy⟩:∃y,x.tks[ix]? =some y:=⟨_,List.getElem?_eq_getElem (by omega)⟩
   have hy1:=hr ix y hy
   have zg:=hy1.lt
   obtain⟨b0,n0,k0,b2,n2,k2,b5,n5,k5,b6,n6,k6,⟨d0,d1,d2,d3,d4,d5,d6⟩,K0,K2,K5,K6⟩:=hy1
   obtain⟨_,_,hx8⟩:=hF.sks
   obtain⟨gs,os,rfl,_,hrs⟩:=hx8.resolve_left (by omega)
   obtain⟨ys,hys⟩:∃ys,x.sks[ix]? =some ys:=⟨_,List.getElem?_eq_getElem (by omega)⟩
   have hy2:=hrs ix ys hys
   have zs:=hy2.lt
   obtain⟨m0,i0,j0,m2,i2,j2,m3,i3,j3,⟨f0,f1,f2,f3⟩,L0,L2,L3⟩:=hy2
   obtain⟨_,_,hx7⟩:=hF.ssn
   obtain⟨ga,oa,rfl,_,hra⟩:=hx7.resolve_left (by omega)
   obtain⟨ya,hya⟩:∃ya,x.ssn[ix]? =some ya:=⟨_,List.getElem?_eq_getElem (by omega)⟩
   have hy3:=hra ix ya hya
   have za:=hy3.lt
   obtain⟨p1,r1,s1,p2,r2,s2,⟨g0,g1,g2⟩,G1,G2⟩:=hy3
   have HP:=ab (writ_at hy hya hys)
   have HI:=ab (show ix<x.tks.length by omega)
   have hi13:(ix:Int)<(l13:Int):=by omega
   have hi21:(ix:Int)<(l21:Int):=by omega
   have hj13:ix<l13:=by omega
   have hj21:ix<l21:=by omega
   have hlen:ys.rd.length=i0:=L0.len.1
   rw[hlen]at HP
   have HK:=ab (And.intro K0 (And.intro K5 K6))
   clear hx9 hr hy hx8 hrs hys hx7 hra hya hF hlen hl12 hl13 hl21 e12 e13 e21 f1 f2 f3 g1 g2 L0 L2 L3 G1 G2 K0 K2 K5 K6
   cases q1:ea y
   ·have hE:=ab (bx (f:=cE x) (aa HI) (by rw[aa HP,q1];rfl))
    go_wp2_with (go_at_call 181;refine(fC y b0 n0 k0 b2 n2 k2 b5 n5 k5 b6 n6 k6 B _ ((aa HK).1.below (aj)) ((aa HK).2.1.below (aj)) ((aa HK).2.2.below (aj))).mono ?_;rw[q1];rintro e' y1 ⟨rfl,hb1⟩)
    go_ret
    exact⟨ae (aa hE).symm,ad (aa HB) (ad hbw (aj))⟩
   ·have CALLDONE:True:=trivial
    by_cases h1:ya.ma<1000
    ·have hE:=ab (bx (f:=cE x) (aa HI) (by rw[aa HP,q1,decide_eq_true h1];rfl))
     have dd1:decide (ya.ma<1000)=true:=decide_eq_true h1
     clear h1
     go_wp2_with (go_at_call 181;refine(fC y b0 n0 k0 b2 n2 k2 b5 n5 k5 b6 n6 k6 B _ ((aa HK).1.below (aj)) ((aa HK).2.1.below (aj)) ((aa HK).2.2.below (aj))).mono ?_;rw[q1];rintro e' y1 ⟨rfl,hb1⟩;obtain⟨hc1,hf1,hs1⟩:=ac hb1)
     go_ret
     exact⟨ae (aa hE).symm,ad (aa HB) (ad hbw (aj))⟩
    ·have dd1:decide (ya.ma<1000)=false:=decide_eq_false h1
     by_cases h2:0<(i0:Int)
     ·have hE:=ab (bx (f:=cE x) (aa HI) (by rw[aa HP,q1,dd1,decide_eq_true h2];rfl))
      have dd2:decide (0<(i0:Int))=true:=decide_eq_true h2
      clear h1
      go_wp2_with (go_at_call 181;refine(fC y b0 n0 k0 b2 n2 k2 b5 n5 k5 b6 n6 k6 B _ ((aa HK).1.below (aj)) ((aa HK).2.1.below (aj)) ((aa HK).2.2.below (aj))).mono ?_;rw[q1];rintro e' y1 ⟨rfl,hb1⟩;obtain⟨hc1,hf1,hs1⟩:=ac hb1)
      go_ret
      exact⟨ae (aa hE).symm,ad (aa HB) (ad hbw (aj))⟩
     ·have dd2:decide (0<(i0:Int))=false:=decide_eq_false h2
      have HR2:=ab (eY (f:=cE x) (aa HR) (by rw[aa HP,q1,dd1,dd2];rfl))
      clear h1
      go_wp2_with (go_at_call 181;refine(fC y b0 n0 k0 b2 n2 k2 b5 n5 k5 b6 n6 k6 B _ ((aa HK).1.below (aj)) ((aa HK).2.1.below (aj)) ((aa HK).2.2.below (aj))).mono ?_;rw[q1];rintro e' y1 ⟨rfl,hb1⟩;obtain⟨hc1,hf1,hs1⟩:=ac hb1)
      go_roundw
      case rel=>exact⟨ix+1,by omega,by go_num,HR2,ad hbw (aj)⟩
      case measure=>simp[intOf];omega
  ·have HE:Hid ((List.range x.tks.length).all (cE x)=true):=ab (by have h9:=aa HR;have h8:ix=x.tks.length:=(by obtain⟨hl12,hl13,hl21,e12,e13,e21⟩:=aa HL;omega);rwa [h8]at h9)
   go_wp2
   go_ret
   exact⟨ae (aa HE).symm,ad (aa HB) hbw⟩
set_option linter.unusedSimpArgs false
set_option maxRecDepth 20000 in
set_option maxHeartbeats 16000000 in
theorem l11done_any(x:eC)(a10:Option Addr)(l10 c10:Nat)(a11:Option Addr)(l11 c11:Nat)(a12:Option Addr)(l12 c12:Nat)(a13:Option Addr)(l13 c13:Nat)(a16:Option Addr)(l16 c16:Nat)(a17:Option Addr)(l17 c17:Nat)(a18:Option Addr)(l18 c18:Nat)(a20:Option Addr)(l20 c20:Nat)(a21:Option Addr)(l21 c21:Nat)(B:Nat)(w:World)(h:FlIs w B a10 l10 a11 l11 a12 l12 a13 l13 a16 l16 a17 l17 a18 l18 a20 l20 a21 l21 x)(e10:(l10:Int)=x.s)(e11:(l11:Int)=x.s)(e20:(x.at_.length:Int)=x.s)(e12:(l12:Int)=x.t)(e13:(l13:Int)=x.t)(e21:(x.ssn.length:Int)=x.t)(hbt:∀(i:Nat) (y:dB),x.tks[i]? =some y→y.ps.length≤1500∧y.ls.length≤1500)(hbs:∀(i:Nat) (s:bE),x.sks[i]? =some s→s.rd.length≤12)(hbn:∀(i:Nat) (n:cz),x.ssn[i]? =some n→n.ma≤1000):Calls Tryz.prog 71 #[.agg #[.int .i64 x.s,.int .i64 x.t,.int .i64 x.k,.int .i64 x.z,.int .i64 x.p,.int .i64 x.l,.int .i64 x.e,.bool x.b,.int .i64 x.v,.int .i64 x.r,.slice a10 l10 c10,.slice a11 l11 c11,.slice a12 l12 c12,.slice a13 l13 c13,.int .i64 x.n,.bool x.op,.slice a16 l16 c16,.slice a17 l17 c17,.slice a18 l18 c18,.int .i64 x.sfn,.slice a20 l20 c20,.slice a21 l21 c21]] w fun e' w'=>e'= .returned (.bool (endB x))∧Below w.heap.size w w':=by
 have hl10:=h.logs.len
 have hl11:=h.srcs.len
 have hl20:=h.at_.len
 have hl12:=h.tks.len
 have hl13:=h.sks.len
 have hl21:=h.ssn.len
 have hm11:=hl11.2
 have hm12:=hl12.2
 unfold maxLen at hm11 hm12
 have HB0:Below w.heap.size w (w.alloc (.cells #[.int .i64 x.s,.int .i64 x.t,.int .i64 x.k,.int .i64 x.z,.int .i64 x.p,.int .i64 x.l,.int .i64 x.e,.bool x.b,.int .i64 x.v,.int .i64 x.r,.slice a10 l10 c10,.slice a11 l11 c11,.slice a12 l12 c12,.slice a13 l13 c13,.int .i64 x.n,.bool x.op,.slice a16 l16 c16,.slice a17 l17 c17,.slice a18 l18 c18,.int .i64 x.sfn,.slice a20 l20 c20,.slice a21 l21 c21] 50)):=ai _ _
 have bX:(w.alloc (.cells #[.int .i64 x.s,.int .i64 x.t,.int .i64 x.k,.int .i64 x.z,.int .i64 x.p,.int .i64 x.l,.int .i64 x.e,.bool x.b,.int .i64 x.v,.int .i64 x.r,.slice a10 l10 c10,.slice a11 l11 c11,.slice a12 l12 c12,.slice a13 l13 c13,.int .i64 x.n,.bool x.op,.slice a16 l16 c16,.slice a17 l17 c17,.slice a18 l18 c18,.int .i64 x.sfn,.slice a20 l20 c20,.slice a21 l21 c21] 50)).heap[w.heap.size]? =some (.cells #[.int .i64 x.s,.int .i64 x.t,.int .i64 x.k,.int .i64 x.z,.int .i64 x.p,.int .i64 x.l,.int .i64 x.e,.bool x.b,.int .i64 x.v,.int .i64 x.r,.slice a10 l10 c10,.slice a11 l11 c11,.slice a12 l12 c12,.slice a13 l13 c13,.int .i64 x.n,.bool x.op,.slice a16 l16 c16,.slice a17 l17 c17,.slice a18 l18 c18,.int .i64 x.sfn,.slice a20 l20 c20,.slice a21 l21 c21] 50 (0,0)):=aQ _ _ _
 have zz0:(w.alloc (.cells #[.int .i64 x.s,.int .i64 x.t,.int .i64 x.k,.int .i64 x.z,.int .i64 x.p,.int .i64 x.l,.int .i64 x.e,.bool x.b,.int .i64 x.v,.int .i64 x.r,.slice a10 l10 c10,.slice a11 l11 c11,.slice a12 l12 c12,.slice a13 l13 c13,.int .i64 x.n,.bool x.op,.slice a16 l16 c16,.slice a17 l17 c17,.slice a18 l18 c18,.int .i64 x.sfn,.slice a20 l20 c20,.slice a21 l21 c21] 50)).heap.size=w.heap.size+1:=by simp
 go_enter Tryz.func71,Tryz.ntmps71
 go_upto_region 1 with fail
 generalize (w.alloc (.cells #[.int .i64 x.s,.int .i64 x.t,.int .i64 x.k,.int .i64 x.z,.int .i64 x.p,.int .i64 x.l,.int .i64 x.e,.bool x.b,.int .i64 x.v,.int .i64 x.r,.slice a10 l10 c10,.slice a11 l11 c11,.slice a12 l12 c12,.slice a13 l13 c13,.int .i64 x.n,.bool x.op,.slice a16 l16 c16,.slice a17 l17 c17,.slice a18 l18 c18,.int .i64 x.sfn,.slice a20 l20 c20,.slice a21 l21 c21] 50))=W0 at bX HB0 zz0 ⊢
 have HF:=ab (h.below HB0)
 have HB:=ab HB0
 clear HB0 h
 have cx15:=cA bX 15
 simp only[gA,gZ,gS]at cx15
 clear zz0
 have HL:=ab (And.intro hl10 (And.intro hl11 (And.intro hl20 (And.intro hl12 (And.intro hl13 (And.intro hl21 (And.intro e10 (And.intro e11 (And.intro e20 (And.intro e12 (And.intro e13 e21)))))))))))
 have HBT:=ab (And.intro hbt (And.intro hbs hbn))
 clear hl10 hl11 hl20 hl12 hl13 hl21 e10 e11 e20 e12 e13 e21 hbt hbs hbn
 cases hop:x.op
 rotate_left
 ·have hE:=ab (show endB x=false by unfold endB;rw[hop];rfl)
  rw[hop]at cx15
  go_wp2
  go_ret
  exact⟨ae (aa hE).symm,aa HB⟩
 rw[hop]at cx15
 have HO:=ab hop
 clear hop
 go_wp2
 clear cx15
 go_loopw [3] (fun i wr=>∃ix:Nat,ix≤l11∧i= .int .i64 ix∧Hid ((List.range ix).all (dL x)=true)∧Below W0.heap.size W0 wr) (fun i _=>l11 - (intOf i).toNat)
 case atStart=>exact⟨0,Nat.zero_le _,rfl,ab rfl,Below.refl _ _⟩
 case round=>
  obtain⟨ix,hk,rfl,HR,hbw⟩:=hrel
  have bXr:=(hbw.block _ (am bX)).trans bX
  have zXr:=am bXr
  have cx10:=cA bXr 10
  have cx11:=cA bXr 11
  have cx20:=cA bXr 20
  simp only[gA,gZ,gS]at cx10 cx11 cx20
  by_cases hlt:ix<l11
  ·obtain⟨hl10,hl11,hl20,hl12,hl13,hl21,e10,e11,e20,e12,e13,e21⟩:=aa HL
   have hF:=(aa HF).below hbw
   obtain⟨_,_,hx9⟩:=hF.logs
   obtain⟨g,o,rfl,_,hr⟩:=hx9.resolve_left (by omega)
   obtain⟨y,hy⟩:∃y,x.logs[ix]? =some y:=⟨_,List.getElem?_eq_getElem (by omega)⟩
   have hy1:=hr ix y hy
   have zg:=hy1.lt
   obtain⟨a0y,l0y,c0y,e0,k0⟩:=hy1
   rw[Nat.mul_one]at e0
   have hlq:=k0.len
   obtain⟨_,_,hx8⟩:=hF.srcs.1
   obtain⟨gs,os,rfl,hrs⟩:=hx8.resolve_left (by omega)
   obtain⟨ys,hys⟩:∃ys,x.srcs[ix]? =some ys:=⟨_,List.getElem?_eq_getElem (by omega)⟩
   have zs:=bg (hrs ix ys hys).1
   obtain⟨f0,f1⟩:=hrs ix ys hys
   obtain⟨_,_,hx7⟩:=hF.at_.1
   obtain⟨ga,oa,rfl,hra⟩:=hx7.resolve_left (by omega)
   obtain⟨ya,hya⟩:∃ya,x.at_[ix]? =some ya:=⟨_,List.getElem?_eq_getElem (by omega)⟩
   have m0:wr.cell? ⟨ga,oa+ix,none⟩=some (.int .i64 ya):=by have h9:=hra ix ya hya;simpa using h9
   have za:=bg m0
   have HP:=ab (sent_at hy hys hya)
   have HI:=ab (show ix<x.logs.length by omega)
   have hi10:(ix:Int)<(l10:Int):=by omega
   have hi11:(ix:Int)<(l11:Int):=by omega
   have hi20:(ix:Int)<(l20:Int):=by omega
   have hlen:y.q.length=l0y:=hlq.1
   rw[hlen]at HP
   clear hx9 hr hy hx8 hrs hys hx7 hra hya k0 hlq hF hlen hl10 hl11 hl20 hl12 hl13 hl21 e10 e11 e20 e12 e13 e21 f1
   go_wp2_with fail
   by_cases h1:ys.at_<(l0y:Int)
   ·have hE:=ab (show endB x=false by unfold endB;rw[bx (f:=dL x) (aa HI) (by rw[aa HP,decide_eq_true h1];rfl)];simp)
    have d1:decide (ys.at_<(l0y:Int))=true:=decide_eq_true h1
    clear h1
    refine wp_region_held_drew (S:=(fun W=>Below wr.heap.size wr W)) (iU) ?_ (fun hHeld=>?_)
    ·exact ag (Below.refl _ _)
    refine kV 0 ?_
    refine kT 1 ?_ ?_ ?_
    rotate_left
    ·(intro w9 hSw;(try dsimp only at hSw);have g1:=(hSw.cell (p:=⟨w.heap.size,11,none⟩) zXr).trans cx11;go_simp<;>with_reducible rfl)
    try simp only[Act.put,tA,tZ,tS]
    refine kV 2 ?_
    refine kV 3 ?_
    refine kV 4 ?_
    refine kT 5 ?_ ?_ ?_
    rotate_left
    ·(intro w9 hSw;(try dsimp only at hSw);have g4:=(hSw.cell (p:=⟨gs,os+ix*2,none⟩) zs).trans f0;go_simp<;>with_reducible rfl)
    try simp only[Act.put,tA,tZ,tS]
    refine kV 6 ?_
    refine kT 7 ?_ ?_ ?_
    rotate_left
    ·(intro w9 hSw;(try dsimp only at hSw);have g0:=(hSw.cell (p:=⟨w.heap.size,10,none⟩) zXr).trans cx10;go_simp<;>with_reducible rfl)
    try simp only[Act.put,tA,tZ,tS]
    refine kV 8 ?_
    refine kV 9 ?_
    refine kT 10 ?_ ?_ ?_
    rotate_left
    ·(intro w9 hSw;(try dsimp only at hSw);have g3:=(hSw.cell (p:=⟨g,o+ix,none⟩) zg).trans e0;go_simp<;>with_reducible rfl)
    try simp only[Act.put,tA,tZ,tS]
    refine kV 11 ?_
    refine kV 12 ?_
    refine kV 13 ?_
    refine kU 14 ?_
    try simp only[Act.put,tA,tZ,tS]
    refine kU 15 ?_
    try simp only[Act.put,tA,tZ,tS]
    refine kU 16 ?_
    try simp only[Act.put,tA,tZ,tS]
    refine kU 17 ?_
    try simp only[Act.put,tA,tZ,tS]
    refine kU 18 ?_
    try simp only[Act.put,tA,tZ,tS]
    refine kU 19 ?_
    try simp only[Act.put,tA,tZ,tS]
    refine kU 20 ?_
    try simp only[Act.put,tA,tZ,tS]
    refine kU 21 ?_
    try simp only[Act.put,tA,tZ,tS]
    refine kU 22 ?_
    try simp only[Act.put,tA,tZ,tS]
    refine kU 23 ?_
    try simp only[Act.put,tA,tZ,tS]
    refine kU 24 ?_
    try simp only[Act.put,tA,tZ,tS]
    refine kU 25 ?_
    try simp only[Act.put,tA,tZ,tS]
    refine kU 26 ?_
    try simp only[Act.put,tA,tZ,tS]
    refine kU 27 ?_
    try simp only[Act.put,tA,tZ,tS]
    refine kV 28 ?_
    refine wpAnyH_done (iU) ?_ _
    go_wp2
    go_ret
    exact⟨ae (aa hE).symm,ad (aa HB) (ad hbw hHeld)⟩
   ·have d1:decide (ys.at_<(l0y:Int))=false:=decide_eq_false h1
    by_cases h2:ya<(l0y:Int)
    ·have hE:=ab (show endB x=false by unfold endB;rw[bx (f:=dL x) (aa HI) (by rw[aa HP,d1,decide_eq_true h2];rfl)];simp)
     have d2:decide (ya<(l0y:Int))=true:=decide_eq_true h2
     clear h1 h2
     refine wp_region_held_drew (S:=(fun W=>Below wr.heap.size wr W)) (iU) ?_ (fun hHeld=>?_)
     ·exact ag (Below.refl _ _)
     refine kV 0 ?_
     refine kT 1 ?_ ?_ ?_
     rotate_left
     ·(intro w9 hSw;(try dsimp only at hSw);have g1:=(hSw.cell (p:=⟨w.heap.size,11,none⟩) zXr).trans cx11;go_simp<;>with_reducible rfl)
     try simp only[Act.put,tA,tZ,tS]
     refine kV 2 ?_
     refine kV 3 ?_
     refine kV 4 ?_
     refine kT 5 ?_ ?_ ?_
     rotate_left
     ·(intro w9 hSw;(try dsimp only at hSw);have g4:=(hSw.cell (p:=⟨gs,os+ix*2,none⟩) zs).trans f0;go_simp<;>with_reducible rfl)
     try simp only[Act.put,tA,tZ,tS]
     refine kV 6 ?_
     refine kT 7 ?_ ?_ ?_
     rotate_left
     ·(intro w9 hSw;(try dsimp only at hSw);have g0:=(hSw.cell (p:=⟨w.heap.size,10,none⟩) zXr).trans cx10;go_simp<;>with_reducible rfl)
     try simp only[Act.put,tA,tZ,tS]
     refine kV 8 ?_
     refine kV 9 ?_
     refine kT 10 ?_ ?_ ?_
     rotate_left
     ·(intro w9 hSw;(try dsimp only at hSw);have g3:=(hSw.cell (p:=⟨g,o+ix,none⟩) zg).trans e0;go_simp<;>with_reducible rfl)
     try simp only[Act.put,tA,tZ,tS]
     refine kV 11 ?_
     refine kV 12 ?_
     refine kV 13 ?_
     refine kV 14 ?_
     refine kV 15 ?_
     refine kV 16 ?_
     refine kT 17 ?_ ?_ ?_
     rotate_left
     ·(intro w9 hSw;(try dsimp only at hSw);have g2:=(hSw.cell (p:=⟨w.heap.size,20,none⟩) zXr).trans cx20;go_simp<;>with_reducible rfl)
     try simp only[Act.put,tA,tZ,tS]
     refine kV 18 ?_
     refine kV 19 ?_
     refine kT 20 ?_ ?_ ?_
     rotate_left
     ·(intro w9 hSw;(try dsimp only at hSw);have g5:=(hSw.cell (p:=⟨ga,oa+ix,none⟩) za).trans m0;go_simp<;>with_reducible rfl)
     try simp only[Act.put,tA,tZ,tS]
     refine kV 21 ?_
     refine kT 22 ?_ ?_ ?_
     rotate_left
     ·(intro w9 hSw;(try dsimp only at hSw);have g0:=(hSw.cell (p:=⟨w.heap.size,10,none⟩) zXr).trans cx10;go_simp<;>with_reducible rfl)
     try simp only[Act.put,tA,tZ,tS]
     refine kV 23 ?_
     refine kV 24 ?_
     refine kT 25 ?_ ?_ ?_
     rotate_left
     ·(intro w9 hSw;(try dsimp only at hSw);have g3:=(hSw.cell (p:=⟨g,o+ix,none⟩) zg).trans e0;go_simp<;>with_reducible rfl)
     try simp only[Act.put,tA,tZ,tS]
     refine kV 26 ?_
     refine kV 27 ?_
     refine kV 28 ?_
     refine wpAnyH_done (iU) ?_ _
     go_wp2
     go_ret
     exact⟨ae (aa hE).symm,ad (aa HB) (ad hbw hHeld)⟩
    ·have d2:decide (ya<(l0y:Int))=false:=decide_eq_false h2
     have HR2:=ab (eY (f:=dL x) (aa HR) (by rw[aa HP,d1,d2];rfl))
     clear h1 h2
     refine wp_region_held_drew (S:=(fun W=>Below wr.heap.size wr W)) (iU) ?_ (fun hHeld=>?_)
     ·exact ag (Below.refl _ _)
     refine kV 0 ?_
     refine kT 1 ?_ ?_ ?_
     rotate_left
     ·(intro w9 hSw;(try dsimp only at hSw);have g1:=(hSw.cell (p:=⟨w.heap.size,11,none⟩) zXr).trans cx11;go_simp<;>with_reducible rfl)
     try simp only[Act.put,tA,tZ,tS]
     refine kV 2 ?_
     refine kV 3 ?_
     refine kV 4 ?_
     refine kT 5 ?_ ?_ ?_
     rotate_left
     ·(intro w9 hSw;(try dsimp only at hSw);have g4:=(hSw.cell (p:=⟨gs,os+ix*2,none⟩) zs).trans f0;go_simp<;>with_reducible rfl)
     try simp only[Act.put,tA,tZ,tS]
     refine kV 6 ?_
     refine kT 7 ?_ ?_ ?_
     rotate_left
     ·(intro w9 hSw;(try dsimp only at hSw);have g0:=(hSw.cell (p:=⟨w.heap.size,10,none⟩) zXr).trans cx10;go_simp<;>with_reducible rfl)
     try simp only[Act.put,tA,tZ,tS]
     refine kV 8 ?_
     refine kV 9 ?_
     refine kT 10 ?_ ?_ ?_
     rotate_left
     ·(intro w9 hSw;(try dsimp only at hSw);have g3:=(hSw.cell (p:=⟨g,o+ix,none⟩) zg).trans e0;go_simp<;>with_reducible rfl)
     try simp only[Act.put,tA,tZ,tS]
     refine kV 11 ?_
     refine kV 12 ?_
     refine kV 13 ?_
     refine kV 14 ?_
     refine kV 15 ?_
     refine kV 16 ?_
     refine kT 17 ?_ ?_ ?_
     rotate_left
     ·(intro w9 hSw;(try dsimp only at hSw);have g2:=(hSw.cell (p:=⟨w.heap.size,20,none⟩) zXr).trans cx20;go_simp<;>with_reducible rfl)
     try simp only[Act.put,tA,tZ,tS]
     refine kV 18 ?_
     refine kV 19 ?_
     refine kT 20 ?_ ?_ ?_
     rotate_left
     ·(intro w9 hSw;(try dsimp only at hSw);have g5:=(hSw.cell (p:=⟨ga,oa+ix,none⟩) za).trans m0;go_simp<;>with_reducible rfl)
     try simp only[Act.put,tA,tZ,tS]
     refine kV 21 ?_
     refine kT 22 ?_ ?_ ?_
     rotate_left
     ·(intro w9 hSw;(try dsimp only at hSw);have g0:=(hSw.cell (p:=⟨w.heap.size,10,none⟩) zXr).trans cx10;go_simp<;>with_reducible rfl)
     try simp only[Act.put,tA,tZ,tS]
     refine kV 23 ?_
     refine kV 24 ?_
     refine kT 25 ?_ ?_ ?_
     rotate_left
     ·(intro w9 hSw;(try dsimp only at hSw);have g3:=(hSw.cell (p:=⟨g,o+ix,none⟩) zg).trans e0;go_simp<;>with_reducible rfl)
     try simp only[Act.put,tA,tZ,tS]
     refine kV 26 ?_
     refine kV 27 ?_
     refine kV 28 ?_
     refine wpAnyH_done (iU) ?_ _
     go_wp2
     go_roundw
     case rel=>exact⟨ix+1,by omega,by go_num,HR2,ad hbw hHeld⟩
     case measure=>simp[intOf];omega
  ·have HS:=ab (show endB x=(List.range x.tks.length).all (cE x) by
    have h9:=aa HR
    have h8:ix=x.logs.length:=(by obtain⟨hl10,hl11,hl20,hl12,hl13,hl21,e10,e11,e20,e12,e13,e21⟩:=aa HL;omega)
    rw[h8]at h9
    unfold endB;rw[h9,aa HO];rfl)
   have HBw:=ab (ad (aa HB) hbw)
   have HFw:=ab ((aa HF).below hbw)
   clear HB HF hbw bX HR
   generalize wr=W1 at*
   have hge:¬ (ix:Int)<(l11:Int):=by omega
   go_wp2
   clear cx10 cx11 cx20 hge hlt hk zXr
   go_loopw [4] (fun i wr=>∃kx:Nat,kx≤l12∧i= .int .i64 kx∧Hid ((List.range kx).all (cE x)=true)∧Below W1.heap.size W1 wr) (fun i _=>l12 - (intOf i).toNat)
   case atStart=>exact⟨0,Nat.zero_le _,rfl,ab rfl,Below.refl _ _⟩
   case round=>
   obtain⟨kx,hk,rfl,HR,hbw⟩:=hrel
   have bXs:=(hbw.block _ (am bXr)).trans bXr
   have zXs:=am bXs
   have cx12:=cA bXs 12
   simp only[gA,gZ,gS]at cx12
   by_cases hlt:kx<l12
   ·obtain⟨hl10,hl11,hl20,hl12,hl13,hl21,e10,e11,e20,e12,e13,e21⟩:=aa HL
    have hF:=(aa HFw).below hbw
    obtain⟨_,_,hx9⟩:=hF.tks
    obtain⟨g,o,rfl,_,hr⟩:=hx9.resolve_left (by omega)
    obtain⟨y,hy⟩:∃y,x.tks[kx]? =some y:=⟨_,List.getElem?_eq_getElem (by omega)⟩
    have hy1:=hr kx y hy
    have zg:=hy1.lt
    obtain⟨b0,n0,k0,b2,n2,k2,b5,n5,k5,b6,n6,k6,⟨d0,d1,d2,d3,d4,d5,d6⟩,K0,K2,K5,K6⟩:=hy1
    obtain⟨_,_,hx8⟩:=hF.sks
    obtain⟨gs,os,rfl,_,hrs⟩:=hx8.resolve_left (by omega)
    obtain⟨ys,hys⟩:∃ys,x.sks[kx]? =some ys:=⟨_,List.getElem?_eq_getElem (by omega)⟩
    have hy2:=hrs kx ys hys
    have zs:=hy2.lt
    obtain⟨m0,i0,j0,m2,i2,j2,m3,i3,j3,⟨F0,F1,F2,F3⟩,L0,L2,L3⟩:=hy2
    obtain⟨_,_,hx7⟩:=hF.ssn
    obtain⟨ga,oa,rfl,_,hra⟩:=hx7.resolve_left (by omega)
    obtain⟨ya,hya⟩:∃ya,x.ssn[kx]? =some ya:=⟨_,List.getElem?_eq_getElem (by omega)⟩
    have hy3:=hra kx ya hya
    have za:=hy3.lt
    obtain⟨p1,r1,s1,p2,r2,s2,⟨G0,G1,G2⟩,G3,G4⟩:=hy3
    have HP:=ab (writ_at hy hya hys)
    have HI:=ab (show kx<x.tks.length by omega)
    have hi12:(kx:Int)<(l12:Int):=by omega
    have hi13:(kx:Int)<(l13:Int):=by omega
    have hi21:(kx:Int)<(l21:Int):=by omega
    have hb5:=(aa HBT).1 kx y hy
    have hb9:=(aa HBT).2.1 kx ys hys
    have hbn:=(aa HBT).2.2 kx ya hya
    have h5:=K5.len.1
    have h6:=K6.len.1
    have hlen:ys.rd.length=i0:=L0.len.1
    rw[hlen]at HP hb9
    rw[h5,h6]at hb5
    have HD:Hid (ea y=((y.om==1000)&&y.ins.all bw&&((n5:Int)==0)&&((n6:Int)==0))):=ab (by unfold ea;rw[h5,h6])
    have HK:=ab K0
    clear hx9 hr hy hx8 hrs hys hx7 hra hya hF hlen hl10 hl11 hl20 hl12 hl13 hl21 e10 e11 e20 e12 e13 e21 F1 F2 F3 G1 G2 L0 L2 L3 G3 G4 K0 K2 K5 K6 h5 h6
    go_upto_region 12 with fail
    have HBX:Below wr.heap.size wr (wr.alloc (.cells #[.slice b0 n0 k0,.int .i64 y.om,.slice b2 n2 k2,.int .i64 y.wl,.int .i64 y.pn,.slice b5 n5 k5,.slice b6 n6 k6] 86)):=ai _ _
    have bT:(wr.alloc (.cells #[.slice b0 n0 k0,.int .i64 y.om,.slice b2 n2 k2,.int .i64 y.wl,.int .i64 y.pn,.slice b5 n5 k5,.slice b6 n6 k6] 86)).heap[wr.heap.size]? =some (.cells #[.slice b0 n0 k0,.int .i64 y.om,.slice b2 n2 k2,.int .i64 y.wl,.int .i64 y.pn,.slice b5 n5 k5,.slice b6 n6 k6] 86 (0,0)):=aQ _ _ _
    have f0:=(HBX.cell (p:=⟨gs,os+kx*4,none⟩) zs).trans F0
    have g0:=(HBX.cell (p:=⟨ga,oa+kx*3,none⟩) za).trans G0
    have bX2:=(HBX.block _ zXs).trans bXs
    have zX2:=am bX2
    have zT:=am bT
    have zs2:=bg f0
    have za2:=bg g0
    clear d0 d1 d2 d3 d4 d5 d6 F0 G0 cx12
    generalize (wr.alloc (.cells #[.slice b0 n0 k0,.int .i64 y.om,.slice b2 n2 k2,.int .i64 y.wl,.int .i64 y.pn,.slice b5 n5 k5,.slice b6 n6 k6] 86))=W2 at HBX bT f0 g0 bX2 zX2 zT zs2 za2 ⊢
    have ct0:=cA bT 0
    have ct1:=cA bT 1
    have ct2:=cA bT 2
    have ct3:=cA bT 3
    have ct4:=cA bT 4
    have ct5:=cA bT 5
    have ct6:=cA bT 6
    simp only[gA,gZ,gS]at ct0 ct1 ct2 ct3 ct4 ct5 ct6
    have cx13:=cA bX2 13
    have cx21:=cA bX2 21
    simp only[gA,gZ,gS]at cx13 cx21
    by_cases h1:y.om=1000
    rotate_left
    ·have hE:=ab (show endB x=false by rw[aa HS,bx (f:=cE x) (aa HI) (by rw[aa HP,aa HD];simp[h1])])
     have q1:(y.om != 1000)=true:=by simp[h1]
     clear h1
     refine wp_region_held_drew (S:=(fun W=>Below W2.heap.size W2 W)) (iU) ?_ (fun hHeld=>?_)
     ·exact ag (Below.refl _ _)
     refine kV 0 ?_
     refine kV 1 ?_
     refine kT 2 ?_ ?_ ?_
     rotate_left
     ·(intro w9 hSw;(try dsimp only at hSw);have g1:=(hSw.cell (p:=⟨wr.heap.size,1,none⟩) zT).trans ct1;go_simp<;>with_reducible rfl)
     try simp only[Act.put,tA,tZ,tS]
     refine kV 3 ?_
     refine kV 4 ?_
     refine kU 5 ?_
     try simp only[Act.put,tA,tZ,tS]
     refine kU 6 ?_
     try simp only[Act.put,tA,tZ,tS]
     refine kU 7 ?_
     try simp only[Act.put,tA,tZ,tS]
     refine kU 8 ?_
     try simp only[Act.put,tA,tZ,tS]
     refine kU 9 ?_
     try simp only[Act.put,tA,tZ,tS]
     refine kU 10 ?_
     try simp only[Act.put,tA,tZ,tS]
     refine kU 11 ?_
     try simp only[Act.put,tA,tZ,tS]
     refine kU 12 ?_
     try simp only[Act.put,tA,tZ,tS]
     refine kU 13 ?_
     try simp only[Act.put,tA,tZ,tS]
     refine kU 14 ?_
     try simp only[Act.put,tA,tZ,tS]
     refine kU 15 ?_
     try simp only[Act.put,tA,tZ,tS]
     refine kU 16 ?_
     try simp only[Act.put,tA,tZ,tS]
     refine kU 17 ?_
     try simp only[Act.put,tA,tZ,tS]
     refine kU 18 ?_
     try simp only[Act.put,tA,tZ,tS]
     refine kU 19 ?_
     try simp only[Act.put,tA,tZ,tS]
     refine kU 20 ?_
     try simp only[Act.put,tA,tZ,tS]
     refine kU 21 ?_
     try simp only[Act.put,tA,tZ,tS]
     refine kU 22 ?_
     try simp only[Act.put,tA,tZ,tS]
     refine kV 23 ?_
     refine kV 24 ?_
     refine kU 25 ?_
     try simp only[Act.put,tA,tZ,tS]
     refine kU 26 ?_
     try simp only[Act.put,tA,tZ,tS]
     refine kU 27 ?_
     try simp only[Act.put,tA,tZ,tS]
     refine kU 28 ?_
     try simp only[Act.put,tA,tZ,tS]
     refine kU 29 ?_
     try simp only[Act.put,tA,tZ,tS]
     refine kU 30 ?_
     try simp only[Act.put,tA,tZ,tS]
     refine kU 31 ?_
     try simp only[Act.put,tA,tZ,tS]
     refine kU 32 ?_
     try simp only[Act.put,tA,tZ,tS]
     refine kU 33 ?_
     try simp only[Act.put,tA,tZ,tS]
     refine kU 34 ?_
     try simp only[Act.put,tA,tZ,tS]
     refine kV 35 ?_
     refine wpAnyH_done (iU) ?_ _
     go_wp2
     go_ret
     exact⟨ae (aa hE).symm,ad (aa HBw) (ad hbw (ad HBX hHeld))⟩
    have q1:(y.om != 1000)=false:=by simp[h1]
    have HD2:Hid (ea y=(y.ins.all bw&&((n5:Int)==0)&&((n6:Int)==0))):=ab (by rw[aa HD];simp[h1])
    clear h1 HD
    have u5:(n5:Int)≤1500:=by have:=hb5.1;omega
    have u6:(n6:Int)≤1500:=by have:=hb5.2;omega
    have u9:(i0:Int)≤12:=by omega
    have hw1:IntKind.i64.wrap ((n5:Int)+(n6:Int))=(n5:Int)+(n6:Int):=IntWalk.i64_in _ ⟨by omega,by omega⟩
    have hw2:IntKind.i64.wrap ((n5:Int)+(n6:Int)+(i0:Int))=(n5:Int)+(n6:Int)+(i0:Int):=IntWalk.i64_in _ ⟨by omega,by omega⟩
    clear hb5 hb9
    by_cases h2:0<(n5:Int)+(n6:Int)+(i0:Int)
    ·have hE:=ab (show endB x=false by
      rw[aa HS,bx (f:=cE x) (aa HI) (by rw[aa HP,aa HD2];by_cases c5:n5=0<;>by_cases c6:n6=0<;>by_cases c9:0<i0<;>simp[c5,c6,c9]<;>omega)])
     have dq:decide (0<(n5:Int)+(n6:Int)+(i0:Int))=true:=decide_eq_true h2
     clear h2 u5 u6 u9
     refine wp_region_held_drew (S:=(fun W=>Below W2.heap.size W2 W)) (iU) ?_ (fun hHeld=>?_)
     ·exact ag (Below.refl _ _)
     refine kV 0 ?_
     refine kV 1 ?_
     refine kT 2 ?_ ?_ ?_
     rotate_left
     ·(intro w9 hSw;(try dsimp only at hSw);have g1:=(hSw.cell (p:=⟨wr.heap.size,1,none⟩) zT).trans ct1;go_simp<;>with_reducible rfl)
     try simp only[Act.put,tA,tZ,tS]
     refine kV 3 ?_
     refine kV 4 ?_
     refine kV 5 ?_
     refine kV 6 ?_
     refine kT 7 ?_ ?_ ?_
     rotate_left
     ·(intro w9 hSw;(try dsimp only at hSw);have g5:=(hSw.cell (p:=⟨wr.heap.size,5,none⟩) zT).trans ct5;go_simp<;>with_reducible rfl)
     try simp only[Act.put,tA,tZ,tS]
     refine kV 8 ?_
     refine kV 9 ?_
     refine kV 10 ?_
     refine kT 11 ?_ ?_ ?_
     rotate_left
     ·(intro w9 hSw;(try dsimp only at hSw);have g6:=(hSw.cell (p:=⟨wr.heap.size,6,none⟩) zT).trans ct6;go_simp<;>with_reducible rfl)
     try simp only[Act.put,tA,tZ,tS]
     refine kV 12 ?_
     refine kV 13 ?_
     refine kV 14 ?_
     refine kT 15 ?_ ?_ ?_
     rotate_left
     ·(intro w9 hSw;(try dsimp only at hSw);have g7:=(hSw.cell (p:=⟨w.heap.size,13,none⟩) zX2).trans cx13;go_simp<;>with_reducible rfl)
     try simp only[Act.put,tA,tZ,tS]
     refine kV 16 ?_
     refine kV 17 ?_
     refine kV 18 ?_
     refine kT 19 ?_ ?_ ?_
     rotate_left
     ·(intro w9 hSw;(try dsimp only at hSw);have g9:=(hSw.cell (p:=⟨gs,os+kx*4,none⟩) zs2).trans f0;go_simp<;>with_reducible rfl)
     try simp only[Act.put,tA,tZ,tS]
     refine kV 20 ?_
     refine kV 21 ?_
     refine kV 22 ?_
     refine kV 23 ?_
     refine kV 24 ?_
     refine kU 25 ?_
     try simp only[Act.put,tA,tZ,tS]
     refine kU 26 ?_
     try simp only[Act.put,tA,tZ,tS]
     refine kU 27 ?_
     try simp only[Act.put,tA,tZ,tS]
     refine kU 28 ?_
     try simp only[Act.put,tA,tZ,tS]
     refine kU 29 ?_
     try simp only[Act.put,tA,tZ,tS]
     refine kU 30 ?_
     try simp only[Act.put,tA,tZ,tS]
     refine kU 31 ?_
     try simp only[Act.put,tA,tZ,tS]
     refine kU 32 ?_
     try simp only[Act.put,tA,tZ,tS]
     refine kU 33 ?_
     try simp only[Act.put,tA,tZ,tS]
     refine kU 34 ?_
     try simp only[Act.put,tA,tZ,tS]
     refine kV 35 ?_
     refine wpAnyH_done (iU) ?_ _
     go_wp2
     go_ret
     exact⟨ae (aa hE).symm,ad (aa HBw) (ad hbw (ad HBX hHeld))⟩
    ·have dq:decide (0<(n5:Int)+(n6:Int)+(i0:Int))=false:=decide_eq_false h2
     have HZ:=ab (show n5=0∧n6=0∧i0=0 by omega)
     clear h2 u5 u6 u9
     by_cases h3:ya.ma=1000
     rotate_left
     ·have hE:=ab (show endB x=false by
       rw[aa HS,bx (f:=cE x) (aa HI) (by rw[aa HP,decide_eq_true (show ya.ma<1000 by omega)];simp)])
      have q3:(ya.ma != 1000)=true:=by simp[h3]
      clear h3 hbn
      refine wp_region_held_drew (S:=(fun W=>Below W2.heap.size W2 W)) (iU) ?_ (fun hHeld=>?_)
      ·exact ag (Below.refl _ _)
      refine kV 0 ?_
      refine kV 1 ?_
      refine kT 2 ?_ ?_ ?_
      rotate_left
      ·(intro w9 hSw;(try dsimp only at hSw);have g1:=(hSw.cell (p:=⟨wr.heap.size,1,none⟩) zT).trans ct1;go_simp<;>with_reducible rfl)
      try simp only[Act.put,tA,tZ,tS]
      refine kV 3 ?_
      refine kV 4 ?_
      refine kV 5 ?_
      refine kV 6 ?_
      refine kT 7 ?_ ?_ ?_
      rotate_left
      ·(intro w9 hSw;(try dsimp only at hSw);have g5:=(hSw.cell (p:=⟨wr.heap.size,5,none⟩) zT).trans ct5;go_simp<;>with_reducible rfl)
      try simp only[Act.put,tA,tZ,tS]
      refine kV 8 ?_
      refine kV 9 ?_
      refine kV 10 ?_
      refine kT 11 ?_ ?_ ?_
      rotate_left
      ·(intro w9 hSw;(try dsimp only at hSw);have g6:=(hSw.cell (p:=⟨wr.heap.size,6,none⟩) zT).trans ct6;go_simp<;>with_reducible rfl)
      try simp only[Act.put,tA,tZ,tS]
      refine kV 12 ?_
      refine kV 13 ?_
      refine kV 14 ?_
      refine kT 15 ?_ ?_ ?_
      rotate_left
      ·(intro w9 hSw;(try dsimp only at hSw);have g7:=(hSw.cell (p:=⟨w.heap.size,13,none⟩) zX2).trans cx13;go_simp<;>with_reducible rfl)
      try simp only[Act.put,tA,tZ,tS]
      refine kV 16 ?_
      refine kV 17 ?_
      refine kV 18 ?_
      refine kT 19 ?_ ?_ ?_
      rotate_left
      ·(intro w9 hSw;(try dsimp only at hSw);have g9:=(hSw.cell (p:=⟨gs,os+kx*4,none⟩) zs2).trans f0;go_simp<;>with_reducible rfl)
      try simp only[Act.put,tA,tZ,tS]
      refine kV 20 ?_
      refine kV 21 ?_
      refine kV 22 ?_
      refine kV 23 ?_
      refine kV 24 ?_
      refine kV 25 ?_
      refine kV 26 ?_
      refine kV 27 ?_
      refine kT 28 ?_ ?_ ?_
      rotate_left
      ·(intro w9 hSw;(try dsimp only at hSw);have g8:=(hSw.cell (p:=⟨w.heap.size,21,none⟩) zX2).trans cx21;go_simp<;>with_reducible rfl)
      try simp only[Act.put,tA,tZ,tS]
      refine kV 29 ?_
      refine kV 30 ?_
      refine kV 31 ?_
      refine kV 32 ?_
      refine kT 33 ?_ ?_ ?_
      rotate_left
      ·(intro w9 hSw;(try dsimp only at hSw);have g10:=(hSw.cell (p:=⟨ga,oa+kx*3,none⟩) za2).trans g0;go_simp<;>with_reducible rfl)
      try simp only[Act.put,tA,tZ,tS]
      refine kV 34 ?_
      refine kV 35 ?_
      refine wpAnyH_done (iU) ?_ _
      go_wp2
      go_ret
      exact⟨ae (aa hE).symm,ad (aa HBw) (ad hbw (ad HBX hHeld))⟩
     ·have HW:=ab (show cE x kx=y.ins.all bw by rw[aa HP,aa HD2,h3,(aa HZ).1,(aa HZ).2.1,(aa HZ).2.2];simp)
      have q3:(ya.ma != 1000)=false:=by simp[h3]
      clear h3 hbn
      refine wp_region_held_drew (S:=(fun W=>Below W2.heap.size W2 W)) (iU) ?_ (fun hHeld=>?_)
      ·exact ag (Below.refl _ _)
      refine kV 0 ?_
      refine kV 1 ?_
      refine kT 2 ?_ ?_ ?_
      rotate_left
      ·(intro w9 hSw;(try dsimp only at hSw);have g1:=(hSw.cell (p:=⟨wr.heap.size,1,none⟩) zT).trans ct1;go_simp<;>with_reducible rfl)
      try simp only[Act.put,tA,tZ,tS]
      refine kV 3 ?_
      refine kV 4 ?_
      refine kV 5 ?_
      refine kV 6 ?_
      refine kT 7 ?_ ?_ ?_
      rotate_left
      ·(intro w9 hSw;(try dsimp only at hSw);have g5:=(hSw.cell (p:=⟨wr.heap.size,5,none⟩) zT).trans ct5;go_simp<;>with_reducible rfl)
      try simp only[Act.put,tA,tZ,tS]
      refine kV 8 ?_
      refine kV 9 ?_
      refine kV 10 ?_
      refine kT 11 ?_ ?_ ?_
      rotate_left
      ·(intro w9 hSw;(try dsimp only at hSw);have g6:=(hSw.cell (p:=⟨wr.heap.size,6,none⟩) zT).trans ct6;go_simp<;>with_reducible rfl)
      try simp only[Act.put,tA,tZ,tS]
      refine kV 12 ?_
      refine kV 13 ?_
      refine kV 14 ?_
      refine kT 15 ?_ ?_ ?_
      rotate_left
      ·(intro w9 hSw;(try dsimp only at hSw);have g7:=(hSw.cell (p:=⟨w.heap.size,13,none⟩) zX2).trans cx13;go_simp<;>with_reducible rfl)
      try simp only[Act.put,tA,tZ,tS]
      refine kV 16 ?_
      refine kV 17 ?_
      refine kV 18 ?_
      refine kT 19 ?_ ?_ ?_
      rotate_left
      ·(intro w9 hSw;(try dsimp only at hSw);have g9:=(hSw.cell (p:=⟨gs,os+kx*4,none⟩) zs2).trans f0;go_simp<;>with_reducible rfl)
      try simp only[Act.put,tA,tZ,tS]
      refine kV 20 ?_
      refine kV 21 ?_
      refine kV 22 ?_
      refine kV 23 ?_
      refine kV 24 ?_
      refine kV 25 ?_
      refine kV 26 ?_
      refine kV 27 ?_
      refine kT 28 ?_ ?_ ?_
      rotate_left
      ·(intro w9 hSw;(try dsimp only at hSw);have g8:=(hSw.cell (p:=⟨w.heap.size,21,none⟩) zX2).trans cx21;go_simp<;>with_reducible rfl)
      try simp only[Act.put,tA,tZ,tS]
      refine kV 29 ?_
      refine kV 30 ?_
      refine kV 31 ?_
      refine kV 32 ?_
      refine kT 33 ?_ ?_ ?_
      rotate_left
      ·(intro w9 hSw;(try dsimp only at hSw);have g10:=(hSw.cell (p:=⟨ga,oa+kx*3,none⟩) za2).trans g0;go_simp<;>with_reducible rfl)
      try simp only[Act.put,tA,tZ,tS]
      refine kV 34 ?_
      refine kV 35 ?_
      refine wpAnyH_done (iU) ?_ _
      rename World=>W3d
      have hHd:=hHeld
      clear hHeld
      generalize W3d.drew=W3 at hHd ⊢
      have bT3:=(hHd.block _ zT).trans bT
      have HK3:=ab ((aa HK).below (ad HBX hHd))
      have hn0:=(aa HK3).len
      have hmn:=hn0.2
      unfold maxLen at hmn
      have HB3:=ab (ad hbw (ad HBX hHd))
      have HN0:=ab hn0.1
      clear hn0 hw1 hw2 ct0 ct1 ct2 ct3 ct4 ct5 ct6 cx13 cx21 f0 g0 q1 q3 dq
      go_wp2
      go_loopw [6] (fun i wr=>∃jx:Nat,jx≤n0∧i= .int .i64 jx∧Hid ((y.ins.take jx).all bw=true)∧Below W3.heap.size W3 wr) (fun i _=>n0 - (intOf i).toNat)
      case atStart=>exact⟨0,Nat.zero_le _,rfl,ab rfl,Below.refl _ _⟩
      case round=>
      obtain⟨jx,hk3,rfl,HA,hbw3⟩:=hrel
      have bTr:=(hbw3.block _ (am bT3)).trans bT3
      have zTr:=am bTr
      have ct0:=cA bTr 0
      simp only[gA,gZ,gS]at ct0
      by_cases hlt3:jx<n0
      ·obtain⟨_,_,hx9⟩:=(aa HK3).below hbw3
       obtain⟨gi,oi,rfl,_,hr⟩:=hx9.resolve_left (by omega)
       obtain⟨yi,hyi⟩:∃yi,y.ins[jx]? =some yi:=⟨_,List.getElem?_eq_getElem (by have h9:=aa HN0;omega)⟩
       have hy4:=hr jx yi hyi
       have zi:=hy4.lt
       obtain⟨aq,lq,cq,v0,v1,v2,kq,_⟩:=hy4
       have HYI:=ab hyi
       have hin:(jx:Int)<(n0:Int):=by omega
       have HQ:Hid (bw yi=((lq:Int)==0)):=ab (by unfold bw;rw[kq.1])
       clear hx9 hr hyi v1 v2 kq
       by_cases h4:0<(lq:Int)
       ·have hE:=ab (show endB x=false by
         rw[aa HS,bx (f:=cE x) (aa HI) (by rw[aa HW];exact dG (f:=bw) (aa HYI) (by rw[aa HQ];simp;omega))])
        have h5:0<lq:=by omega
        clear h4
        go_wp2
        go_ret
        exact⟨ae (aa hE).symm,ad (aa HBw) (ad (aa HB3) hbw3)⟩
       ·have h5:lq=0:=by omega
        have h6:¬ 0<lq:=by omega
        clear h5
        have HA2:=ab (dx (f:=bw) (aa HA) (aa HYI) (by rw[aa HQ];simp;omega))
        clear h4
        go_wp2
        go_roundw
        case rel=>exact⟨jx+1,by omega,by go_num,HA2,hbw3⟩
        case measure=>simp[intOf];omega
      ·have HR2:=ab (eY (f:=cE x) (aa HR) (by
        rw[aa HW];have h9:=aa HA;rwa [List.take_of_length_le (by have h8:=aa HN0;omega)]at h9))
       have hge3:¬ (jx:Int)<(n0:Int):=by omega
       go_wp2
       go_roundw
       case rel=>exact⟨kx+1,by omega,by go_num,HR2,ad (aa HB3) hbw3⟩
       case measure=>simp[intOf];omega
   ·have hE:=ab (show endB x=true by
     have h9:=aa HR
     have h8:kx=x.tks.length:=(by obtain⟨hl10,hl11,hl20,hl12,hl13,hl21,e10,e11,e20,e12,e13,e21⟩:=aa HL;omega)
     rw[h8]at h9
     rw[aa HS,h9])
    have hge2:¬ (kx:Int)<(l12:Int):=by omega
    go_wp2
    go_ret
    exact⟨ae (aa hE).symm,ad (aa HBw) hbw⟩
set_option linter.unusedSimpArgs false
attribute [local go_sem ↓] fp
theorem ok_end{x:eC}(hok:bS x=true):(x.logs.length:Int)=x.s∧(x.srcs.length:Int)=x.s∧(x.at_.length:Int)=x.s∧(x.tks.length:Int)=x.t∧(x.sks.length:Int)=x.t∧(x.ssn.length:Int)=x.t:=by
 simp only[bS,Bool.and_eq_true,decide_eq_true_eq]at hok
 have hc:=hok.1.1.1.1.1.1.1.1
 have h1:=hok.1.1.1.1.1.1.1.2
 have h2:=hok.1.1.1.1.1.1.2
 have h3:=hok.1.1.1.1.1.2
 have h4:=hok.1.1.1.1.2
 refine⟨h1,h2,(ck_bd hc).2.2,h3,h4,?_⟩
 simp only[bC,cn,Bool.and_eq_true,decide_eq_true_eq]at hc
 exact hc.1.1.2.1.1.2
set_option maxRecDepth 20000 in
set_option maxHeartbeats 8000000 in
theorem atend_any(x:eC)(a10:Option Addr)(l10 c10:Nat)(a11:Option Addr)(l11 c11:Nat)(a12:Option Addr)(l12 c12:Nat)(a13:Option Addr)(l13 c13:Nat)(a16:Option Addr)(l16 c16:Nat)(a17:Option Addr)(l17 c17:Nat)(a18:Option Addr)(l18 c18:Nat)(a20:Option Addr)(l20 c20:Nat)(a21:Option Addr)(l21 c21:Nat)(B:Nat)(w:World)(h:FlIs w B a10 l10 a11 l11 a12 l12 a13 l13 a16 l16 a17 l17 a18 l18 a20 l20 a21 l21 x)(e10:(l10:Int)=x.s)(e11:(l11:Int)=x.s)(e20:(x.at_.length:Int)=x.s)(e12:(l12:Int)=x.t)(e13:(l13:Int)=x.t)(e21:(x.ssn.length:Int)=x.t):Calls Tryz.prog 72 #[.agg #[.int .i64 x.s,.int .i64 x.t,.int .i64 x.k,.int .i64 x.z,.int .i64 x.p,.int .i64 x.l,.int .i64 x.e,.bool x.b,.int .i64 x.v,.int .i64 x.r,.slice a10 l10 c10,.slice a11 l11 c11,.slice a12 l12 c12,.slice a13 l13 c13,.int .i64 x.n,.bool x.op,.slice a16 l16 c16,.slice a17 l17 c17,.slice a18 l18 c18,.int .i64 x.sfn,.slice a20 l20 c20,.slice a21 l21 c21]] w fun e' w'=>e'= .returned (.bool (endB x))∧Below w.heap.size w w':=by
 have HB0:Below w.heap.size w (w.alloc (.cells #[.int .i64 x.s,.int .i64 x.t,.int .i64 x.k,.int .i64 x.z,.int .i64 x.p,.int .i64 x.l,.int .i64 x.e,.bool x.b,.int .i64 x.v,.int .i64 x.r,.slice a10 l10 c10,.slice a11 l11 c11,.slice a12 l12 c12,.slice a13 l13 c13,.int .i64 x.n,.bool x.op,.slice a16 l16 c16,.slice a17 l17 c17,.slice a18 l18 c18,.int .i64 x.sfn,.slice a20 l20 c20,.slice a21 l21 c21] 50)):=ai _ _
 have bX:(w.alloc (.cells #[.int .i64 x.s,.int .i64 x.t,.int .i64 x.k,.int .i64 x.z,.int .i64 x.p,.int .i64 x.l,.int .i64 x.e,.bool x.b,.int .i64 x.v,.int .i64 x.r,.slice a10 l10 c10,.slice a11 l11 c11,.slice a12 l12 c12,.slice a13 l13 c13,.int .i64 x.n,.bool x.op,.slice a16 l16 c16,.slice a17 l17 c17,.slice a18 l18 c18,.int .i64 x.sfn,.slice a20 l20 c20,.slice a21 l21 c21] 50)).heap[w.heap.size]? =some (.cells #[.int .i64 x.s,.int .i64 x.t,.int .i64 x.k,.int .i64 x.z,.int .i64 x.p,.int .i64 x.l,.int .i64 x.e,.bool x.b,.int .i64 x.v,.int .i64 x.r,.slice a10 l10 c10,.slice a11 l11 c11,.slice a12 l12 c12,.slice a13 l13 c13,.int .i64 x.n,.bool x.op,.slice a16 l16 c16,.slice a17 l17 c17,.slice a18 l18 c18,.int .i64 x.sfn,.slice a20 l20 c20,.slice a21 l21 c21] 50 (0,0)):=aQ _ _ _
 have zz0:(w.alloc (.cells #[.int .i64 x.s,.int .i64 x.t,.int .i64 x.k,.int .i64 x.z,.int .i64 x.p,.int .i64 x.l,.int .i64 x.e,.bool x.b,.int .i64 x.v,.int .i64 x.r,.slice a10 l10 c10,.slice a11 l11 c11,.slice a12 l12 c12,.slice a13 l13 c13,.int .i64 x.n,.bool x.op,.slice a16 l16 c16,.slice a17 l17 c17,.slice a18 l18 c18,.int .i64 x.sfn,.slice a20 l20 c20,.slice a21 l21 c21] 50)).heap.size=w.heap.size+1:=by simp
 go_enter Tryz.func72,Tryz.ntmps72
 go_upto_region 1 with fail
 generalize (w.alloc (.cells #[.int .i64 x.s,.int .i64 x.t,.int .i64 x.k,.int .i64 x.z,.int .i64 x.p,.int .i64 x.l,.int .i64 x.e,.bool x.b,.int .i64 x.v,.int .i64 x.r,.slice a10 l10 c10,.slice a11 l11 c11,.slice a12 l12 c12,.slice a13 l13 c13,.int .i64 x.n,.bool x.op,.slice a16 l16 c16,.slice a17 l17 c17,.slice a18 l18 c18,.int .i64 x.sfn,.slice a20 l20 c20,.slice a21 l21 c21] 50))=W0 at bX HB0 zz0 ⊢
 have HF:=ab (h.below HB0)
 have HB:=ab HB0
 clear HB0 h
 have cx15:=cA bX 15
 simp only[gA,gZ,gS]at cx15
 clear zz0
 have HE1:=ab (And.intro e10 (And.intro e11 (And.intro e20 (And.intro e12 (And.intro e13 e21)))))
 clear e10 e11 e20 e12 e13 e21
 cases hop:x.op
 rotate_left
 ·have hE:=ab (show endB x=false by unfold endB;rw[hop];rfl)
  rw[hop]at cx15
  go_wp2
  go_ret
  exact⟨ae (aa hE).symm,aa HB⟩
 rw[hop]at cx15
 have HO:=ab hop
 clear hop
 have hL:=bt bX 50 Tryz.underlying50 rfl (iU)
 go_wp2_with fail
 clear hL cx15
 refine(sent_any x a10 l10 c10 a11 l11 c11 a12 l12 c12 a13 l13 c13 a16 l16 c16 a17 l17 c17 a18 l18 c18 a20 l20 c20 a21 l21 c21 B _ (aa HF) (aa HE1).1 (aa HE1).2.1 (aa HE1).2.2.1).mono ?_
 cases q1:(List.range x.logs.length).all (dL x)
 ·have hE:=ab (show endB x=false by unfold endB;rw[q1];simp)
  rintro e9 w1 ⟨rfl,hb1⟩
  go_wp2
  go_ret
  exact⟨ae (aa hE).symm,ad (aa HB) hb1⟩
 have hE:=ab (show endB x=(List.range x.tks.length).all (cE x) by unfold endB;rw[q1,aa HO];simp)
 clear q1
 rintro e9 v0 ⟨rfl,hb0⟩
 have bX0:=(hb0.block _ (am bX)).trans bX
 have HF9:=ab ((aa HF).below hb0)
 have HB9:=ab (ad (aa HB) hb0)
 clear HF HB bX hb0
 have bX:=bX0
 have HF:=HF9
 have HB:=HB9
 clear bX0 HF9 HB9
 have hL:=bt bX 50 Tryz.underlying50 rfl (iU)
 go_wp2_with fail
 clear hL
 refine(writ_any x a10 l10 c10 a11 l11 c11 a12 l12 c12 a13 l13 c13 a16 l16 c16 a17 l17 c17 a18 l18 c18 a20 l20 c20 a21 l21 c21 B _ (aa HF) (aa HE1).2.2.2.1 (aa HE1).2.2.2.2.1 (aa HE1).2.2.2.2.2).mono ?_
 rintro e9 w1 ⟨rfl,hb1⟩
 go_wp2
 go_ret
 exact⟨ae (aa hE).symm,ad (aa HB) hb1⟩
set_option maxRecDepth 20000 in
set_option maxHeartbeats 8000000 in
theorem iL(x:eC)(a10:Option Addr)(l10 c10:Nat)(a11:Option Addr)(l11 c11:Nat)(a12:Option Addr)(l12 c12:Nat)(a13:Option Addr)(l13 c13:Nat)(a16:Option Addr)(l16 c16:Nat)(a17:Option Addr)(l17 c17:Nat)(a18:Option Addr)(l18 c18:Nat)(a20:Option Addr)(l20 c20:Nat)(a21:Option Addr)(l21 c21:Nat)(B:Nat)(w:World)(h:FlIs w B a10 l10 a11 l11 a12 l12 a13 l13 a16 l16 a17 l17 a18 l18 a20 l20 a21 l21 x):Calls Tryz.prog 31 #[.agg #[.int .i64 x.s,.int .i64 x.t,.int .i64 x.k,.int .i64 x.z,.int .i64 x.p,.int .i64 x.l,.int .i64 x.e,.bool x.b,.int .i64 x.v,.int .i64 x.r,.slice a10 l10 c10,.slice a11 l11 c11,.slice a12 l12 c12,.slice a13 l13 c13,.int .i64 x.n,.bool x.op,.slice a16 l16 c16,.slice a17 l17 c17,.slice a18 l18 c18,.int .i64 x.sfn,.slice a20 l20 c20,.slice a21 l21 c21]] w fun e' w'=>e'= .returned (.bool (dA x))∧Below w.heap.size w w':=by
 have hl10:=h.logs.len
 have hl11:=h.srcs.len
 have hl12:=h.tks.len
 have hl13:=h.sks.len
 have HB0:Below w.heap.size w (w.alloc (.cells #[.int .i64 x.s,.int .i64 x.t,.int .i64 x.k,.int .i64 x.z,.int .i64 x.p,.int .i64 x.l,.int .i64 x.e,.bool x.b,.int .i64 x.v,.int .i64 x.r,.slice a10 l10 c10,.slice a11 l11 c11,.slice a12 l12 c12,.slice a13 l13 c13,.int .i64 x.n,.bool x.op,.slice a16 l16 c16,.slice a17 l17 c17,.slice a18 l18 c18,.int .i64 x.sfn,.slice a20 l20 c20,.slice a21 l21 c21] 50)):=ai _ _
 have bX:(w.alloc (.cells #[.int .i64 x.s,.int .i64 x.t,.int .i64 x.k,.int .i64 x.z,.int .i64 x.p,.int .i64 x.l,.int .i64 x.e,.bool x.b,.int .i64 x.v,.int .i64 x.r,.slice a10 l10 c10,.slice a11 l11 c11,.slice a12 l12 c12,.slice a13 l13 c13,.int .i64 x.n,.bool x.op,.slice a16 l16 c16,.slice a17 l17 c17,.slice a18 l18 c18,.int .i64 x.sfn,.slice a20 l20 c20,.slice a21 l21 c21] 50)).heap[w.heap.size]? =some (.cells #[.int .i64 x.s,.int .i64 x.t,.int .i64 x.k,.int .i64 x.z,.int .i64 x.p,.int .i64 x.l,.int .i64 x.e,.bool x.b,.int .i64 x.v,.int .i64 x.r,.slice a10 l10 c10,.slice a11 l11 c11,.slice a12 l12 c12,.slice a13 l13 c13,.int .i64 x.n,.bool x.op,.slice a16 l16 c16,.slice a17 l17 c17,.slice a18 l18 c18,.int .i64 x.sfn,.slice a20 l20 c20,.slice a21 l21 c21] 50 (0,0)):=aQ _ _ _
 have zz0:(w.alloc (.cells #[.int .i64 x.s,.int .i64 x.t,.int .i64 x.k,.int .i64 x.z,.int .i64 x.p,.int .i64 x.l,.int .i64 x.e,.bool x.b,.int .i64 x.v,.int .i64 x.r,.slice a10 l10 c10,.slice a11 l11 c11,.slice a12 l12 c12,.slice a13 l13 c13,.int .i64 x.n,.bool x.op,.slice a16 l16 c16,.slice a17 l17 c17,.slice a18 l18 c18,.int .i64 x.sfn,.slice a20 l20 c20,.slice a21 l21 c21] 50)).heap.size=w.heap.size+1:=by simp
 go_enter Tryz.func31,Tryz.ntmps31
 go_upto_region 1 with fail
 generalize (w.alloc (.cells #[.int .i64 x.s,.int .i64 x.t,.int .i64 x.k,.int .i64 x.z,.int .i64 x.p,.int .i64 x.l,.int .i64 x.e,.bool x.b,.int .i64 x.v,.int .i64 x.r,.slice a10 l10 c10,.slice a11 l11 c11,.slice a12 l12 c12,.slice a13 l13 c13,.int .i64 x.n,.bool x.op,.slice a16 l16 c16,.slice a17 l17 c17,.slice a18 l18 c18,.int .i64 x.sfn,.slice a20 l20 c20,.slice a21 l21 c21] 50))=W0 at bX HB0 zz0 ⊢
 have HF:=ab (h.below HB0)
 have HB:=ab HB0
 clear HB0 h
 clear zz0
 have hL:=bt bX 50 Tryz.underlying50 rfl (iU)
 go_wp2_with fail
 clear hL
 refine(gH x a10 l10 c10 a11 l11 c11 a12 l12 c12 a13 l13 c13 a16 l16 c16 a17 l17 c17 a18 l18 c18 a20 l20 c20 a21 l21 c21 B _ (aa HF)).mono ?_
 cases q0:bS x
 ·have hE:=ab (show dA x=false by unfold dA;rw[q0];rfl)
  rintro e9 w1 ⟨rfl,hb1⟩
  go_wp2
  go_ret
  exact⟨ae (aa hE).symm,ad (aa HB) hb1⟩
 have hE:=ab (show dA x=endB x by unfold dA;rw[q0];rfl)
 have HEE:=ab (ok_end q0)
 have HLL:=ab (And.intro hl10.1 (And.intro hl11.1 (And.intro hl12.1 hl13.1)))
 clear q0 hl10 hl11 hl12 hl13
 rintro e9 v0 ⟨rfl,hb0⟩
 have bX0:=(hb0.block _ (am bX)).trans bX
 have HF9:=ab ((aa HF).below hb0)
 have HB9:=ab (ad (aa HB) hb0)
 clear HF HB bX hb0
 have bX:=bX0
 have HF:=HF9
 have HB:=HB9
 clear bX0 HF9 HB9
 have hL:=bt bX 50 Tryz.underlying50 rfl (iU)
 go_wp2_with fail
 clear hL
 refine(atend_any x a10 l10 c10 a11 l11 c11 a12 l12 c12 a13 l13 c13 a16 l16 c16 a17 l17 c17 a18 l18 c18 a20 l20 c20 a21 l21 c21 B _ (aa HF) (by have h1:=aa HEE;have h2:=aa HLL;omega) (by have h1:=aa HEE;have h2:=aa HLL;omega) (by have h1:=aa HEE;omega) (by have h1:=aa HEE;have h2:=aa HLL;omega) (by have h1:=aa HEE;have h2:=aa HLL;omega) (by have h1:=aa HEE;omega)).mono ?_
 rintro e9 w1 ⟨rfl,hb1⟩
 go_wp2
 go_ret
 exact⟨ae (aa hE).symm,ad (aa HB) hb1⟩
end Go.Proofs.YtiilbnjjhgcjdaaGreat
