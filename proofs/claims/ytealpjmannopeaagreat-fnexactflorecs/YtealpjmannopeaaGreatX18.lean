/- Laid together: what the claim needs of the texts that were built one by one. -/
import Derived.Test.YtealpjmannopeaaGreatX17
import Derived.Test.YtealpjmannopeaaGreatX0
set_option linter.unusedVariables false
namespace Go.Proofs.YtealpjmannopeaaGreat
open Go.ChangeShapes Go.WideShapes Go.ChangeAt Go.RowKit
set_option linter.unusedSimpArgs false
/-- A flow lies in memory, all of it in blocks that are not below B. -/
structure FlIs(W:World)(B:Nat)(a10:Option Addr)(l10:Nat)(a11:Option Addr)(l11:Nat)(a12:Option Addr)(l12:Nat)(a13:Option Addr)(l13:Nat)(a16:Option Addr)(l16:Nat)(a17:Option Addr)(l17:Nat)(a18:Option Addr)(l18:Nat)(a20:Option Addr)(l20:Nat)(a21:Option Addr)(l21:Nat)(x:fW):Prop where
 logs:ep W B a10 l10 x.logs
 srcs:fk W B a11 l11 x.srcs
 tks:eQ W B a12 l12 x.tks
 sks:fa W B a13 l13 x.sks
 src:bn W B a16 l16 x.src
 tsk:dO W B a17 l17 x.tsk
 sn:bE W B a18 l18 x.sn
 at_:bn W B a20 l20 x.at_
 ssn:bE W B a21 l21 x.ssn
theorem FlIs.below{W W':World}{B:Nat}{a10:Option Addr}{l10:Nat}{a11:Option Addr}{l11:Nat}{a12:Option Addr}{l12:Nat}{a13:Option Addr}{l13:Nat}{a16:Option Addr}{l16:Nat}{a17:Option Addr}{l17:Nat}{a18:Option Addr}{l18:Nat}{a20:Option Addr}{l20:Nat}{a21:Option Addr}{l21:Nat}{x:fW}(h:FlIs W B a10 l10 a11 l11 a12 l12 a13 l13 a16 l16 a17 l17 a18 l18 a20 l20 a21 l21 x)(hb:Below W.heap.size W W'):FlIs W' B a10 l10 a11 l11 a12 l12 a13 l13 a16 l16 a17 l17 a18 l18 a20 l20 a21 l21 x:=⟨h.1.below hb,h.2.below hb,h.3.below hb,h.4.below hb,h.5.below hb,h.6.below hb,h.7.below hb,h.8.below hb,h.9.below hb⟩
theorem FlIs.ckp{W:World}{B:Nat}{a10:Option Addr}{l10:Nat}{a11:Option Addr}{l11:Nat}{a12:Option Addr}{l12:Nat}{a13:Option Addr}{l13:Nat}{a16:Option Addr}{l16:Nat}{a17:Option Addr}{l17:Nat}{a18:Option Addr}{l18:Nat}{a20:Option Addr}{l20:Nat}{a21:Option Addr}{l21:Nat}{x:fW}(h:FlIs W B a10 l10 a11 l11 a12 l12 a13 l13 a16 l16 a17 l17 a18 l18 a20 l20 a21 l21 x):iB W B a16 l16 a17 l17 a18 l18 a20 l20 a21 l21 x.ck:=⟨h.src,h.tsk,h.sn,h.at_,h.ssn⟩
theorem gq{x:iQ}{s t k z p l e:Int}{b:Bool}{v r:Int}{o:Bool}(a2:Option Addr)(l2 c2:Nat)(a3:Option Addr)(l3 c3:Nat)(a4:Option Addr)(l4 c4:Nat)(a6:Option Addr)(l6 c6:Nat)(a7:Option Addr)(l7 c7:Nat)(B:Nat)(w:World)(h:iB w B a2 l2 a3 l3 a4 l4 a6 l6 a7 l7 x)(hsm:∀y ∈ x.sn,y.sm)(ho:Hid (ca s t k z p l e v r x=o)):Calls Tryz.prog 61 #[.agg #[.int .i64 s,.int .i64 t,.int .i64 k,.int .i64 z,.int .i64 p,.int .i64 l,.int .i64 e,.bool b,.int .i64 v,.int .i64 r],.agg #[.int .i64 x.n,.bool x.op,.slice a2 l2 c2,.slice a3 l3 c3,.slice a4 l4 c4,.int .i64 x.sfn,.slice a6 l6 c6,.slice a7 l7 c7]] w fun e' w'=>e'= .returned (.bool o)∧Below w.heap.size w w':=by
 rw[←aa ho];exact iC s t k z p l e b v r x a2 l2 c2 a3 l3 c3 a4 l4 c4 a6 l6 c6 a7 l7 c7 B w h hsm
theorem gb{y:bS}{o:Bool}(a:Option Addr)(n c:Nat)(w:World)(h:bG w a n y.q)(ho:Hid (y.okB=o)):Calls Tryz.prog 62 #[.slice a n c] w fun e w'=>e= .returned (.bool o)∧Below w.heap.size w w':=by
 rw[←aa ho];exact speclog_any a n c _ w (im h)
theorem jw{y:dr}{s t k z p l e:Int}{b:Bool}{v r:Int}{o:Bool}(a0:Option Addr)(l0 c0:Nat)(a2:Option Addr)(l2 c2:Nat)(a5:Option Addr)(l5 c5:Nat)(a6:Option Addr)(l6 c6:Nat)(B:Nat)(w:World)(h0:fC w B a0 l0 y.ins)(h2:dN w B a2 l2 y.rows)(h5:cQ w B a5 l5 y.ps)(h6:cS w B a6 l6 y.ls)(ho:Hid (bc s t k z p l e v r y.om y.wl y.pn ⟨y.ins,y.rows,y.ps,y.ls⟩=o)):Calls Tryz.prog 64 #[.agg #[.int .i64 s,.int .i64 t,.int .i64 k,.int .i64 z,.int .i64 p,.int .i64 l,.int .i64 e,.bool b,.int .i64 v,.int .i64 r],.agg #[.slice a0 l0 c0,.int .i64 y.om,.slice a2 l2 c2,.int .i64 y.wl,.int .i64 y.pn,.slice a5 l5 c5,.slice a6 l6 c6]] w fun e' w'=>e'= .returned (.bool o)∧Below w.heap.size w w':=by
 rw[←aa ho];exact iD s t k z p l e b v r a0 l0 c0 y.om a2 l2 c2 y.wl y.pn a5 l5 c5 a6 l6 c6 ⟨y.ins,y.rows,y.ps,y.ls⟩ B w ⟨h0,h2,h5,h6⟩
theorem sink_e{y:bC}{o:Bool}(a0:Option Addr)(l0 c0:Nat)(a2:Option Addr)(l2 c2:Nat)(a3:Option Addr)(l3 c3:Nat)(B:Nat)(w:World)(h0:eX w B a0 l0 y.rd)(h2:cQ w B a2 l2 y.ps)(h3:cS w B a3 l3 y.ls)(ho:Hid (y.okB=o)):Calls Tryz.prog 65 #[.agg #[.slice a0 l0 c0,.int .i64 y.n,.slice a2 l2 c2,.slice a3 l3 c3]] w fun e' w'=>e'= .returned (.bool o)∧Below w.heap.size w w':=by
 rw[←aa ho];exact jv y a0 l0 c0 a2 l2 c2 a3 l3 c3 B w h0 h2 h3
/-- The bounds of checkpoints that are ok. -/
theorem ck_bd{s t k z p l e v r:Int}{x:iQ}(h:ca s t k z p l e v r x=true):(1≤s∧s≤3)∧(1≤t∧t≤2)∧(x.at_.length:Int)=s:=by
 simp only[ca,Bool.and_eq_true]at h
 have h1:=h.1.1.1.1.1.1.1.1
 have h2:=h.1.1.2
 simp only[aF,Bool.and_eq_true,aZ]at h1
 simp only[cI,Bool.and_eq_true,decide_eq_true_eq]at h2
 exact⟨h1.1.1.1.1.1.1.1.1,h1.1.1.1.1.1.1.1.2,h2.1.1.1.2⟩
theorem fS{a b c:Int}{o:Bool}(w:World)(ho:Hid (aP a b c=o)):Calls Tryz.prog 63 #[.int .i64 a,.int .i64 b,.int .i64 c] w fun e w'=>e= .returned (.bool o)∧Below w.heap.size w w':=
 (al a b c w).mono fun e w' ⟨he,hw⟩=>⟨by rw[he,aa ho],by rw[hw];exact Below.refl _ _⟩
theorem pl_at{n:Int}{logs:List bS}{srcs:List dY}{ats:List Int}{i:Nat}{y:bS}{s:dY}{a:Int}(h1:logs[i]? =some y)(h2:srcs[i]? =some s)(h3:ats[i]? =some a):fR n logs srcs ats i=(aP s.at_ 0 (y.q.length:Int)&&aP s.wl 0 n&& !decide ((y.q.length:Int)<a)):=by
 unfold fR;rw[h1,h2,h3]
theorem pl_step{f:Nat→Bool}{i:Nat}(h:(List.range i).all f=true)(h2:f i=true):(List.range (i+1)).all f=true:=by
 rw[List.range_succ,List.all_append,h];simp[h2]
theorem gr{f:Nat→Bool}{logs:List bS}{i:Nat}{y:bS}(h1:logs[i]? =some y)(h2:f i=false):(List.range logs.length).all f=false:=by
 rw[List.all_eq_false]
 exact⟨i,List.mem_range.2 (List.getElem?_eq_some_iff.1 h1).1,by simp[h2]⟩
set_option maxRecDepth 20000 in
set_option maxHeartbeats 16000000 in
theorem iE(x:fW)(a10:Option Addr)(l10 c10:Nat)(a11:Option Addr)(l11 c11:Nat)(a12:Option Addr)(l12 c12:Nat)(a13:Option Addr)(l13 c13:Nat)(a16:Option Addr)(l16 c16:Nat)(a17:Option Addr)(l17 c17:Nat)(a18:Option Addr)(l18 c18:Nat)(a20:Option Addr)(l20 c20:Nat)(a21:Option Addr)(l21 c21:Nat)(B:Nat)(w:World)(h:FlIs w B a10 l10 a11 l11 a12 l12 a13 l13 a16 l16 a17 l17 a18 l18 a20 l20 a21 l21 x)(hsm:∀y ∈ x.sn,y.sm):Calls Tryz.prog 30 #[.agg #[.int .i64 x.s,.int .i64 x.t,.int .i64 x.k,.int .i64 x.z,.int .i64 x.p,.int .i64 x.l,.int .i64 x.e,.bool x.b,.int .i64 x.v,.int .i64 x.r,.slice a10 l10 c10,.slice a11 l11 c11,.slice a12 l12 c12,.slice a13 l13 c13,.int .i64 x.n,.bool x.op,.slice a16 l16 c16,.slice a17 l17 c17,.slice a18 l18 c18,.int .i64 x.sfn,.slice a20 l20 c20,.slice a21 l21 c21]] w fun e' w'=>e'= .returned (.bool (cv x))∧Below w.heap.size w w':=by
 have hz0:(w.alloc (.cells #[.int .i64 x.s,.int .i64 x.t,.int .i64 x.k,.int .i64 x.z,.int .i64 x.p,.int .i64 x.l,.int .i64 x.e,.bool x.b,.int .i64 x.v,.int .i64 x.r,.slice a10 l10 c10,.slice a11 l11 c11,.slice a12 l12 c12,.slice a13 l13 c13,.int .i64 x.n,.bool x.op,.slice a16 l16 c16,.slice a17 l17 c17,.slice a18 l18 c18,.int .i64 x.sfn,.slice a20 l20 c20,.slice a21 l21 c21] 51)).heap.size=w.heap.size+1:=by simp
 have HB0:Below w.heap.size w ((w.alloc (.cells #[.int .i64 x.s,.int .i64 x.t,.int .i64 x.k,.int .i64 x.z,.int .i64 x.p,.int .i64 x.l,.int .i64 x.e,.bool x.b,.int .i64 x.v,.int .i64 x.r,.slice a10 l10 c10,.slice a11 l11 c11,.slice a12 l12 c12,.slice a13 l13 c13,.int .i64 x.n,.bool x.op,.slice a16 l16 c16,.slice a17 l17 c17,.slice a18 l18 c18,.int .i64 x.sfn,.slice a20 l20 c20,.slice a21 l21 c21] 51)).alloc (.cells #[.int .i64 x.s,.int .i64 x.t,.int .i64 x.k,.int .i64 x.z,.int .i64 x.p,.int .i64 x.l,.int .i64 x.e,.bool x.b,.int .i64 x.v,.int .i64 x.r] 40)):=aB (ai _ _) _
 have bX:((w.alloc (.cells #[.int .i64 x.s,.int .i64 x.t,.int .i64 x.k,.int .i64 x.z,.int .i64 x.p,.int .i64 x.l,.int .i64 x.e,.bool x.b,.int .i64 x.v,.int .i64 x.r,.slice a10 l10 c10,.slice a11 l11 c11,.slice a12 l12 c12,.slice a13 l13 c13,.int .i64 x.n,.bool x.op,.slice a16 l16 c16,.slice a17 l17 c17,.slice a18 l18 c18,.int .i64 x.sfn,.slice a20 l20 c20,.slice a21 l21 c21] 51)).alloc (.cells #[.int .i64 x.s,.int .i64 x.t,.int .i64 x.k,.int .i64 x.z,.int .i64 x.p,.int .i64 x.l,.int .i64 x.e,.bool x.b,.int .i64 x.v,.int .i64 x.r] 40)).heap[w.heap.size]? =some (.cells #[.int .i64 x.s,.int .i64 x.t,.int .i64 x.k,.int .i64 x.z,.int .i64 x.p,.int .i64 x.l,.int .i64 x.e,.bool x.b,.int .i64 x.v,.int .i64 x.r,.slice a10 l10 c10,.slice a11 l11 c11,.slice a12 l12 c12,.slice a13 l13 c13,.int .i64 x.n,.bool x.op,.slice a16 l16 c16,.slice a17 l17 c17,.slice a18 l18 c18,.int .i64 x.sfn,.slice a20 l20 c20,.slice a21 l21 c21] 51 (0,0)):=(Below.heap_alloc _ _ _ (by simp)).trans (aR _ _ _)
 have bJ:((w.alloc (.cells #[.int .i64 x.s,.int .i64 x.t,.int .i64 x.k,.int .i64 x.z,.int .i64 x.p,.int .i64 x.l,.int .i64 x.e,.bool x.b,.int .i64 x.v,.int .i64 x.r,.slice a10 l10 c10,.slice a11 l11 c11,.slice a12 l12 c12,.slice a13 l13 c13,.int .i64 x.n,.bool x.op,.slice a16 l16 c16,.slice a17 l17 c17,.slice a18 l18 c18,.int .i64 x.sfn,.slice a20 l20 c20,.slice a21 l21 c21] 51)).alloc (.cells #[.int .i64 x.s,.int .i64 x.t,.int .i64 x.k,.int .i64 x.z,.int .i64 x.p,.int .i64 x.l,.int .i64 x.e,.bool x.b,.int .i64 x.v,.int .i64 x.r] 40)).heap[w.heap.size+1]? =some (.cells #[.int .i64 x.s,.int .i64 x.t,.int .i64 x.k,.int .i64 x.z,.int .i64 x.p,.int .i64 x.l,.int .i64 x.e,.bool x.b,.int .i64 x.v,.int .i64 x.r] 40 (0,0)):=by have h9:=aR (w.alloc (.cells #[.int .i64 x.s,.int .i64 x.t,.int .i64 x.k,.int .i64 x.z,.int .i64 x.p,.int .i64 x.l,.int .i64 x.e,.bool x.b,.int .i64 x.v,.int .i64 x.r,.slice a10 l10 c10,.slice a11 l11 c11,.slice a12 l12 c12,.slice a13 l13 c13,.int .i64 x.n,.bool x.op,.slice a16 l16 c16,.slice a17 l17 c17,.slice a18 l18 c18,.int .i64 x.sfn,.slice a20 l20 c20,.slice a21 l21 c21] 51)) #[.int .i64 x.s,.int .i64 x.t,.int .i64 x.k,.int .i64 x.z,.int .i64 x.p,.int .i64 x.l,.int .i64 x.e,.bool x.b,.int .i64 x.v,.int .i64 x.r] 40;rw[hz0]at h9;exact h9
 clear hz0
 obtain⟨oc,hoc⟩:∃oc,ca x.s x.t x.k x.z x.p x.l x.e x.v x.r x.ck=oc:=⟨_,rfl⟩
 have HC:=ab hoc
 have hl10:=h.logs.len
 have hl11:=h.srcs.len
 have hl12:=h.tks.len
 have hl13:=h.sks.len
 have hl20:=h.at_.len
 have HSM:=ab hsm
 go_enter Tryz.func30,Tryz.ntmps30
 go_upto_region 2 with fail
 generalize ((w.alloc (.cells #[.int .i64 x.s,.int .i64 x.t,.int .i64 x.k,.int .i64 x.z,.int .i64 x.p,.int .i64 x.l,.int .i64 x.e,.bool x.b,.int .i64 x.v,.int .i64 x.r,.slice a10 l10 c10,.slice a11 l11 c11,.slice a12 l12 c12,.slice a13 l13 c13,.int .i64 x.n,.bool x.op,.slice a16 l16 c16,.slice a17 l17 c17,.slice a18 l18 c18,.int .i64 x.sfn,.slice a20 l20 c20,.slice a21 l21 c21] 51)).alloc (.cells #[.int .i64 x.s,.int .i64 x.t,.int .i64 x.k,.int .i64 x.z,.int .i64 x.p,.int .i64 x.l,.int .i64 x.e,.bool x.b,.int .i64 x.v,.int .i64 x.r] 40))=W0 at bX bJ HB0 ⊢
 have HF:=ab (h.below HB0)
 have HB:=ab HB0
 clear HB0 h hsm hoc
 have cx0:=cA bX 0
 have cx1:=cA bX 1
 have cx2:=cA bX 2
 have cx3:=cA bX 3
 have cx4:=cA bX 4
 have cx5:=cA bX 5
 have cx6:=cA bX 6
 have cx7:=cA bX 7
 have cx8:=cA bX 8
 have cx9:=cA bX 9
 have cx10:=cA bX 10
 have cx11:=cA bX 11
 have cx12:=cA bX 12
 have cx13:=cA bX 13
 have cx14:=cA bX 14
 have cx15:=cA bX 15
 have cx16:=cA bX 16
 have cx17:=cA bX 17
 have cx18:=cA bX 18
 have cx19:=cA bX 19
 have cx20:=cA bX 20
 have cx21:=cA bX 21
 simp only[gA,gZ,gS]at cx0 cx1 cx2 cx3 cx4 cx5 cx6 cx7 cx8 cx9 cx10 cx11 cx12 cx13 cx14 cx15 cx16 cx17 cx18 cx19 cx20 cx21
 obtain⟨cj0,cj1,cj2,cj3,cj4,cj5,cj6,cj7,cj8,cj9⟩:=Go.Proofs.YtealpjmannopeaaGreat.c10 bJ
 cases oc with
 |false=>
  have hE:=ab (show cv x=false by unfold cv;rw[aa HC];simp)
  go_wp2_with fail
  refine(gq (x:=x.ck) a16 l16 c16 a17 l17 c17 a18 l18 c18 a20 l20 c20 a21 l21 c21 B _ (aa HF).ckp (aa HSM) HC).mono ?_
  rintro e9 w1 ⟨rfl,hb1⟩
  go_wp2
  go_ret
  exact⟨af (aa hE).symm,ae (aa HB) hb1⟩
 |true=>
  obtain⟨⟨s1,s3⟩,⟨t1,t2⟩,hat⟩:=ck_bd (aa HC)
  have hat2:(x.at_.length:Int)=x.s:=hat
  clear hat
  by_cases e10:(l10:Int)=x.s
  rotate_left
  ·have hE:=ab (show cv x=false by unfold cv;rw[decide_eq_false (p:=(x.logs.length:Int)=x.s) (by omega)];simp)
   have d10:((l10:Int) != x.s)=true:=by simp[e10]
   have d10b:((l10:Int)==x.s)=false:=by simp[e10]
   clear e10
   go_wp2_with fail
   refine(gq (x:=x.ck) a16 l16 c16 a17 l17 c17 a18 l18 c18 a20 l20 c20 a21 l21 c21 B _ (aa HF).ckp (aa HSM) HC).mono ?_
   rintro e9 w1 ⟨rfl,hb1⟩
   obtain⟨hc1,hf1,hs1⟩:=ac hb1
   have bXq:=(hb1.block _ (ao bX)).trans bX
   have bJq:=(hb1.block _ (ao bJ)).trans bJ
   clear hc1 hf1 hs1 cx0 cx1 cx2 cx3 cx4 cx5 cx6 cx7 cx8 cx9 cx10 cx11 cx12 cx13 cx14 cx15 cx16 cx17 cx18 cx19 cx20 cx21 cj0 cj1 cj2 cj3 cj4 cj5 cj6 cj7 cj8 cj9
   have cx10:=cA bXq 10
   have cx11:=cA bXq 11
   have cx12:=cA bXq 12
   have cx13:=cA bXq 13
   simp only[gA,gZ,gS]at cx10 cx11 cx12 cx13
   have cj0:=Joins.cell_of_block bJq 0
   have cj1:=Joins.cell_of_block bJq 1
   simp only [List.getElem?_toArray,List.getElem?_cons_zero,List.getElem?_cons_succ] at cj0 cj1
   go_wp2
   go_ret
   exact⟨af (aa hE).symm,ae (aa HB) hb1⟩
  have d10:((l10:Int) != x.s)=false:=by simp[e10]
  have d10b:((l10:Int)==x.s)=true:=by simp[e10]
  have E10:=ab e10
  clear e10
  by_cases e11:(l11:Int)=x.s
  rotate_left
  ·have hE:=ab (show cv x=false by unfold cv;rw[decide_eq_false (p:=(x.srcs.length:Int)=x.s) (by omega)];simp)
   have d11:((l11:Int) != x.s)=true:=by simp[e11]
   have d11b:((l11:Int)==x.s)=false:=by simp[e11]
   clear e11
   go_wp2_with fail
   refine(gq (x:=x.ck) a16 l16 c16 a17 l17 c17 a18 l18 c18 a20 l20 c20 a21 l21 c21 B _ (aa HF).ckp (aa HSM) HC).mono ?_
   rintro e9 w1 ⟨rfl,hb1⟩
   obtain⟨hc1,hf1,hs1⟩:=ac hb1
   have bXq:=(hb1.block _ (ao bX)).trans bX
   have bJq:=(hb1.block _ (ao bJ)).trans bJ
   clear hc1 hf1 hs1 cx0 cx1 cx2 cx3 cx4 cx5 cx6 cx7 cx8 cx9 cx10 cx11 cx12 cx13 cx14 cx15 cx16 cx17 cx18 cx19 cx20 cx21 cj0 cj1 cj2 cj3 cj4 cj5 cj6 cj7 cj8 cj9
   have cx10:=cA bXq 10
   have cx11:=cA bXq 11
   have cx12:=cA bXq 12
   have cx13:=cA bXq 13
   simp only[gA,gZ,gS]at cx10 cx11 cx12 cx13
   have cj0:=Joins.cell_of_block bJq 0
   have cj1:=Joins.cell_of_block bJq 1
   simp only [List.getElem?_toArray,List.getElem?_cons_zero,List.getElem?_cons_succ] at cj0 cj1
   go_wp2
   go_ret
   exact⟨af (aa hE).symm,ae (aa HB) hb1⟩
  have d11:((l11:Int) != x.s)=false:=by simp[e11]
  have d11b:((l11:Int)==x.s)=true:=by simp[e11]
  have E11:=ab e11
  clear e11
  by_cases e12:(l12:Int)=x.t
  rotate_left
  ·have hE:=ab (show cv x=false by unfold cv;rw[decide_eq_false (p:=(x.tks.length:Int)=x.t) (by omega)];simp)
   have d12:((l12:Int) != x.t)=true:=by simp[e12]
   have d12b:((l12:Int)==x.t)=false:=by simp[e12]
   clear e12
   go_wp2_with fail
   refine(gq (x:=x.ck) a16 l16 c16 a17 l17 c17 a18 l18 c18 a20 l20 c20 a21 l21 c21 B _ (aa HF).ckp (aa HSM) HC).mono ?_
   rintro e9 w1 ⟨rfl,hb1⟩
   obtain⟨hc1,hf1,hs1⟩:=ac hb1
   have bXq:=(hb1.block _ (ao bX)).trans bX
   have bJq:=(hb1.block _ (ao bJ)).trans bJ
   clear hc1 hf1 hs1 cx0 cx1 cx2 cx3 cx4 cx5 cx6 cx7 cx8 cx9 cx10 cx11 cx12 cx13 cx14 cx15 cx16 cx17 cx18 cx19 cx20 cx21 cj0 cj1 cj2 cj3 cj4 cj5 cj6 cj7 cj8 cj9
   have cx10:=cA bXq 10
   have cx11:=cA bXq 11
   have cx12:=cA bXq 12
   have cx13:=cA bXq 13
   simp only[gA,gZ,gS]at cx10 cx11 cx12 cx13
   have cj0:=Joins.cell_of_block bJq 0
   have cj1:=Joins.cell_of_block bJq 1
   simp only [List.getElem?_toArray,List.getElem?_cons_zero,List.getElem?_cons_succ] at cj0 cj1
   go_wp2
   go_ret
   exact⟨af (aa hE).symm,ae (aa HB) hb1⟩
  have d12:((l12:Int) != x.t)=false:=by simp[e12]
  have d12b:((l12:Int)==x.t)=true:=by simp[e12]
  have E12:=ab e12
  clear e12
  by_cases e13:(l13:Int)=x.t
  rotate_left
  ·have hE:=ab (show cv x=false by unfold cv;rw[decide_eq_false (p:=(x.sks.length:Int)=x.t) (by omega)];simp)
   have d13:((l13:Int) != x.t)=true:=by simp[e13]
   have d13b:((l13:Int)==x.t)=false:=by simp[e13]
   clear e13
   go_wp2_with fail
   refine(gq (x:=x.ck) a16 l16 c16 a17 l17 c17 a18 l18 c18 a20 l20 c20 a21 l21 c21 B _ (aa HF).ckp (aa HSM) HC).mono ?_
   rintro e9 w1 ⟨rfl,hb1⟩
   obtain⟨hc1,hf1,hs1⟩:=ac hb1
   have bXq:=(hb1.block _ (ao bX)).trans bX
   have bJq:=(hb1.block _ (ao bJ)).trans bJ
   clear hc1 hf1 hs1 cx0 cx1 cx2 cx3 cx4 cx5 cx6 cx7 cx8 cx9 cx10 cx11 cx12 cx13 cx14 cx15 cx16 cx17 cx18 cx19 cx20 cx21 cj0 cj1 cj2 cj3 cj4 cj5 cj6 cj7 cj8 cj9
   have cx10:=cA bXq 10
   have cx11:=cA bXq 11
   have cx12:=cA bXq 12
   have cx13:=cA bXq 13
   simp only[gA,gZ,gS]at cx10 cx11 cx12 cx13
   have cj0:=Joins.cell_of_block bJq 0
   have cj1:=Joins.cell_of_block bJq 1
   simp only [List.getElem?_toArray,List.getElem?_cons_zero,List.getElem?_cons_succ] at cj0 cj1
   go_wp2
   go_ret
   exact⟨af (aa hE).symm,ae (aa HB) hb1⟩
  have d13:((l13:Int) != x.t)=false:=by simp[e13]
  have d13b:((l13:Int)==x.t)=true:=by simp[e13]
  have E13:=ab e13
  clear e13
  have HV:Hid (cv x=(x.logs.all bS.okB&&(List.range x.logs.length).all (fR x.n x.logs x.srcs x.at_)&&x.tks.all (bz x.s x.t x.k x.z x.p x.l x.e x.v x.r x.n)&&x.sks.all bC.okB)):=ab (by
   have h10:=aa E10
   have h11:=aa E11
   have h12:=aa E12
   have h13:=aa E13
   unfold cv
   rw[aa HC,decide_eq_true (p:=(x.logs.length:Int)=x.s) (by omega),decide_eq_true (p:=(x.srcs.length:Int)=x.s) (by omega),decide_eq_true (p:=(x.tks.length:Int)=x.t) (by omega),decide_eq_true (p:=(x.sks.length:Int)=x.t) (by omega)];rfl)
  go_wp2_with fail
  refine(gq (x:=x.ck) a16 l16 c16 a17 l17 c17 a18 l18 c18 a20 l20 c20 a21 l21 c21 B _ (aa HF).ckp (aa HSM) HC).mono ?_
  rintro e9 w1 ⟨rfl,hb1⟩
  have bX1:=(hb1.block _ (ao bX)).trans bX
  have bJ1:=(hb1.block _ (ao bJ)).trans bJ
  clear cx0 cx1 cx2 cx3 cx4 cx5 cx6 cx7 cx8 cx9 cx10 cx11 cx12 cx13 cx14 cx15 cx16 cx17 cx18 cx19 cx20 cx21 cj0 cj1 cj2 cj3 cj4 cj5 cj6 cj7 cj8 cj9
  have cx10:=cA bX1 10
  have cx11:=cA bX1 11
  have cx12:=cA bX1 12
  have cx13:=cA bX1 13
  simp only[gA,gZ,gS]at cx10 cx11 cx12 cx13
  have cj0:=Joins.cell_of_block bJ1 0
  have cj1:=Joins.cell_of_block bJ1 1
  simp only [List.getElem?_toArray,List.getElem?_cons_zero,List.getElem?_cons_succ] at cj0 cj1
  have HB1:=ab (ae (aa HB) hb1)
  have HF1:=ab ((aa HF).below hb1)
  have zX1:=ao bX1
  have zJ1:=ao bJ1
  clear hb1 HB HF bX bJ HC HSM
  go_wp2
  clear d10 d10b d11 d11b d12 d12b d13 d13b cx10 cx11 cx12 cx13 cj0 cj1
  go_loopw [4] (fun i wr=>∃ix:Nat,(ix:Int)≤x.s∧i= .int .i64 ix∧Hid ((x.logs.take ix).all bS.okB=true)∧Hid ((List.range ix).all (fR x.n x.logs x.srcs x.at_)=true)∧Below w1.heap.size w1 wr) (fun i _=>x.s.toNat - (intOf i).toNat)
  case atStart=>exact⟨0,by omega,rfl,ab rfl,ab rfl,Below.refl _ _⟩
  case round=>
   obtain⟨ix,hk,rfl,HA,HR,hbw⟩:=hrel
   have bXr:=(hbw.block _ zX1).trans bX1
   have bJr:=(hbw.block _ zJ1).trans bJ1
   have zXr:=ao bXr
   have zJr:=ao bJr
   have cx10:=cA bXr 10
   have cx11:=cA bXr 11
   have cx12:=cA bXr 12
   have cx13:=cA bXr 13
   have cx14:=cA bXr 14
   have cx20:=cA bXr 20
   simp only[gA,gZ,gS]at cx10 cx11 cx12 cx13 cx14 cx20
   obtain⟨cj0,cj1,cj2,cj3,cj4,cj5,cj6,cj7,cj8,cj9⟩:=Go.Proofs.YtealpjmannopeaaGreat.c10 bJr
   by_cases hlt:(ix:Int)<x.s
   ·have hlt2:decide ((ix:Int)<x.s)=true:=decide_eq_true hlt
    have hF:=(aa HF1).below hbw
    have h10:=aa E10
    have h11:=aa E11
    obtain⟨_,_,hx9⟩:=hF.logs
    obtain⟨g,o,rfl,_,hr⟩:=hx9.resolve_left (by omega)
    obtain⟨y,hy⟩:∃y,x.logs[ix]? =some y:=⟨_,List.getElem?_eq_getElem (by omega)⟩
    have hy1:=hr ix y hy
    have zg:=hy1.lt
    obtain⟨a0y,l0y,c0y,e0,k0⟩:=hy1
    rw[Nat.mul_one]at e0
    have hlq:=k0.len
    have HK0:=ab k0
    obtain⟨_,_,hx8⟩:=hF.srcs.1
    obtain⟨gs,os,rfl,hrs⟩:=hx8.resolve_left (by omega)
    obtain⟨ys,hys⟩:∃ys,x.srcs[ix]? =some ys:=⟨_,List.getElem?_eq_getElem (by omega)⟩
    have zs:=aA (hrs ix ys hys).1
    obtain⟨f0,f1⟩:=hrs ix ys hys
    obtain⟨_,_,hx7⟩:=hF.at_.1
    obtain⟨ga,oa,rfl,hra⟩:=hx7.resolve_left (by omega)
    obtain⟨ya,hya⟩:∃ya,x.at_[ix]? =some ya:=⟨_,List.getElem?_eq_getElem (by omega)⟩
    have m0:wr.cell? ⟨ga,oa+ix,none⟩=some (.int .i64 ya):=by have h9:=hra ix ya hya;simpa using h9
    have za:=aA m0
    have HP:=ab (pl_at (n:=x.n) hy hys hya)
    have HY:=ab hy
    have hi10:(ix:Int)<(l10:Int):=by omega
    have hi11:(ix:Int)<(l11:Int):=by omega
    have hi20:(ix:Int)<(l20:Int):=by omega
    have hix:=ab (show((ix+1:Nat):Int)≤x.s by omega)
    have hlen:y.q.length=l0y:=hlq.1
    rw[hlen]at HP
    clear hx9 hr hy hx8 hrs hys hx7 hra hya k0 hlq hF h10 h11 hlen
    obtain⟨o1,ho1⟩:∃o1,y.okB=o1:=⟨_,rfl⟩
    have HO1:=ab ho1
    obtain⟨o2,ho2⟩:∃o2,aP ys.at_ 0 (l0y:Int)=o2:=⟨_,rfl⟩
    have HO2:=ab ho2
    obtain⟨o3,ho3⟩:∃o3,aP ys.wl 0 x.n=o3:=⟨_,rfl⟩
    have HO3:=ab ho3
    clear ho1 ho2 ho3
    go_wp2_with fail
    cases o1 with
    |false=>
     have hE:=ab (show cv x=false by rw[aa HV,eL (f:=bS.okB) (aa HY) (aa HO1)];simp)
     refine wp_region_held_drew (S:=(fun W=>Below wr.heap.size wr W)) (jK) ?_ (fun hHeld=>?_)
     ·exact aj (Below.refl _ _)
     refine kV 0 ?_
     refine kT 1 ?_ ?_ ?_
     rotate_left
     ·(intro w9 hSw;(try dsimp only at hSw);have g0:=(hSw.cell (p:=⟨w.heap.size,10,none⟩) zXr).trans cx10;go_simp<;>with_reducible rfl)
     try simp only[Act.put,tA,tZ,tS]
     refine kV 2 ?_
     refine kV 3 ?_
     refine kT 4 ?_ ?_ ?_
     rotate_left
     ·(intro w9 hSw;(try dsimp only at hSw);have g4:=(hSw.cell (p:=⟨g,o+ix,none⟩) zg).trans e0;go_simp<;>with_reducible rfl)
     try simp only[Act.put,tA,tZ,tS]
     refine rD 5 (fun K hK=>?_)
     go_simp
     (try dsimp only at hHeld)
     (go_at_call 62;refine(gb (y:=y) a0y l0y c0y _ ((aa HK0).1.below hHeld) HO1).mono ?_;rintro e9 wt ⟨rfl,hbwt⟩)
     (try go_wp2_with fail)
     refine hK.out _ _ (ae hHeld hbwt) (fun jB=>?_)
     clear hK K hHeld
     have hHeld:=jB
     clear jB
     (try dsimp only at hHeld)
     try simp only[Act.put,tA,tZ,tS]
     refine kV 6 ?_
     refine kV 7 ?_
     refine kU 8 ?_
     try simp only[Act.put,tA,tZ,tS]
     refine kU 9 ?_
     try simp only[Act.put,tA,tZ,tS]
     refine kU 10 ?_
     try simp only[Act.put,tA,tZ,tS]
     refine kU 11 ?_
     try simp only[Act.put,tA,tZ,tS]
     refine kU 12 ?_
     try simp only[Act.put,tA,tZ,tS]
     refine kU 13 ?_
     try simp only[Act.put,tA,tZ,tS]
     refine kU 14 ?_
     try simp only[Act.put,tA,tZ,tS]
     refine kU 15 ?_
     try simp only[Act.put,tA,tZ,tS]
     refine kU 16 ?_
     try simp only[Act.put,tA,tZ,tS]
     refine kU 17 ?_
     try simp only[Act.put,tA,tZ,tS]
     refine kU 18 ?_
     try simp only[Act.put,tA,tZ,tS]
     refine kU 19 ?_
     try simp only[Act.put,tA,tZ,tS]
     refine kU 20 ?_
     try simp only[Act.put,tA,tZ,tS]
     refine kU 21 ?_
     try simp only[Act.put,tA,tZ,tS]
     refine kV 22 ?_
     refine kV 23 ?_
     refine kU 24 ?_
     try simp only[Act.put,tA,tZ,tS]
     refine kU 25 ?_
     try simp only[Act.put,tA,tZ,tS]
     refine kU 26 ?_
     try simp only[Act.put,tA,tZ,tS]
     refine kU 27 ?_
     try simp only[Act.put,tA,tZ,tS]
     refine kU 28 ?_
     try simp only[Act.put,tA,tZ,tS]
     refine kU 29 ?_
     try simp only[Act.put,tA,tZ,tS]
     refine kU 30 ?_
     try simp only[Act.put,tA,tZ,tS]
     refine kU 31 ?_
     try simp only[Act.put,tA,tZ,tS]
     refine kU 32 ?_
     try simp only[Act.put,tA,tZ,tS]
     refine kU 33 ?_
     try simp only[Act.put,tA,tZ,tS]
     refine kU 34 ?_
     try simp only[Act.put,tA,tZ,tS]
     refine kV 35 ?_
     refine kV 36 ?_
     refine kU 37 ?_
     try simp only[Act.put,tA,tZ,tS]
     refine kU 38 ?_
     try simp only[Act.put,tA,tZ,tS]
     refine kU 39 ?_
     try simp only[Act.put,tA,tZ,tS]
     refine kU 40 ?_
     try simp only[Act.put,tA,tZ,tS]
     refine kU 41 ?_
     try simp only[Act.put,tA,tZ,tS]
     refine kU 42 ?_
     try simp only[Act.put,tA,tZ,tS]
     refine kU 43 ?_
     try simp only[Act.put,tA,tZ,tS]
     refine kU 44 ?_
     try simp only[Act.put,tA,tZ,tS]
     refine kU 45 ?_
     try simp only[Act.put,tA,tZ,tS]
     refine kU 46 ?_
     try simp only[Act.put,tA,tZ,tS]
     refine kU 47 ?_
     try simp only[Act.put,tA,tZ,tS]
     refine kU 48 ?_
     try simp only[Act.put,tA,tZ,tS]
     refine kU 49 ?_
     try simp only[Act.put,tA,tZ,tS]
     refine kU 50 ?_
     try simp only[Act.put,tA,tZ,tS]
     refine kV 51 ?_
     refine wpAnyH_done (jK) ?_ _
     go_wp2
     go_ret
     exact⟨af (aa hE).symm,ae (aa HB1) (ae hbw hHeld)⟩
    |true=>
     have HA2:=ab (em (aa HA) (aa HY) (aa HO1))
     cases o2 with
     |false=>
      have hE:=ab (show cv x=false by rw[aa HV,gr (aa HY) (by rw[aa HP,aa HO2];rfl)];simp)
      refine wp_region_held_drew (S:=(fun W=>Below wr.heap.size wr W)) (jK) ?_ (fun hHeld=>?_)
      ·exact aj (Below.refl _ _)
      refine kV 0 ?_
      refine kT 1 ?_ ?_ ?_
      rotate_left
      ·(intro w9 hSw;(try dsimp only at hSw);have g0:=(hSw.cell (p:=⟨w.heap.size,10,none⟩) zXr).trans cx10;go_simp<;>with_reducible rfl)
      try simp only[Act.put,tA,tZ,tS]
      refine kV 2 ?_
      refine kV 3 ?_
      refine kT 4 ?_ ?_ ?_
      rotate_left
      ·(intro w9 hSw;(try dsimp only at hSw);have g4:=(hSw.cell (p:=⟨g,o+ix,none⟩) zg).trans e0;go_simp<;>with_reducible rfl)
      try simp only[Act.put,tA,tZ,tS]
      refine rD 5 (fun K hK=>?_)
      go_simp
      (try dsimp only at hHeld)
      (go_at_call 62;refine(gb (y:=y) a0y l0y c0y _ ((aa HK0).1.below hHeld) HO1).mono ?_;rintro e9 wt ⟨rfl,hbwt⟩)
      (try go_wp2_with fail)
      refine hK.out _ _ (ae hHeld hbwt) (fun jB=>?_)
      clear hK K hHeld
      have hHeld:=jB
      clear jB
      (try dsimp only at hHeld)
      try simp only[Act.put,tA,tZ,tS]
      refine kV 6 ?_
      refine kV 7 ?_
      refine kV 8 ?_
      refine kT 9 ?_ ?_ ?_
      rotate_left
      ·(intro w9 hSw;(try dsimp only at hSw);have g1:=(hSw.cell (p:=⟨w.heap.size,11,none⟩) zXr).trans cx11;go_simp<;>with_reducible rfl)
      try simp only[Act.put,tA,tZ,tS]
      refine kV 10 ?_
      refine kV 11 ?_
      refine kV 12 ?_
      refine kT 13 ?_ ?_ ?_
      rotate_left
      ·(intro w9 hSw;(try dsimp only at hSw);have g5:=(hSw.cell (p:=⟨gs,os+ix*2,none⟩) zs).trans f0;go_simp<;>with_reducible rfl)
      try simp only[Act.put,tA,tZ,tS]
      refine kV 14 ?_
      refine kT 15 ?_ ?_ ?_
      rotate_left
      ·(intro w9 hSw;(try dsimp only at hSw);have g0:=(hSw.cell (p:=⟨w.heap.size,10,none⟩) zXr).trans cx10;go_simp<;>with_reducible rfl)
      try simp only[Act.put,tA,tZ,tS]
      refine kV 16 ?_
      refine kV 17 ?_
      refine kT 18 ?_ ?_ ?_
      rotate_left
      ·(intro w9 hSw;(try dsimp only at hSw);have g4:=(hSw.cell (p:=⟨g,o+ix,none⟩) zg).trans e0;go_simp<;>with_reducible rfl)
      try simp only[Act.put,tA,tZ,tS]
      refine kV 19 ?_
      refine rD 20 (fun K hK=>?_)
      go_simp
      (try dsimp only at hHeld)
      (go_at_call 63;refine(fS _ HO2).mono ?_;rintro e9 wu ⟨rfl,hbwu⟩)
      (try go_wp2_with fail)
      refine hK.out _ _ (ae hHeld hbwu) (fun jB=>?_)
      clear hK K hHeld
      have hHeld:=jB
      clear jB
      (try dsimp only at hHeld)
      try simp only[Act.put,tA,tZ,tS]
      refine kV 21 ?_
      refine kV 22 ?_
      refine kV 23 ?_
      refine kU 24 ?_
      try simp only[Act.put,tA,tZ,tS]
      refine kU 25 ?_
      try simp only[Act.put,tA,tZ,tS]
      refine kU 26 ?_
      try simp only[Act.put,tA,tZ,tS]
      refine kU 27 ?_
      try simp only[Act.put,tA,tZ,tS]
      refine kU 28 ?_
      try simp only[Act.put,tA,tZ,tS]
      refine kU 29 ?_
      try simp only[Act.put,tA,tZ,tS]
      refine kU 30 ?_
      try simp only[Act.put,tA,tZ,tS]
      refine kU 31 ?_
      try simp only[Act.put,tA,tZ,tS]
      refine kU 32 ?_
      try simp only[Act.put,tA,tZ,tS]
      refine kU 33 ?_
      try simp only[Act.put,tA,tZ,tS]
      refine kU 34 ?_
      try simp only[Act.put,tA,tZ,tS]
      refine kV 35 ?_
      refine kV 36 ?_
      refine kU 37 ?_
      try simp only[Act.put,tA,tZ,tS]
      refine kU 38 ?_
      try simp only[Act.put,tA,tZ,tS]
      refine kU 39 ?_
      try simp only[Act.put,tA,tZ,tS]
      refine kU 40 ?_
      try simp only[Act.put,tA,tZ,tS]
      refine kU 41 ?_
      try simp only[Act.put,tA,tZ,tS]
      refine kU 42 ?_
      try simp only[Act.put,tA,tZ,tS]
      refine kU 43 ?_
      try simp only[Act.put,tA,tZ,tS]
      refine kU 44 ?_
      try simp only[Act.put,tA,tZ,tS]
      refine kU 45 ?_
      try simp only[Act.put,tA,tZ,tS]
      refine kU 46 ?_
      try simp only[Act.put,tA,tZ,tS]
      refine kU 47 ?_
      try simp only[Act.put,tA,tZ,tS]
      refine kU 48 ?_
      try simp only[Act.put,tA,tZ,tS]
      refine kU 49 ?_
      try simp only[Act.put,tA,tZ,tS]
      refine kU 50 ?_
      try simp only[Act.put,tA,tZ,tS]
      refine kV 51 ?_
      refine wpAnyH_done (jK) ?_ _
      go_wp2
      go_ret
      exact⟨af (aa hE).symm,ae (aa HB1) (ae hbw hHeld)⟩
     |true=>
      cases o3 with
      |false=>
       have hE:=ab (show cv x=false by rw[aa HV,gr (aa HY) (by rw[aa HP,aa HO2,aa HO3];rfl)];simp)
       refine wp_region_held_drew (S:=(fun W=>Below wr.heap.size wr W)) (jK) ?_ (fun hHeld=>?_)
       ·exact aj (Below.refl _ _)
       refine kV 0 ?_
       refine kT 1 ?_ ?_ ?_
       rotate_left
       ·(intro w9 hSw;(try dsimp only at hSw);have g0:=(hSw.cell (p:=⟨w.heap.size,10,none⟩) zXr).trans cx10;go_simp<;>with_reducible rfl)
       try simp only[Act.put,tA,tZ,tS]
       refine kV 2 ?_
       refine kV 3 ?_
       refine kT 4 ?_ ?_ ?_
       rotate_left
       ·(intro w9 hSw;(try dsimp only at hSw);have g4:=(hSw.cell (p:=⟨g,o+ix,none⟩) zg).trans e0;go_simp<;>with_reducible rfl)
       try simp only[Act.put,tA,tZ,tS]
       refine rD 5 (fun K hK=>?_)
       go_simp
       (try dsimp only at hHeld)
       (go_at_call 62;refine(gb (y:=y) a0y l0y c0y _ ((aa HK0).1.below hHeld) HO1).mono ?_;rintro e9 wt ⟨rfl,hbwt⟩)
       (try go_wp2_with fail)
       refine hK.out _ _ (ae hHeld hbwt) (fun jB=>?_)
       clear hK K hHeld
       have hHeld:=jB
       clear jB
       (try dsimp only at hHeld)
       try simp only[Act.put,tA,tZ,tS]
       refine kV 6 ?_
       refine kV 7 ?_
       refine kV 8 ?_
       refine kT 9 ?_ ?_ ?_
       rotate_left
       ·(intro w9 hSw;(try dsimp only at hSw);have g1:=(hSw.cell (p:=⟨w.heap.size,11,none⟩) zXr).trans cx11;go_simp<;>with_reducible rfl)
       try simp only[Act.put,tA,tZ,tS]
       refine kV 10 ?_
       refine kV 11 ?_
       refine kV 12 ?_
       refine kT 13 ?_ ?_ ?_
       rotate_left
       ·(intro w9 hSw;(try dsimp only at hSw);have g5:=(hSw.cell (p:=⟨gs,os+ix*2,none⟩) zs).trans f0;go_simp<;>with_reducible rfl)
       try simp only[Act.put,tA,tZ,tS]
       refine kV 14 ?_
       refine kT 15 ?_ ?_ ?_
       rotate_left
       ·(intro w9 hSw;(try dsimp only at hSw);have g0:=(hSw.cell (p:=⟨w.heap.size,10,none⟩) zXr).trans cx10;go_simp<;>with_reducible rfl)
       try simp only[Act.put,tA,tZ,tS]
       refine kV 16 ?_
       refine kV 17 ?_
       refine kT 18 ?_ ?_ ?_
       rotate_left
       ·(intro w9 hSw;(try dsimp only at hSw);have g4:=(hSw.cell (p:=⟨g,o+ix,none⟩) zg).trans e0;go_simp<;>with_reducible rfl)
       try simp only[Act.put,tA,tZ,tS]
       refine kV 19 ?_
       refine rD 20 (fun K hK=>?_)
       go_simp
       (try dsimp only at hHeld)
       (go_at_call 63;refine(fS _ HO2).mono ?_;rintro e9 wu ⟨rfl,hbwu⟩)
       (try go_wp2_with fail)
       refine hK.out _ _ (ae hHeld hbwu) (fun jB=>?_)
       clear hK K hHeld
       have hHeld:=jB
       clear jB
       (try dsimp only at hHeld)
       try simp only[Act.put,tA,tZ,tS]
       refine kV 21 ?_
       refine kV 22 ?_
       refine kV 23 ?_
       refine kV 24 ?_
       refine kT 25 ?_ ?_ ?_
       rotate_left
       ·(intro w9 hSw;(try dsimp only at hSw);have g1:=(hSw.cell (p:=⟨w.heap.size,11,none⟩) zXr).trans cx11;go_simp<;>with_reducible rfl)
       try simp only[Act.put,tA,tZ,tS]
       refine kV 26 ?_
       refine kV 27 ?_
       refine kV 28 ?_
       refine kT 29 ?_ ?_ ?_
       rotate_left
       ·(intro w9 hSw;(try dsimp only at hSw);have g6:=(hSw.cell (p:=⟨gs,os+ix*2+1,none⟩) zs).trans f1;go_simp<;>with_reducible rfl)
       try simp only[Act.put,tA,tZ,tS]
       refine kV 30 ?_
       refine kV 31 ?_
       refine kT 32 ?_ ?_ ?_
       rotate_left
       ·(intro w9 hSw;(try dsimp only at hSw);have g2:=(hSw.cell (p:=⟨w.heap.size,14,none⟩) zXr).trans cx14;go_simp<;>with_reducible rfl)
       try simp only[Act.put,tA,tZ,tS]
       refine rD 33 (fun K hK=>?_)
       go_simp
       (try dsimp only at hHeld)
       (go_at_call 63;refine(fS _ HO3).mono ?_;rintro e9 wv ⟨rfl,hbwv⟩)
       (try go_wp2_with fail)
       refine hK.out _ _ (ae hHeld hbwv) (fun jB=>?_)
       clear hK K hHeld
       have hHeld:=jB
       clear jB
       (try dsimp only at hHeld)
       try simp only[Act.put,tA,tZ,tS]
       refine kV 34 ?_
       refine kV 35 ?_
       refine kV 36 ?_
       refine kU 37 ?_
       try simp only[Act.put,tA,tZ,tS]
       refine kU 38 ?_
       try simp only[Act.put,tA,tZ,tS]
       refine kU 39 ?_
       try simp only[Act.put,tA,tZ,tS]
       refine kU 40 ?_
       try simp only[Act.put,tA,tZ,tS]
       refine kU 41 ?_
       try simp only[Act.put,tA,tZ,tS]
       refine kU 42 ?_
       try simp only[Act.put,tA,tZ,tS]
       refine kU 43 ?_
       try simp only[Act.put,tA,tZ,tS]
       refine kU 44 ?_
       try simp only[Act.put,tA,tZ,tS]
       refine kU 45 ?_
       try simp only[Act.put,tA,tZ,tS]
       refine kU 46 ?_
       try simp only[Act.put,tA,tZ,tS]
       refine kU 47 ?_
       try simp only[Act.put,tA,tZ,tS]
       refine kU 48 ?_
       try simp only[Act.put,tA,tZ,tS]
       refine kU 49 ?_
       try simp only[Act.put,tA,tZ,tS]
       refine kU 50 ?_
       try simp only[Act.put,tA,tZ,tS]
       refine kV 51 ?_
       refine wpAnyH_done (jK) ?_ _
       go_wp2
       go_ret
       exact⟨af (aa hE).symm,ae (aa HB1) (ae hbw hHeld)⟩
      |true=>
       by_cases hq:(l0y:Int)<ya
       ·have hE:=ab (show cv x=false by rw[aa HV,gr (aa HY) (by rw[aa HP,aa HO2,aa HO3,decide_eq_true hq];rfl)];simp)
        have dq:decide ((l0y:Int)<ya)=true:=decide_eq_true hq
        refine wp_region_held_drew (S:=(fun W=>Below wr.heap.size wr W)) (jK) ?_ (fun hHeld=>?_)
        ·exact aj (Below.refl _ _)
        refine kV 0 ?_
        refine kT 1 ?_ ?_ ?_
        rotate_left
        ·(intro w9 hSw;(try dsimp only at hSw);have g0:=(hSw.cell (p:=⟨w.heap.size,10,none⟩) zXr).trans cx10;go_simp<;>with_reducible rfl)
        try simp only[Act.put,tA,tZ,tS]
        refine kV 2 ?_
        refine kV 3 ?_
        refine kT 4 ?_ ?_ ?_
        rotate_left
        ·(intro w9 hSw;(try dsimp only at hSw);have g4:=(hSw.cell (p:=⟨g,o+ix,none⟩) zg).trans e0;go_simp<;>with_reducible rfl)
        try simp only[Act.put,tA,tZ,tS]
        refine rD 5 (fun K hK=>?_)
        go_simp
        (try dsimp only at hHeld)
        (go_at_call 62;refine(gb (y:=y) a0y l0y c0y _ ((aa HK0).1.below hHeld) HO1).mono ?_;rintro e9 wt ⟨rfl,hbwt⟩)
        (try go_wp2_with fail)
        refine hK.out _ _ (ae hHeld hbwt) (fun jB=>?_)
        clear hK K hHeld
        have hHeld:=jB
        clear jB
        (try dsimp only at hHeld)
        try simp only[Act.put,tA,tZ,tS]
        refine kV 6 ?_
        refine kV 7 ?_
        refine kV 8 ?_
        refine kT 9 ?_ ?_ ?_
        rotate_left
        ·(intro w9 hSw;(try dsimp only at hSw);have g1:=(hSw.cell (p:=⟨w.heap.size,11,none⟩) zXr).trans cx11;go_simp<;>with_reducible rfl)
        try simp only[Act.put,tA,tZ,tS]
        refine kV 10 ?_
        refine kV 11 ?_
        refine kV 12 ?_
        refine kT 13 ?_ ?_ ?_
        rotate_left
        ·(intro w9 hSw;(try dsimp only at hSw);have g5:=(hSw.cell (p:=⟨gs,os+ix*2,none⟩) zs).trans f0;go_simp<;>with_reducible rfl)
        try simp only[Act.put,tA,tZ,tS]
        refine kV 14 ?_
        refine kT 15 ?_ ?_ ?_
        rotate_left
        ·(intro w9 hSw;(try dsimp only at hSw);have g0:=(hSw.cell (p:=⟨w.heap.size,10,none⟩) zXr).trans cx10;go_simp<;>with_reducible rfl)
        try simp only[Act.put,tA,tZ,tS]
        refine kV 16 ?_
        refine kV 17 ?_
        refine kT 18 ?_ ?_ ?_
        rotate_left
        ·(intro w9 hSw;(try dsimp only at hSw);have g4:=(hSw.cell (p:=⟨g,o+ix,none⟩) zg).trans e0;go_simp<;>with_reducible rfl)
        try simp only[Act.put,tA,tZ,tS]
        refine kV 19 ?_
        refine rD 20 (fun K hK=>?_)
        go_simp
        (try dsimp only at hHeld)
        (go_at_call 63;refine(fS _ HO2).mono ?_;rintro e9 wu ⟨rfl,hbwu⟩)
        (try go_wp2_with fail)
        refine hK.out _ _ (ae hHeld hbwu) (fun jB=>?_)
        clear hK K hHeld
        have hHeld:=jB
        clear jB
        (try dsimp only at hHeld)
        try simp only[Act.put,tA,tZ,tS]
        refine kV 21 ?_
        refine kV 22 ?_
        refine kV 23 ?_
        refine kV 24 ?_
        refine kT 25 ?_ ?_ ?_
        rotate_left
        ·(intro w9 hSw;(try dsimp only at hSw);have g1:=(hSw.cell (p:=⟨w.heap.size,11,none⟩) zXr).trans cx11;go_simp<;>with_reducible rfl)
        try simp only[Act.put,tA,tZ,tS]
        refine kV 26 ?_
        refine kV 27 ?_
        refine kV 28 ?_
        refine kT 29 ?_ ?_ ?_
        rotate_left
        ·(intro w9 hSw;(try dsimp only at hSw);have g6:=(hSw.cell (p:=⟨gs,os+ix*2+1,none⟩) zs).trans f1;go_simp<;>with_reducible rfl)
        try simp only[Act.put,tA,tZ,tS]
        refine kV 30 ?_
        refine kV 31 ?_
        refine kT 32 ?_ ?_ ?_
        rotate_left
        ·(intro w9 hSw;(try dsimp only at hSw);have g2:=(hSw.cell (p:=⟨w.heap.size,14,none⟩) zXr).trans cx14;go_simp<;>with_reducible rfl)
        try simp only[Act.put,tA,tZ,tS]
        refine rD 33 (fun K hK=>?_)
        go_simp
        (try dsimp only at hHeld)
        (go_at_call 63;refine(fS _ HO3).mono ?_;rintro e9 wv ⟨rfl,hbwv⟩)
        (try go_wp2_with fail)
        refine hK.out _ _ (ae hHeld hbwv) (fun jB=>?_)
        clear hK K hHeld
        have hHeld:=jB
        clear jB
        (try dsimp only at hHeld)
        try simp only[Act.put,tA,tZ,tS]
        refine kV 34 ?_
        refine kV 35 ?_
        refine kV 36 ?_
        refine kV 37 ?_
        refine kV 38 ?_
        refine kV 39 ?_
        refine kT 40 ?_ ?_ ?_
        rotate_left
        ·(intro w9 hSw;(try dsimp only at hSw);have g3:=(hSw.cell (p:=⟨w.heap.size,20,none⟩) zXr).trans cx20;go_simp<;>with_reducible rfl)
        try simp only[Act.put,tA,tZ,tS]
        refine kV 41 ?_
        refine kV 42 ?_
        refine kT 43 ?_ ?_ ?_
        rotate_left
        ·(intro w9 hSw;(try dsimp only at hSw);have g7:=(hSw.cell (p:=⟨ga,oa+ix,none⟩) za).trans m0;go_simp<;>with_reducible rfl)
        try simp only[Act.put,tA,tZ,tS]
        refine kV 44 ?_
        refine kT 45 ?_ ?_ ?_
        rotate_left
        ·(intro w9 hSw;(try dsimp only at hSw);have g0:=(hSw.cell (p:=⟨w.heap.size,10,none⟩) zXr).trans cx10;go_simp<;>with_reducible rfl)
        try simp only[Act.put,tA,tZ,tS]
        refine kV 46 ?_
        refine kV 47 ?_
        refine kT 48 ?_ ?_ ?_
        rotate_left
        ·(intro w9 hSw;(try dsimp only at hSw);have g4:=(hSw.cell (p:=⟨g,o+ix,none⟩) zg).trans e0;go_simp<;>with_reducible rfl)
        try simp only[Act.put,tA,tZ,tS]
        refine kV 49 ?_
        refine kV 50 ?_
        refine kV 51 ?_
        refine wpAnyH_done (jK) ?_ _
        go_wp2
        go_ret
        exact⟨af (aa hE).symm,ae (aa HB1) (ae hbw hHeld)⟩
       ·have dq:decide ((l0y:Int)<ya)=false:=decide_eq_false hq
        have HR2:=ab (pl_step (aa HR) (by rw[aa HP,aa HO2,aa HO3,decide_eq_false hq];rfl))
        refine wp_region_held_drew (S:=(fun W=>Below wr.heap.size wr W)) (jK) ?_ (fun hHeld=>?_)
        ·exact aj (Below.refl _ _)
        refine kV 0 ?_
        refine kT 1 ?_ ?_ ?_
        rotate_left
        ·(intro w9 hSw;(try dsimp only at hSw);have g0:=(hSw.cell (p:=⟨w.heap.size,10,none⟩) zXr).trans cx10;go_simp<;>with_reducible rfl)
        try simp only[Act.put,tA,tZ,tS]
        refine kV 2 ?_
        refine kV 3 ?_
        refine kT 4 ?_ ?_ ?_
        rotate_left
        ·(intro w9 hSw;(try dsimp only at hSw);have g4:=(hSw.cell (p:=⟨g,o+ix,none⟩) zg).trans e0;go_simp<;>with_reducible rfl)
        try simp only[Act.put,tA,tZ,tS]
        refine rD 5 (fun K hK=>?_)
        go_simp
        (try dsimp only at hHeld)
        (go_at_call 62;refine(gb (y:=y) a0y l0y c0y _ ((aa HK0).1.below hHeld) HO1).mono ?_;rintro e9 wt ⟨rfl,hbwt⟩)
        (try go_wp2_with fail)
        refine hK.out _ _ (ae hHeld hbwt) (fun jB=>?_)
        clear hK K hHeld
        have hHeld:=jB
        clear jB
        (try dsimp only at hHeld)
        try simp only[Act.put,tA,tZ,tS]
        refine kV 6 ?_
        refine kV 7 ?_
        refine kV 8 ?_
        refine kT 9 ?_ ?_ ?_
        rotate_left
        ·(intro w9 hSw;(try dsimp only at hSw);have g1:=(hSw.cell (p:=⟨w.heap.size,11,none⟩) zXr).trans cx11;go_simp<;>with_reducible rfl)
        try simp only[Act.put,tA,tZ,tS]
        refine kV 10 ?_
        refine kV 11 ?_
        refine kV 12 ?_
        refine kT 13 ?_ ?_ ?_
        rotate_left
        ·(intro w9 hSw;(try dsimp only at hSw);have g5:=(hSw.cell (p:=⟨gs,os+ix*2,none⟩) zs).trans f0;go_simp<;>with_reducible rfl)
        try simp only[Act.put,tA,tZ,tS]
        refine kV 14 ?_
        refine kT 15 ?_ ?_ ?_
        rotate_left
        ·(intro w9 hSw;(try dsimp only at hSw);have g0:=(hSw.cell (p:=⟨w.heap.size,10,none⟩) zXr).trans cx10;go_simp<;>with_reducible rfl)
        try simp only[Act.put,tA,tZ,tS]
        refine kV 16 ?_
        refine kV 17 ?_
        refine kT 18 ?_ ?_ ?_
        rotate_left
        ·(intro w9 hSw;(try dsimp only at hSw);have g4:=(hSw.cell (p:=⟨g,o+ix,none⟩) zg).trans e0;go_simp<;>with_reducible rfl)
        try simp only[Act.put,tA,tZ,tS]
        refine kV 19 ?_
        refine rD 20 (fun K hK=>?_)
        go_simp
        (try dsimp only at hHeld)
        (go_at_call 63;refine(fS _ HO2).mono ?_;rintro e9 wu ⟨rfl,hbwu⟩)
        (try go_wp2_with fail)
        refine hK.out _ _ (ae hHeld hbwu) (fun jB=>?_)
        clear hK K hHeld
        have hHeld:=jB
        clear jB
        (try dsimp only at hHeld)
        try simp only[Act.put,tA,tZ,tS]
        refine kV 21 ?_
        refine kV 22 ?_
        refine kV 23 ?_
        refine kV 24 ?_
        refine kT 25 ?_ ?_ ?_
        rotate_left
        ·(intro w9 hSw;(try dsimp only at hSw);have g1:=(hSw.cell (p:=⟨w.heap.size,11,none⟩) zXr).trans cx11;go_simp<;>with_reducible rfl)
        try simp only[Act.put,tA,tZ,tS]
        refine kV 26 ?_
        refine kV 27 ?_
        refine kV 28 ?_
        refine kT 29 ?_ ?_ ?_
        rotate_left
        ·(intro w9 hSw;(try dsimp only at hSw);have g6:=(hSw.cell (p:=⟨gs,os+ix*2+1,none⟩) zs).trans f1;go_simp<;>with_reducible rfl)
        try simp only[Act.put,tA,tZ,tS]
        refine kV 30 ?_
        refine kV 31 ?_
        refine kT 32 ?_ ?_ ?_
        rotate_left
        ·(intro w9 hSw;(try dsimp only at hSw);have g2:=(hSw.cell (p:=⟨w.heap.size,14,none⟩) zXr).trans cx14;go_simp<;>with_reducible rfl)
        try simp only[Act.put,tA,tZ,tS]
        refine rD 33 (fun K hK=>?_)
        go_simp
        (try dsimp only at hHeld)
        (go_at_call 63;refine(fS _ HO3).mono ?_;rintro e9 wv ⟨rfl,hbwv⟩)
        (try go_wp2_with fail)
        refine hK.out _ _ (ae hHeld hbwv) (fun jB=>?_)
        clear hK K hHeld
        have hHeld:=jB
        clear jB
        (try dsimp only at hHeld)
        try simp only[Act.put,tA,tZ,tS]
        refine kV 34 ?_
        refine kV 35 ?_
        refine kV 36 ?_
        refine kV 37 ?_
        refine kV 38 ?_
        refine kV 39 ?_
        refine kT 40 ?_ ?_ ?_
        rotate_left
        ·(intro w9 hSw;(try dsimp only at hSw);have g3:=(hSw.cell (p:=⟨w.heap.size,20,none⟩) zXr).trans cx20;go_simp<;>with_reducible rfl)
        try simp only[Act.put,tA,tZ,tS]
        refine kV 41 ?_
        refine kV 42 ?_
        refine kT 43 ?_ ?_ ?_
        rotate_left
        ·(intro w9 hSw;(try dsimp only at hSw);have g7:=(hSw.cell (p:=⟨ga,oa+ix,none⟩) za).trans m0;go_simp<;>with_reducible rfl)
        try simp only[Act.put,tA,tZ,tS]
        refine kV 44 ?_
        refine kT 45 ?_ ?_ ?_
        rotate_left
        ·(intro w9 hSw;(try dsimp only at hSw);have g0:=(hSw.cell (p:=⟨w.heap.size,10,none⟩) zXr).trans cx10;go_simp<;>with_reducible rfl)
        try simp only[Act.put,tA,tZ,tS]
        refine kV 46 ?_
        refine kV 47 ?_
        refine kT 48 ?_ ?_ ?_
        rotate_left
        ·(intro w9 hSw;(try dsimp only at hSw);have g4:=(hSw.cell (p:=⟨g,o+ix,none⟩) zg).trans e0;go_simp<;>with_reducible rfl)
        try simp only[Act.put,tA,tZ,tS]
        refine kV 49 ?_
        refine kV 50 ?_
        refine kV 51 ?_
        refine wpAnyH_done (jK) ?_ _
        go_wp2
        go_roundw
        case rel=>exact⟨ix+1,aa hix,by go_num,HA2,HR2,ae hbw hHeld⟩
        case measure=>simp[intOf];omega
   ·have hlt2:decide ((ix:Int)<x.s)=false:=decide_eq_false hlt
    have HV2:Hid (cv x=(x.tks.all (bz x.s x.t x.k x.z x.p x.l x.e x.v x.r x.n)&&x.sks.all bC.okB)):=ab (by
     have h10:=aa E10
     rw[aa HV]
     have h8:=aa HA
     have h9:=aa HR
     rw[List.take_of_length_le (by omega)]at h8
     have e9:ix=x.logs.length:=by omega
     rw[e9]at h9
     rw[h8,h9];rfl)
    clear HV HA HR
    go_wp2
    clear hlt2 cx10 cx11 cx12 cx13 cx14 cx20 cj0 cj1 cj2 cj3 cj4 cj5 cj6 cj7 cj8 cj9
    go_loopw [5] (fun i wt=>∃ix:Nat,(ix:Int)≤x.t∧i= .int .i64 ix∧Hid ((x.tks.take ix).all (bz x.s x.t x.k x.z x.p x.l x.e x.v x.r x.n)=true)∧Hid ((x.sks.take ix).all bC.okB=true)∧Below w1.heap.size w1 wt) (fun i _=>x.t.toNat - (intOf i).toNat)
    case atStart=>exact⟨0,by omega,rfl,ab rfl,ab rfl,hbw⟩
    case round=>
     clear hbw bXr bJr zXr zJr
     obtain⟨ix,hk,rfl,HA,HR,hbt⟩:=hrel
     have bXt:=(hbt.block _ zX1).trans bX1
     have bJt:=(hbt.block _ zJ1).trans bJ1
     have zXt:=ao bXt
     have zJt:=ao bJt
     have cx12:=cA bXt 12
     have cx13:=cA bXt 13
     have cx14:=cA bXt 14
     simp only[gA,gZ,gS]at cx12 cx13 cx14
     obtain⟨cj0,cj1,cj2,cj3,cj4,cj5,cj6,cj7,cj8,cj9⟩:=Go.Proofs.YtealpjmannopeaaGreat.c10 bJt
     by_cases hlt:(ix:Int)<x.t
     ·have hlt2:decide ((ix:Int)<x.t)=true:=decide_eq_true hlt
      have hF:=(aa HF1).below hbt
      have h12:=aa E12
      have h13:=aa E13
      obtain⟨_,_,hx9⟩:=hF.tks
      obtain⟨g,o,rfl,_,hr⟩:=hx9.resolve_left (by omega)
      obtain⟨y,hy⟩:∃y,x.tks[ix]? =some y:=⟨_,List.getElem?_eq_getElem (by omega)⟩
      have hy1:=hr ix y hy
      have zg:=hy1.lt
      obtain⟨b0,n0,k0,b2,n2,k2,b5,n5,k5,b6,n6,k6,⟨e0,e1,e2,e3,e4,e5,e6⟩,p0,p2,p5,p6⟩:=hy1
      have HK:=ab (And.intro p0 (And.intro p2 (And.intro p5 p6)))
      obtain⟨_,_,hx8⟩:=hF.sks
      obtain⟨gs,os,rfl,_,hrs⟩:=hx8.resolve_left (by omega)
      obtain⟨ys,hys⟩:∃ys,x.sks[ix]? =some ys:=⟨_,List.getElem?_eq_getElem (by omega)⟩
      have hs1:=hrs ix ys hys
      have zs:=hs1.lt
      obtain⟨m0,i0,j0,m2,i2,j2,m3,i3,j3,⟨f0,f1,f2,f3⟩,r0,r2,r3⟩:=hs1
      have HL:=ab (And.intro r0 (And.intro r2 r3))
      have HY:=ab hy
      have HZ:=ab hys
      have hi12:(ix:Int)<(l12:Int):=by omega
      have hi13:(ix:Int)<(l13:Int):=by omega
      have hix:=ab (show((ix+1:Nat):Int)≤x.t by omega)
      clear hx9 hr hy hx8 hrs hys p0 p2 p5 p6 r0 r2 r3 hF h12 h13
      obtain⟨o1,ho1⟩:∃o1,bc x.s x.t x.k x.z x.p x.l x.e x.v x.r y.om y.wl y.pn ⟨y.ins,y.rows,y.ps,y.ls⟩=o1:=⟨_,rfl⟩
      have HO1:=ab ho1
      obtain⟨o2,ho2⟩:∃o2,ys.okB=o2:=⟨_,rfl⟩
      have HO2:=ab ho2
      clear ho1 ho2
      go_wp2_with fail
      cases o1 with
      |false=>
       have hE:=ab (show cv x=false by rw[aa HV2,eL (f:=bz x.s x.t x.k x.z x.p x.l x.e x.v x.r x.n) (aa HY) (by unfold bz;rw[aa HO1];rfl)];simp)
       refine wp_region_held_drew (S:=(fun W=>Below wr.heap.size wr W)) (jK) ?_ (fun hHeld=>?_)
       ·exact aj (Below.refl _ _)
       refine kT 0 ?_ ?_ ?_
       rotate_left
       ·(intro w9 hSw;(try dsimp only at hSw);have g0:=(hSw.cell (p:=⟨w.heap.size+1,0,none⟩) zJt).trans cj0;have g1:=(hSw.cell (p:=⟨w.heap.size+1,1,none⟩) zJt).trans cj1;have g2:=(hSw.cell (p:=⟨w.heap.size+1,2,none⟩) zJt).trans cj2;have g3:=(hSw.cell (p:=⟨w.heap.size+1,3,none⟩) zJt).trans cj3;have g4:=(hSw.cell (p:=⟨w.heap.size+1,4,none⟩) zJt).trans cj4;have g5:=(hSw.cell (p:=⟨w.heap.size+1,5,none⟩) zJt).trans cj5;have g6:=(hSw.cell (p:=⟨w.heap.size+1,6,none⟩) zJt).trans cj6;have g7:=(hSw.cell (p:=⟨w.heap.size+1,7,none⟩) zJt).trans cj7;have g8:=(hSw.cell (p:=⟨w.heap.size+1,8,none⟩) zJt).trans cj8;have g9:=(hSw.cell (p:=⟨w.heap.size+1,9,none⟩) zJt).trans cj9;go_simp<;>with_reducible rfl)
       try simp only[Act.put,tA,tZ,tS]
       refine kV 1 ?_
       refine kT 2 ?_ ?_ ?_
       rotate_left
       ·(intro w9 hSw;(try dsimp only at hSw);have g10:=(hSw.cell (p:=⟨w.heap.size,12,none⟩) zXt).trans cx12;go_simp<;>with_reducible rfl)
       try simp only[Act.put,tA,tZ,tS]
       refine kV 3 ?_
       refine kV 4 ?_
       refine kT 5 ?_ ?_ ?_
       rotate_left
       ·(intro w9 hSw;(try dsimp only at hSw);have g13:=(hSw.cell (p:=⟨g,o+ix*7,none⟩) zg).trans e0;have g14:=(hSw.cell (p:=⟨g,o+ix*7+1,none⟩) zg).trans e1;have g15:=(hSw.cell (p:=⟨g,o+ix*7+2,none⟩) zg).trans e2;have g16:=(hSw.cell (p:=⟨g,o+ix*7+3,none⟩) zg).trans e3;have g17:=(hSw.cell (p:=⟨g,o+ix*7+4,none⟩) zg).trans e4;have g18:=(hSw.cell (p:=⟨g,o+ix*7+5,none⟩) zg).trans e5;have g19:=(hSw.cell (p:=⟨g,o+ix*7+6,none⟩) zg).trans e6;go_simp<;>with_reducible rfl)
       try simp only[Act.put,tA,tZ,tS]
       refine rD 6 (fun K hK=>?_)
       go_simp
       (try dsimp only at hHeld)
       (go_at_call 64;refine(jw (y:=y) b0 n0 k0 b2 n2 k2 b5 n5 k5 b6 n6 k6 B _ ((aa HK).1.below hHeld) ((aa HK).2.1.below hHeld) ((aa HK).2.2.1.below hHeld) ((aa HK).2.2.2.below hHeld) HO1).mono ?_;rintro e9 wt ⟨rfl,hbwt⟩)
       (try go_wp2_with fail)
       refine hK.out _ _ (ae hHeld hbwt) (fun jB=>?_)
       clear hK K hHeld
       have hHeld:=jB
       clear jB
       (try dsimp only at hHeld)
       try simp only[Act.put,tA,tZ,tS]
       refine kV 7 ?_
       refine kV 8 ?_
       refine kU 9 ?_
       try simp only[Act.put,tA,tZ,tS]
       refine kU 10 ?_
       try simp only[Act.put,tA,tZ,tS]
       refine kU 11 ?_
       try simp only[Act.put,tA,tZ,tS]
       refine kU 12 ?_
       try simp only[Act.put,tA,tZ,tS]
       refine kU 13 ?_
       try simp only[Act.put,tA,tZ,tS]
       refine kU 14 ?_
       try simp only[Act.put,tA,tZ,tS]
       refine kU 15 ?_
       try simp only[Act.put,tA,tZ,tS]
       refine kU 16 ?_
       try simp only[Act.put,tA,tZ,tS]
       refine kU 17 ?_
       try simp only[Act.put,tA,tZ,tS]
       refine kU 18 ?_
       try simp only[Act.put,tA,tZ,tS]
       refine kV 19 ?_
       refine kV 20 ?_
       refine kU 21 ?_
       try simp only[Act.put,tA,tZ,tS]
       refine kU 22 ?_
       try simp only[Act.put,tA,tZ,tS]
       refine kU 23 ?_
       try simp only[Act.put,tA,tZ,tS]
       refine kU 24 ?_
       try simp only[Act.put,tA,tZ,tS]
       refine kU 25 ?_
       try simp only[Act.put,tA,tZ,tS]
       refine kU 26 ?_
       try simp only[Act.put,tA,tZ,tS]
       refine kU 27 ?_
       try simp only[Act.put,tA,tZ,tS]
       refine kV 28 ?_
       refine wpAnyH_done (jK) ?_ _
       go_wp2
       go_ret
       exact⟨af (aa hE).symm,ae (aa HB1) (ae hbt hHeld)⟩
      |true=>
       by_cases hq:x.n<y.wl
       ·have hE:=ab (show cv x=false by rw[aa HV2,eL (f:=bz x.s x.t x.k x.z x.p x.l x.e x.v x.r x.n) (aa HY) (by unfold bz;rw[aa HO1,decide_eq_true hq];rfl)];simp)
        have dq:decide (x.n<y.wl)=true:=decide_eq_true hq
        refine wp_region_held_drew (S:=(fun W=>Below wr.heap.size wr W)) (jK) ?_ (fun hHeld=>?_)
        ·exact aj (Below.refl _ _)
        refine kT 0 ?_ ?_ ?_
        rotate_left
        ·(intro w9 hSw;(try dsimp only at hSw);have g0:=(hSw.cell (p:=⟨w.heap.size+1,0,none⟩) zJt).trans cj0;have g1:=(hSw.cell (p:=⟨w.heap.size+1,1,none⟩) zJt).trans cj1;have g2:=(hSw.cell (p:=⟨w.heap.size+1,2,none⟩) zJt).trans cj2;have g3:=(hSw.cell (p:=⟨w.heap.size+1,3,none⟩) zJt).trans cj3;have g4:=(hSw.cell (p:=⟨w.heap.size+1,4,none⟩) zJt).trans cj4;have g5:=(hSw.cell (p:=⟨w.heap.size+1,5,none⟩) zJt).trans cj5;have g6:=(hSw.cell (p:=⟨w.heap.size+1,6,none⟩) zJt).trans cj6;have g7:=(hSw.cell (p:=⟨w.heap.size+1,7,none⟩) zJt).trans cj7;have g8:=(hSw.cell (p:=⟨w.heap.size+1,8,none⟩) zJt).trans cj8;have g9:=(hSw.cell (p:=⟨w.heap.size+1,9,none⟩) zJt).trans cj9;go_simp<;>with_reducible rfl)
        try simp only[Act.put,tA,tZ,tS]
        refine kV 1 ?_
        refine kT 2 ?_ ?_ ?_
        rotate_left
        ·(intro w9 hSw;(try dsimp only at hSw);have g10:=(hSw.cell (p:=⟨w.heap.size,12,none⟩) zXt).trans cx12;go_simp<;>with_reducible rfl)
        try simp only[Act.put,tA,tZ,tS]
        refine kV 3 ?_
        refine kV 4 ?_
        refine kT 5 ?_ ?_ ?_
        rotate_left
        ·(intro w9 hSw;(try dsimp only at hSw);have g13:=(hSw.cell (p:=⟨g,o+ix*7,none⟩) zg).trans e0;have g14:=(hSw.cell (p:=⟨g,o+ix*7+1,none⟩) zg).trans e1;have g15:=(hSw.cell (p:=⟨g,o+ix*7+2,none⟩) zg).trans e2;have g16:=(hSw.cell (p:=⟨g,o+ix*7+3,none⟩) zg).trans e3;have g17:=(hSw.cell (p:=⟨g,o+ix*7+4,none⟩) zg).trans e4;have g18:=(hSw.cell (p:=⟨g,o+ix*7+5,none⟩) zg).trans e5;have g19:=(hSw.cell (p:=⟨g,o+ix*7+6,none⟩) zg).trans e6;go_simp<;>with_reducible rfl)
        try simp only[Act.put,tA,tZ,tS]
        refine rD 6 (fun K hK=>?_)
        go_simp
        (try dsimp only at hHeld)
        (go_at_call 64;refine(jw (y:=y) b0 n0 k0 b2 n2 k2 b5 n5 k5 b6 n6 k6 B _ ((aa HK).1.below hHeld) ((aa HK).2.1.below hHeld) ((aa HK).2.2.1.below hHeld) ((aa HK).2.2.2.below hHeld) HO1).mono ?_;rintro e9 wt ⟨rfl,hbwt⟩)
        (try go_wp2_with fail)
        refine hK.out _ _ (ae hHeld hbwt) (fun jB=>?_)
        clear hK K hHeld
        have hHeld:=jB
        clear jB
        (try dsimp only at hHeld)
        try simp only[Act.put,tA,tZ,tS]
        refine kV 7 ?_
        refine kV 8 ?_
        refine kV 9 ?_
        refine kT 10 ?_ ?_ ?_
        rotate_left
        ·(intro w9 hSw;(try dsimp only at hSw);have g10:=(hSw.cell (p:=⟨w.heap.size,12,none⟩) zXt).trans cx12;go_simp<;>with_reducible rfl)
        try simp only[Act.put,tA,tZ,tS]
        refine kV 11 ?_
        refine kV 12 ?_
        refine kV 13 ?_
        refine kT 14 ?_ ?_ ?_
        rotate_left
        ·(intro w9 hSw;(try dsimp only at hSw);have g16:=(hSw.cell (p:=⟨g,o+ix*7+3,none⟩) zg).trans e3;go_simp<;>with_reducible rfl)
        try simp only[Act.put,tA,tZ,tS]
        refine kV 15 ?_
        refine kV 16 ?_
        refine kT 17 ?_ ?_ ?_
        rotate_left
        ·(intro w9 hSw;(try dsimp only at hSw);have g12:=(hSw.cell (p:=⟨w.heap.size,14,none⟩) zXt).trans cx14;go_simp<;>with_reducible rfl)
        try simp only[Act.put,tA,tZ,tS]
        refine kV 18 ?_
        refine kV 19 ?_
        refine kV 20 ?_
        refine kU 21 ?_
        try simp only[Act.put,tA,tZ,tS]
        refine kU 22 ?_
        try simp only[Act.put,tA,tZ,tS]
        refine kU 23 ?_
        try simp only[Act.put,tA,tZ,tS]
        refine kU 24 ?_
        try simp only[Act.put,tA,tZ,tS]
        refine kU 25 ?_
        try simp only[Act.put,tA,tZ,tS]
        refine kU 26 ?_
        try simp only[Act.put,tA,tZ,tS]
        refine kU 27 ?_
        try simp only[Act.put,tA,tZ,tS]
        refine kV 28 ?_
        refine wpAnyH_done (jK) ?_ _
        go_wp2
        go_ret
        exact⟨af (aa hE).symm,ae (aa HB1) (ae hbt hHeld)⟩
       ·have dq:decide (x.n<y.wl)=false:=decide_eq_false hq
        have HA2:=ab (em (f:=bz x.s x.t x.k x.z x.p x.l x.e x.v x.r x.n) (aa HA) (aa HY) (by unfold bz;rw[aa HO1,decide_eq_false hq];rfl))
        cases o2 with
        |false=>
         have hE:=ab (show cv x=false by rw[aa HV2,eL (f:=bC.okB) (aa HZ) (aa HO2)];simp)
         refine wp_region_held_drew (S:=(fun W=>Below wr.heap.size wr W)) (jK) ?_ (fun hHeld=>?_)
         ·exact aj (Below.refl _ _)
         refine kT 0 ?_ ?_ ?_
         rotate_left
         ·(intro w9 hSw;(try dsimp only at hSw);have g0:=(hSw.cell (p:=⟨w.heap.size+1,0,none⟩) zJt).trans cj0;have g1:=(hSw.cell (p:=⟨w.heap.size+1,1,none⟩) zJt).trans cj1;have g2:=(hSw.cell (p:=⟨w.heap.size+1,2,none⟩) zJt).trans cj2;have g3:=(hSw.cell (p:=⟨w.heap.size+1,3,none⟩) zJt).trans cj3;have g4:=(hSw.cell (p:=⟨w.heap.size+1,4,none⟩) zJt).trans cj4;have g5:=(hSw.cell (p:=⟨w.heap.size+1,5,none⟩) zJt).trans cj5;have g6:=(hSw.cell (p:=⟨w.heap.size+1,6,none⟩) zJt).trans cj6;have g7:=(hSw.cell (p:=⟨w.heap.size+1,7,none⟩) zJt).trans cj7;have g8:=(hSw.cell (p:=⟨w.heap.size+1,8,none⟩) zJt).trans cj8;have g9:=(hSw.cell (p:=⟨w.heap.size+1,9,none⟩) zJt).trans cj9;go_simp<;>with_reducible rfl)
         try simp only[Act.put,tA,tZ,tS]
         refine kV 1 ?_
         refine kT 2 ?_ ?_ ?_
         rotate_left
         ·(intro w9 hSw;(try dsimp only at hSw);have g10:=(hSw.cell (p:=⟨w.heap.size,12,none⟩) zXt).trans cx12;go_simp<;>with_reducible rfl)
         try simp only[Act.put,tA,tZ,tS]
         refine kV 3 ?_
         refine kV 4 ?_
         refine kT 5 ?_ ?_ ?_
         rotate_left
         ·(intro w9 hSw;(try dsimp only at hSw);have g13:=(hSw.cell (p:=⟨g,o+ix*7,none⟩) zg).trans e0;have g14:=(hSw.cell (p:=⟨g,o+ix*7+1,none⟩) zg).trans e1;have g15:=(hSw.cell (p:=⟨g,o+ix*7+2,none⟩) zg).trans e2;have g16:=(hSw.cell (p:=⟨g,o+ix*7+3,none⟩) zg).trans e3;have g17:=(hSw.cell (p:=⟨g,o+ix*7+4,none⟩) zg).trans e4;have g18:=(hSw.cell (p:=⟨g,o+ix*7+5,none⟩) zg).trans e5;have g19:=(hSw.cell (p:=⟨g,o+ix*7+6,none⟩) zg).trans e6;go_simp<;>with_reducible rfl)
         try simp only[Act.put,tA,tZ,tS]
         refine rD 6 (fun K hK=>?_)
         go_simp
         (try dsimp only at hHeld)
         (go_at_call 64;refine(jw (y:=y) b0 n0 k0 b2 n2 k2 b5 n5 k5 b6 n6 k6 B _ ((aa HK).1.below hHeld) ((aa HK).2.1.below hHeld) ((aa HK).2.2.1.below hHeld) ((aa HK).2.2.2.below hHeld) HO1).mono ?_;rintro e9 wt ⟨rfl,hbwt⟩)
         (try go_wp2_with fail)
         refine hK.out _ _ (ae hHeld hbwt) (fun jB=>?_)
         clear hK K hHeld
         have hHeld:=jB
         clear jB
         (try dsimp only at hHeld)
         try simp only[Act.put,tA,tZ,tS]
         refine kV 7 ?_
         refine kV 8 ?_
         refine kV 9 ?_
         refine kT 10 ?_ ?_ ?_
         rotate_left
         ·(intro w9 hSw;(try dsimp only at hSw);have g10:=(hSw.cell (p:=⟨w.heap.size,12,none⟩) zXt).trans cx12;go_simp<;>with_reducible rfl)
         try simp only[Act.put,tA,tZ,tS]
         refine kV 11 ?_
         refine kV 12 ?_
         refine kV 13 ?_
         refine kT 14 ?_ ?_ ?_
         rotate_left
         ·(intro w9 hSw;(try dsimp only at hSw);have g16:=(hSw.cell (p:=⟨g,o+ix*7+3,none⟩) zg).trans e3;go_simp<;>with_reducible rfl)
         try simp only[Act.put,tA,tZ,tS]
         refine kV 15 ?_
         refine kV 16 ?_
         refine kT 17 ?_ ?_ ?_
         rotate_left
         ·(intro w9 hSw;(try dsimp only at hSw);have g12:=(hSw.cell (p:=⟨w.heap.size,14,none⟩) zXt).trans cx14;go_simp<;>with_reducible rfl)
         try simp only[Act.put,tA,tZ,tS]
         refine kV 18 ?_
         refine kV 19 ?_
         refine kV 20 ?_
         refine kV 21 ?_
         refine kT 22 ?_ ?_ ?_
         rotate_left
         ·(intro w9 hSw;(try dsimp only at hSw);have g11:=(hSw.cell (p:=⟨w.heap.size,13,none⟩) zXt).trans cx13;go_simp<;>with_reducible rfl)
         try simp only[Act.put,tA,tZ,tS]
         refine kV 23 ?_
         refine kV 24 ?_
         refine kT 25 ?_ ?_ ?_
         rotate_left
         ·(intro w9 hSw;(try dsimp only at hSw);have g20:=(hSw.cell (p:=⟨gs,os+ix*4,none⟩) zs).trans f0;have g21:=(hSw.cell (p:=⟨gs,os+ix*4+1,none⟩) zs).trans f1;have g22:=(hSw.cell (p:=⟨gs,os+ix*4+2,none⟩) zs).trans f2;have g23:=(hSw.cell (p:=⟨gs,os+ix*4+3,none⟩) zs).trans f3;go_simp<;>with_reducible rfl)
         try simp only[Act.put,tA,tZ,tS]
         refine rD 26 (fun K hK=>?_)
         go_simp
         (try dsimp only at hHeld)
         (go_at_call 65;refine(sink_e (y:=ys) m0 i0 j0 m2 i2 j2 m3 i3 j3 B _ ((aa HL).1.below hHeld) ((aa HL).2.1.below hHeld) ((aa HL).2.2.below hHeld) HO2).mono ?_;rintro e9 wu ⟨rfl,hbwu⟩)
         (try go_wp2_with fail)
         refine hK.out _ _ (ae hHeld hbwu) (fun jB=>?_)
         clear hK K hHeld
         have hHeld:=jB
         clear jB
         (try dsimp only at hHeld)
         try simp only[Act.put,tA,tZ,tS]
         refine kV 27 ?_
         refine kV 28 ?_
         refine wpAnyH_done (jK) ?_ _
         go_wp2
         go_ret
         exact⟨af (aa hE).symm,ae (aa HB1) (ae hbt hHeld)⟩
        |true=>
         have HR2:=ab (em (aa HR) (aa HZ) (aa HO2))
         refine wp_region_held_drew (S:=(fun W=>Below wr.heap.size wr W)) (jK) ?_ (fun hHeld=>?_)
         ·exact aj (Below.refl _ _)
         refine kT 0 ?_ ?_ ?_
         rotate_left
         ·(intro w9 hSw;(try dsimp only at hSw);have g0:=(hSw.cell (p:=⟨w.heap.size+1,0,none⟩) zJt).trans cj0;have g1:=(hSw.cell (p:=⟨w.heap.size+1,1,none⟩) zJt).trans cj1;have g2:=(hSw.cell (p:=⟨w.heap.size+1,2,none⟩) zJt).trans cj2;have g3:=(hSw.cell (p:=⟨w.heap.size+1,3,none⟩) zJt).trans cj3;have g4:=(hSw.cell (p:=⟨w.heap.size+1,4,none⟩) zJt).trans cj4;have g5:=(hSw.cell (p:=⟨w.heap.size+1,5,none⟩) zJt).trans cj5;have g6:=(hSw.cell (p:=⟨w.heap.size+1,6,none⟩) zJt).trans cj6;have g7:=(hSw.cell (p:=⟨w.heap.size+1,7,none⟩) zJt).trans cj7;have g8:=(hSw.cell (p:=⟨w.heap.size+1,8,none⟩) zJt).trans cj8;have g9:=(hSw.cell (p:=⟨w.heap.size+1,9,none⟩) zJt).trans cj9;go_simp<;>with_reducible rfl)
         try simp only[Act.put,tA,tZ,tS]
         refine kV 1 ?_
         refine kT 2 ?_ ?_ ?_
         rotate_left
         ·(intro w9 hSw;(try dsimp only at hSw);have g10:=(hSw.cell (p:=⟨w.heap.size,12,none⟩) zXt).trans cx12;go_simp<;>with_reducible rfl)
         try simp only[Act.put,tA,tZ,tS]
         refine kV 3 ?_
         refine kV 4 ?_
         refine kT 5 ?_ ?_ ?_
         rotate_left
         ·(intro w9 hSw;(try dsimp only at hSw);have g13:=(hSw.cell (p:=⟨g,o+ix*7,none⟩) zg).trans e0;have g14:=(hSw.cell (p:=⟨g,o+ix*7+1,none⟩) zg).trans e1;have g15:=(hSw.cell (p:=⟨g,o+ix*7+2,none⟩) zg).trans e2;have g16:=(hSw.cell (p:=⟨g,o+ix*7+3,none⟩) zg).trans e3;have g17:=(hSw.cell (p:=⟨g,o+ix*7+4,none⟩) zg).trans e4;have g18:=(hSw.cell (p:=⟨g,o+ix*7+5,none⟩) zg).trans e5;have g19:=(hSw.cell (p:=⟨g,o+ix*7+6,none⟩) zg).trans e6;go_simp<;>with_reducible rfl)
         try simp only[Act.put,tA,tZ,tS]
         refine rD 6 (fun K hK=>?_)
         go_simp
         (try dsimp only at hHeld)
         (go_at_call 64;refine(jw (y:=y) b0 n0 k0 b2 n2 k2 b5 n5 k5 b6 n6 k6 B _ ((aa HK).1.below hHeld) ((aa HK).2.1.below hHeld) ((aa HK).2.2.1.below hHeld) ((aa HK).2.2.2.below hHeld) HO1).mono ?_;rintro e9 wt ⟨rfl,hbwt⟩)
         (try go_wp2_with fail)
         refine hK.out _ _ (ae hHeld hbwt) (fun jB=>?_)
         clear hK K hHeld
         have hHeld:=jB
         clear jB
         (try dsimp only at hHeld)
         try simp only[Act.put,tA,tZ,tS]
         refine kV 7 ?_
         refine kV 8 ?_
         refine kV 9 ?_
         refine kT 10 ?_ ?_ ?_
         rotate_left
         ·(intro w9 hSw;(try dsimp only at hSw);have g10:=(hSw.cell (p:=⟨w.heap.size,12,none⟩) zXt).trans cx12;go_simp<;>with_reducible rfl)
         try simp only[Act.put,tA,tZ,tS]
         refine kV 11 ?_
         refine kV 12 ?_
         refine kV 13 ?_
         refine kT 14 ?_ ?_ ?_
         rotate_left
         ·(intro w9 hSw;(try dsimp only at hSw);have g16:=(hSw.cell (p:=⟨g,o+ix*7+3,none⟩) zg).trans e3;go_simp<;>with_reducible rfl)
         try simp only[Act.put,tA,tZ,tS]
         refine kV 15 ?_
         refine kV 16 ?_
         refine kT 17 ?_ ?_ ?_
         rotate_left
         ·(intro w9 hSw;(try dsimp only at hSw);have g12:=(hSw.cell (p:=⟨w.heap.size,14,none⟩) zXt).trans cx14;go_simp<;>with_reducible rfl)
         try simp only[Act.put,tA,tZ,tS]
         refine kV 18 ?_
         refine kV 19 ?_
         refine kV 20 ?_
         refine kV 21 ?_
         refine kT 22 ?_ ?_ ?_
         rotate_left
         ·(intro w9 hSw;(try dsimp only at hSw);have g11:=(hSw.cell (p:=⟨w.heap.size,13,none⟩) zXt).trans cx13;go_simp<;>with_reducible rfl)
         try simp only[Act.put,tA,tZ,tS]
         refine kV 23 ?_
         refine kV 24 ?_
         refine kT 25 ?_ ?_ ?_
         rotate_left
         ·(intro w9 hSw;(try dsimp only at hSw);have g20:=(hSw.cell (p:=⟨gs,os+ix*4,none⟩) zs).trans f0;have g21:=(hSw.cell (p:=⟨gs,os+ix*4+1,none⟩) zs).trans f1;have g22:=(hSw.cell (p:=⟨gs,os+ix*4+2,none⟩) zs).trans f2;have g23:=(hSw.cell (p:=⟨gs,os+ix*4+3,none⟩) zs).trans f3;go_simp<;>with_reducible rfl)
         try simp only[Act.put,tA,tZ,tS]
         refine rD 26 (fun K hK=>?_)
         go_simp
         (try dsimp only at hHeld)
         (go_at_call 65;refine(sink_e (y:=ys) m0 i0 j0 m2 i2 j2 m3 i3 j3 B _ ((aa HL).1.below hHeld) ((aa HL).2.1.below hHeld) ((aa HL).2.2.below hHeld) HO2).mono ?_;rintro e9 wu ⟨rfl,hbwu⟩)
         (try go_wp2_with fail)
         refine hK.out _ _ (ae hHeld hbwu) (fun jB=>?_)
         clear hK K hHeld
         have hHeld:=jB
         clear jB
         (try dsimp only at hHeld)
         try simp only[Act.put,tA,tZ,tS]
         refine kV 27 ?_
         refine kV 28 ?_
         refine wpAnyH_done (jK) ?_ _
         go_wp2
         go_roundw
         case rel=>exact⟨ix+1,aa hix,by go_num,HA2,HR2,ae hbt hHeld⟩
         case measure=>simp[intOf];omega
     ·have hlt2:decide ((ix:Int)<x.t)=false:=decide_eq_false hlt
      have hE:=ab (show cv x=true by
       have h12:=aa E12
       have h13:=aa E13
       rw[aa HV2]
       have h8:=aa HA
       have h9:=aa HR
       rw[List.take_of_length_le (by omega)]at h8 h9
       rw[h8,h9];rfl)
      go_wp2
      go_ret
      exact⟨af (aa hE).symm,ae (aa HB1) hbt⟩
end Go.Proofs.YtealpjmannopeaaGreat
