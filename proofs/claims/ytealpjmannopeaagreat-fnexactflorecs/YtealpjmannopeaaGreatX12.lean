/- Laid together: what the claim needs of the texts that were built one by one. -/
import Derived.Test.YtealpjmannopeaaGreatX11
import Derived.Test.YtealpjmannopeaaGreatX0
set_option linter.unusedVariables false
namespace Go.Proofs.YtealpjmannopeaaGreat
open Go.ChangeShapes Go.WideShapes Go.ChangeAt Go.RowKit Go.Deep
/-- Checkpoints lie in memory. -/
structure iB(W:World)(B:Nat)(a2:Option Addr)(l2:Nat)(a3:Option Addr)(l3:Nat)(a4:Option Addr)(l4:Nat)(a6:Option Addr)(l6:Nat)(a7:Option Addr)(l7:Nat)(x:iQ):Prop where
 src:bn W B a2 l2 x.src
 tsk:dO W B a3 l3 x.tsk
 sn:bE W B a4 l4 x.sn
 at_:bn W B a6 l6 x.at_
 ssn:bE W B a7 l7 x.ssn
theorem iB.below{W W':World}{B:Nat}{a2 a3 a4 a6 a7:Option Addr}{l2 l3 l4 l6 l7:Nat}{x:iQ}(h:iB W B a2 l2 a3 l3 a4 l4 a6 l6 a7 l7 x)(hb:Below W.heap.size W W'):iB W' B a2 l2 a3 l3 a4 l4 a6 l6 a7 l7 x:=⟨h.1.below hb,h.2.below hb,h.3.below hb,h.4.below hb,h.5.below hb⟩
/-- Nothing is kept of a task. -/
def bd(y:cD):Bool:=y.ma==0&&decide (y.rows.length+y.marks.length=0)
/-- Whether a source, a task, may have told that. -/
def cM(op:Bool)(m:Int):Bool:=aP m (-1) 40&&(op||m== -1)
def eb(s t k z p l e v r:Int)(op:Bool)(q:Bool×cD):Bool:=match q.1 with
 |true=>op&&bI s t k z p l e v r q.2
 |false=>bd q.2
/-- Whether checkpoints are ok. -/
def ca(s t k z p l e v r:Int)(x:iQ):Bool:=aF s t k z p l e v r&&aP x.n x.sfn 900&& !(x.op&&x.n==x.sfn)&&decide ((x.src.length:Int)=s)&&decide ((x.tsk.length:Int)=t)&&decide ((x.sn.length:Int)=t)&&cI s t k z p l e v r ⟨x.sfn,x.at_,x.ssn⟩&&x.src.all (cM x.op)&&(x.tsk.zip x.sn).all (eb s t k z p l e v r x.op)
theorem zip_at{α β:Type}{xs:List α}{ys:List β}{i:Nat}{x:α}{y:β}(h1:xs[i]? =some x)(h2:ys[i]? =some y):(xs.zip ys)[i]? =some (x,y):=by
 rw[List.getElem?_zip_eq_some]
 exact⟨h1,h2⟩
theorem df{s t k z p l e v r:Int}{x:iQ}(h:ca s t k z p l e v r x=true):(x.src.length:Int)=s∧(x.tsk.length:Int)=t∧(x.sn.length:Int)=t∧cI s t k z p l e v r ⟨x.sfn,x.at_,x.ssn⟩=true∧x.src.all (cM x.op)=true∧(x.tsk.zip x.sn).all (eb s t k z p l e v r x.op)=true:=by
 unfold ca at h
 simp only[Bool.and_eq_true,decide_eq_true_eq]at h
 obtain⟨⟨⟨⟨⟨⟨_,h4⟩,h5⟩,h6⟩,h7⟩,h8⟩,h9⟩:=h
 exact⟨h4,h5,h6,h7,h8,h9⟩
theorem okCk_val{s t k z p l e v r:Int}{x:iQ}(h1:aF s t k z p l e v r=true)(h2:aP x.n x.sfn 900=true)(h3:(x.op&&x.n==x.sfn)=false)(h4:(x.src.length:Int)=s)(h5:(x.tsk.length:Int)=t)(h6:(x.sn.length:Int)=t)(h7:cI s t k z p l e v r ⟨x.sfn,x.at_,x.ssn⟩=true):ca s t k z p l e v r x=(x.src.all (cM x.op)&&(x.tsk.zip x.sn).all (eb s t k z p l e v r x.op)):=by
 unfold ca
 rw[h1,h2,h3,decide_eq_true h4,decide_eq_true h5,decide_eq_true h6,h7]
 rfl
theorem ay{b0 b1 b2 b3 a0 a1 a2 a3 a4 a5 a6 a7 a8 a9 c0 c1 c2 c3 c4 c5 c6 c7 e0 g0 g1 g2:Nat}{k0 k1 k2 k3 k4 k5 k6 k7 k8 k9 l0 l1 l2 l3 l4 l5 l6 l7 m0 n0 n1 n2:Value}{W W':World}(h:((W.cell? ⟨b0,a0,none⟩=some k0∧W.cell? ⟨b0,a1,none⟩=some k1∧W.cell? ⟨b0,a2,none⟩=some k2∧W.cell? ⟨b0,a3,none⟩=some k3∧W.cell? ⟨b0,a4,none⟩=some k4∧W.cell? ⟨b0,a5,none⟩=some k5∧W.cell? ⟨b0,a6,none⟩=some k6∧W.cell? ⟨b0,a7,none⟩=some k7∧W.cell? ⟨b0,a8,none⟩=some k8∧W.cell? ⟨b0,a9,none⟩=some k9∧W.cell? ⟨b1,c0,none⟩=some l0∧W.cell? ⟨b1,c1,none⟩=some l1∧W.cell? ⟨b1,c2,none⟩=some l2∧W.cell? ⟨b1,c3,none⟩=some l3∧W.cell? ⟨b1,c4,none⟩=some l4∧W.cell? ⟨b1,c5,none⟩=some l5∧W.cell? ⟨b1,c6,none⟩=some l6∧W.cell? ⟨b1,c7,none⟩=some l7∧W.cell? ⟨b2,e0,none⟩=some m0∧W.cell? ⟨b3,g0,none⟩=some n0∧W.cell? ⟨b3,g1,none⟩=some n1∧W.cell? ⟨b3,g2,none⟩=some n2)∧b0<W.heap.size∧b1<W.heap.size∧b2<W.heap.size∧b3<W.heap.size))(hb:Below W.heap.size W W'):((W'.cell? ⟨b0,a0,none⟩=some k0∧W'.cell? ⟨b0,a1,none⟩=some k1∧W'.cell? ⟨b0,a2,none⟩=some k2∧W'.cell? ⟨b0,a3,none⟩=some k3∧W'.cell? ⟨b0,a4,none⟩=some k4∧W'.cell? ⟨b0,a5,none⟩=some k5∧W'.cell? ⟨b0,a6,none⟩=some k6∧W'.cell? ⟨b0,a7,none⟩=some k7∧W'.cell? ⟨b0,a8,none⟩=some k8∧W'.cell? ⟨b0,a9,none⟩=some k9∧W'.cell? ⟨b1,c0,none⟩=some l0∧W'.cell? ⟨b1,c1,none⟩=some l1∧W'.cell? ⟨b1,c2,none⟩=some l2∧W'.cell? ⟨b1,c3,none⟩=some l3∧W'.cell? ⟨b1,c4,none⟩=some l4∧W'.cell? ⟨b1,c5,none⟩=some l5∧W'.cell? ⟨b1,c6,none⟩=some l6∧W'.cell? ⟨b1,c7,none⟩=some l7∧W'.cell? ⟨b2,e0,none⟩=some m0∧W'.cell? ⟨b3,g0,none⟩=some n0∧W'.cell? ⟨b3,g1,none⟩=some n1∧W'.cell? ⟨b3,g2,none⟩=some n2)∧b0<W'.heap.size∧b1<W'.heap.size∧b2<W'.heap.size∧b3<W'.heap.size):=by
 obtain⟨h99,s0,s1,s2,s3⟩:=h
 have e0:∀z,W'.cell? ⟨b0,z,none⟩=W.cell? ⟨b0,z,none⟩:=fun z=>hb.cell s0
 have e1:∀z,W'.cell? ⟨b1,z,none⟩=W.cell? ⟨b1,z,none⟩:=fun z=>hb.cell s1
 have e2:∀z,W'.cell? ⟨b2,z,none⟩=W.cell? ⟨b2,z,none⟩:=fun z=>hb.cell s2
 have e3:∀z,W'.cell? ⟨b3,z,none⟩=W.cell? ⟨b3,z,none⟩:=fun z=>hb.cell s3
 refine⟨?_,Nat.lt_of_lt_of_le s0 hb.size,Nat.lt_of_lt_of_le s1 hb.size,Nat.lt_of_lt_of_le s2 hb.size,Nat.lt_of_lt_of_le s3 hb.size⟩
 simp only[e0,e1,e2,e3]
 exact h99
set_option linter.unusedSimpArgs false in
set_option maxRecDepth 20000 in
set_option maxHeartbeats 8000000 in
theorem specckpok_f(s t k z p l e:Int)(b:Bool)(v r:Int)(xn:Int)(xsrc:List Int)(xtsk:List Bool)(xsn:List cD)(xsfn:Int)(xat:List Int)(xssn:List cD)(a2:Option Addr)(l2 c2:Nat)(a3:Option Addr)(l3 c3:Nat)(a4:Option Addr)(l4 c4:Nat)(a6:Option Addr)(l6 c6:Nat)(a7:Option Addr)(l7 c7:Nat)(B:Nat)(w:World)(h:iB w B a2 l2 a3 l3 a4 l4 a6 l6 a7 l7 ⟨xn,false,xsrc,xtsk,xsn,xsfn,xat,xssn⟩)(hsm:∀y ∈ xsn,y.sm)(hj:aF s t k z p l e v r=true)(hi:aP xn xsfn 900=true)(hq:(false&&xn==xsfn)=false):Calls Tryz.prog 61 #[.agg #[.int .i64 s,.int .i64 t,.int .i64 k,.int .i64 z,.int .i64 p,.int .i64 l,.int .i64 e,.bool b,.int .i64 v,.int .i64 r],.agg #[.int .i64 xn,.bool false,.slice a2 l2 c2,.slice a3 l3 c3,.slice a4 l4 c4,.int .i64 xsfn,.slice a6 l6 c6,.slice a7 l7 c7]] w fun e' w'=>e'= .returned (.bool (ca s t k z p l e v r ⟨xn,false,xsrc,xtsk,xsn,xsfn,xat,xssn⟩))∧Below w.heap.size w w':=by
 have le2:=h.src.len.1
 have hm2:=h.src.len.2
 have le3:=h.tsk.len.1
 have hm3:=h.tsk.len.2
 have le4:=h.sn.len.1
 have hm4:=h.sn.len.2
 unfold maxLen at hm2 hm3 hm4
 dsimp only at*
 by_cases hl:(l2:Int)=s
 rotate_left
 ·skip
  have hl1:((l2:Int)==s)=false:=beq_eq_false_iff_ne.2 hl
  have hl2:((l2:Int) != s)=true:=by simp[hl]
  have HE:Hid (ca s t k z p l e v r ⟨xn,false,xsrc,xtsk,xsn,xsfn,xat,xssn⟩=false):=ab (Bool.eq_false_iff.2 (fun hc=>hl (by rw[←le2];exact(df hc).1)))
  go_enter Tryz.func61,Tryz.ntmps61
  go_wp2_with (first
   |(go_at_call 104;refine(aJ _ _ _ _ _ _ _ _ _ _ _).mono ?_;rw[hj];rintro e' w1 ⟨rfl,hb1⟩;obtain⟨hc1,hf1,hs1⟩:=ac hb1;have hz10:w.heap.size<w1.heap.size:=(by have h9:=hb1.size;(try simp at h9);omega);have hz11:w.heap.size+1<w1.heap.size:=(by have h9:=hb1.size;(try simp at h9);omega))
   |(go_at_call 63;refine(al _ _ _ _).mono ?_;rw[hi];rintro e' w5 ⟨rfl,hw⟩;obtain rfl:=hw.symm;clear hw))
  go_ret
  exact⟨af (aa HE).symm,(ak)⟩
 subst hl
 by_cases ht:(l3:Int)=t
 rotate_left
 ·skip
  have ht1:((l3:Int)==t)=false:=beq_eq_false_iff_ne.2 ht
  have ht2:((l3:Int) != t)=true:=by simp[ht]
  have HE:Hid (ca (l2:Int) t k z p l e v r ⟨xn,false,xsrc,xtsk,xsn,xsfn,xat,xssn⟩=false):=ab (Bool.eq_false_iff.2 (fun hc=>ht (by rw[←le3];exact(df hc).2.1)))
  go_enter Tryz.func61,Tryz.ntmps61
  go_wp2_with (first
   |(go_at_call 104;refine(aJ _ _ _ _ _ _ _ _ _ _ _).mono ?_;rw[hj];rintro e' w1 ⟨rfl,hb1⟩;obtain⟨hc1,hf1,hs1⟩:=ac hb1;have hz10:w.heap.size<w1.heap.size:=(by have h9:=hb1.size;(try simp at h9);omega);have hz11:w.heap.size+1<w1.heap.size:=(by have h9:=hb1.size;(try simp at h9);omega))
   |(go_at_call 63;refine(al _ _ _ _).mono ?_;rw[hi];rintro e' w5 ⟨rfl,hw⟩;obtain rfl:=hw.symm;clear hw))
  go_ret
  exact⟨af (aa HE).symm,(ak)⟩
 subst ht
 by_cases hu:(l4:Int)=(l3:Int)
 rotate_left
 ·skip
  have hu1:((l4:Int)==(l3:Int))=false:=beq_eq_false_iff_ne.2 hu
  have hu2:((l4:Int) != (l3:Int))=true:=by simp[hu]
  have HE:Hid (ca (l2:Int) (l3:Int) k z p l e v r ⟨xn,false,xsrc,xtsk,xsn,xsfn,xat,xssn⟩=false):=ab (Bool.eq_false_iff.2 (fun hc=>hu (by rw[←le4];exact(df hc).2.2.1)))
  go_enter Tryz.func61,Tryz.ntmps61
  go_wp2_with (first
   |(go_at_call 104;refine(aJ _ _ _ _ _ _ _ _ _ _ _).mono ?_;rw[hj];rintro e' w1 ⟨rfl,hb1⟩;obtain⟨hc1,hf1,hs1⟩:=ac hb1;have hz10:w.heap.size<w1.heap.size:=(by have h9:=hb1.size;(try simp at h9);omega);have hz11:w.heap.size+1<w1.heap.size:=(by have h9:=hb1.size;(try simp at h9);omega))
   |(go_at_call 63;refine(al _ _ _ _).mono ?_;rw[hi];rintro e' w5 ⟨rfl,hw⟩;obtain rfl:=hw.symm;clear hw))
  go_ret
  exact⟨af (aa HE).symm,(ak)⟩
 obtain rfl:l3=l4:=by omega
 clear hu
 cases hs:cI (l2:Int) (l3:Int) k z p l e v r ⟨xsfn,xat,xssn⟩
 ·skip
  have HE:Hid (ca (l2:Int) (l3:Int) k z p l e v r ⟨xn,false,xsrc,xtsk,xsn,xsfn,xat,xssn⟩=false):=ab (Bool.eq_false_iff.2 (fun hc=>by have h9:=(df hc).2.2.2.1;rw[hs]at h9;cases h9))
  go_enter Tryz.func61,Tryz.ntmps61
  go_wp2_with (first
   |(go_at_call 104;refine(aJ _ _ _ _ _ _ _ _ _ _ _).mono ?_;rw[hj];rintro e' w1 ⟨rfl,hb1⟩;obtain⟨hc1,hf1,hs1⟩:=ac hb1;have hz10:w.heap.size<w1.heap.size:=(by have h9:=hb1.size;(try simp at h9);omega);have hz11:w.heap.size+1<w1.heap.size:=(by have h9:=hb1.size;(try simp at h9);omega))
   |(go_at_call 63;refine(al _ _ _ _).mono ?_;rw[hi];rintro e' w5 ⟨rfl,hw⟩;obtain rfl:=hw.symm;clear hw)
   |(go_at_call 105;refine(eK (l2:Int) (l3:Int) k z p l e b v r ⟨xsfn,xat,xssn⟩ a6 l6 c6 a7 l7 c7 B _ (h.at_.below (ak)) (h.ssn.below (ak))).mono ?_;rw[hs];rintro e' w2 ⟨rfl,hb2⟩;obtain⟨hc2,hf2,hs2⟩:=ac hb2;have hz20:w.heap.size<w2.heap.size:=(by have h9:=hb2.size;(try simp at h9);omega);have hz21:w.heap.size+1<w2.heap.size:=(by have h9:=hb2.size;(try simp at h9);omega)))
  go_ret
  exact⟨af (aa HE).symm,(ak)⟩
 have HV:Hid (ca (l2:Int) (l3:Int) k z p l e v r ⟨xn,false,xsrc,xtsk,xsn,xsfn,xat,xssn⟩=(xsrc.all (cM false)&&(xtsk.zip xsn).all (eb (l2:Int) (l3:Int) k z p l e v r false))):=ab (okCk_val hj hi hq (by rw[le2]) (by rw[le3]) (by rw[le4]) hs)
 go_enter Tryz.func61,Tryz.ntmps61
 go_wp2_with (first
   |(go_at_call 104;refine(aJ _ _ _ _ _ _ _ _ _ _ _).mono ?_;rw[hj];rintro e' w1 ⟨rfl,hb1⟩;obtain⟨hc1,hf1,hs1⟩:=ac hb1;have hz10:w.heap.size<w1.heap.size:=(by have h9:=hb1.size;(try simp at h9);omega);have hz11:w.heap.size+1<w1.heap.size:=(by have h9:=hb1.size;(try simp at h9);omega))
   |(go_at_call 63;refine(al _ _ _ _).mono ?_;rw[hi];rintro e' w5 ⟨rfl,hw⟩;obtain rfl:=hw.symm;clear hw)
   |(go_at_call 105;refine(eK (l2:Int) (l3:Int) k z p l e b v r ⟨xsfn,xat,xssn⟩ a6 l6 c6 a7 l7 c7 B _ (h.at_.below (ak)) (h.ssn.below (ak))).mono ?_;rw[hs];rintro e' w2 ⟨rfl,hb2⟩;obtain⟨hc2,hf2,hs2⟩:=ac hb2;have hz20:w.heap.size<w2.heap.size:=(by have h9:=hb2.size;(try simp at h9);omega);have hz21:w.heap.size+1<w2.heap.size:=(by have h9:=hb2.size;(try simp at h9);omega)))
 have hQ:Below ((w.alloc (.cells #[.int .i64 (l2:Int),.int .i64 (l3:Int),.int .i64 k,.int .i64 z,.int .i64 p,.int .i64 l,.int .i64 e,.bool b,.int .i64 v,.int .i64 r] 40)).alloc (.cells #[.int .i64 xn,.bool false,.slice a2 l2 c2,.slice a3 l3 c3,.slice a4 l3 c4,.int .i64 xsfn,.slice a6 l6 c6,.slice a7 l7 c7] 49)).heap.size ((w.alloc (.cells #[.int .i64 (l2:Int),.int .i64 (l3:Int),.int .i64 k,.int .i64 z,.int .i64 p,.int .i64 l,.int .i64 e,.bool b,.int .i64 v,.int .i64 r] 40)).alloc (.cells #[.int .i64 xn,.bool false,.slice a2 l2 c2,.slice a3 l3 c3,.slice a4 l3 c4,.int .i64 xsfn,.slice a6 l6 c6,.slice a7 l7 c7] 49)) w2:=ae hb1 hb2
 have hW:Below w.heap.size w w2:=ae (aB (ai _ _) _) hQ
 have H2:=h.src.1.below hW
 have H3:=h.tsk.1.below hW
 have H4:=h.sn.below hW
 have jb0:w2.cell? ⟨w.heap.size,0,none⟩=some (.int .i64 (l2:Int)):=(hQ.cell (p:=⟨w.heap.size,0,none⟩) (jH)).trans (jI)
 have jb1:w2.cell? ⟨w.heap.size,1,none⟩=some (.int .i64 (l3:Int)):=(hQ.cell (p:=⟨w.heap.size,1,none⟩) (jH)).trans (jI)
 have jb2:w2.cell? ⟨w.heap.size,2,none⟩=some (.int .i64 k):=(hQ.cell (p:=⟨w.heap.size,2,none⟩) (jH)).trans (jI)
 have jb3:w2.cell? ⟨w.heap.size,3,none⟩=some (.int .i64 z):=(hQ.cell (p:=⟨w.heap.size,3,none⟩) (jH)).trans (jI)
 have jb4:w2.cell? ⟨w.heap.size,4,none⟩=some (.int .i64 p):=(hQ.cell (p:=⟨w.heap.size,4,none⟩) (jH)).trans (jI)
 have jb5:w2.cell? ⟨w.heap.size,5,none⟩=some (.int .i64 l):=(hQ.cell (p:=⟨w.heap.size,5,none⟩) (jH)).trans (jI)
 have jb6:w2.cell? ⟨w.heap.size,6,none⟩=some (.int .i64 e):=(hQ.cell (p:=⟨w.heap.size,6,none⟩) (jH)).trans (jI)
 have jb7:w2.cell? ⟨w.heap.size,7,none⟩=some (.bool b):=(hQ.cell (p:=⟨w.heap.size,7,none⟩) (jH)).trans (jI)
 have jb8:w2.cell? ⟨w.heap.size,8,none⟩=some (.int .i64 v):=(hQ.cell (p:=⟨w.heap.size,8,none⟩) (jH)).trans (jI)
 have jb9:w2.cell? ⟨w.heap.size,9,none⟩=some (.int .i64 r):=(hQ.cell (p:=⟨w.heap.size,9,none⟩) (jH)).trans (jI)
 have kb0:w2.cell? ⟨w.heap.size+1,0,none⟩=some (.int .i64 xn):=(hQ.cell (p:=⟨w.heap.size+1,0,none⟩) (jH)).trans (jI)
 have kb1:w2.cell? ⟨w.heap.size+1,1,none⟩=some (.bool false):=(hQ.cell (p:=⟨w.heap.size+1,1,none⟩) (jH)).trans (jI)
 have kb2:w2.cell? ⟨w.heap.size+1,2,none⟩=some (.slice a2 l2 c2):=(hQ.cell (p:=⟨w.heap.size+1,2,none⟩) (jH)).trans (jI)
 have kb3:w2.cell? ⟨w.heap.size+1,3,none⟩=some (.slice a3 l3 c3):=(hQ.cell (p:=⟨w.heap.size+1,3,none⟩) (jH)).trans (jI)
 have kb4:w2.cell? ⟨w.heap.size+1,4,none⟩=some (.slice a4 l3 c4):=(hQ.cell (p:=⟨w.heap.size+1,4,none⟩) (jH)).trans (jI)
 have kb5:w2.cell? ⟨w.heap.size+1,5,none⟩=some (.int .i64 xsfn):=(hQ.cell (p:=⟨w.heap.size+1,5,none⟩) (jH)).trans (jI)
 have kb6:w2.cell? ⟨w.heap.size+1,6,none⟩=some (.slice a6 l6 c6):=(hQ.cell (p:=⟨w.heap.size+1,6,none⟩) (jH)).trans (jI)
 have kb7:w2.cell? ⟨w.heap.size+1,7,none⟩=some (.slice a7 l7 c7):=(hQ.cell (p:=⟨w.heap.size+1,7,none⟩) (jH)).trans (jI)
 clear hc1 hf1 hs1 hb1 hc2 hf2 hs2 hb2 hQ hz10 hz11 hj hi hs hq
 go_loopw [5] (fun i wr=>∃ix:Nat,ix≤l2∧i= .int .i64 ix∧Hid ((xsrc.take ix).all (cM false)=true)∧Below w2.heap.size w2 wr) (fun i _=>l2 - (intOf i).toNat)
 case atStart=>exact⟨0,Nat.zero_le _,rfl,ab (by simp),Below.refl _ _⟩
 case round=>
  obtain⟨ix,hk,rfl,hA,hbw⟩:=hrel
  have tb0:wr.cell? ⟨w.heap.size+1,0,none⟩=some (.int .i64 xn):=(hbw.cell (p:=⟨w.heap.size+1,0,none⟩) (jH)).trans kb0
  have tb1:wr.cell? ⟨w.heap.size+1,1,none⟩=some (.bool false):=(hbw.cell (p:=⟨w.heap.size+1,1,none⟩) (jH)).trans kb1
  have tb2:wr.cell? ⟨w.heap.size+1,2,none⟩=some (.slice a2 l2 c2):=(hbw.cell (p:=⟨w.heap.size+1,2,none⟩) (jH)).trans kb2
  have tb3:wr.cell? ⟨w.heap.size+1,3,none⟩=some (.slice a3 l3 c3):=(hbw.cell (p:=⟨w.heap.size+1,3,none⟩) (jH)).trans kb3
  have tb4:wr.cell? ⟨w.heap.size+1,4,none⟩=some (.slice a4 l3 c4):=(hbw.cell (p:=⟨w.heap.size+1,4,none⟩) (jH)).trans kb4
  have tb5:wr.cell? ⟨w.heap.size+1,5,none⟩=some (.int .i64 xsfn):=(hbw.cell (p:=⟨w.heap.size+1,5,none⟩) (jH)).trans kb5
  have tb6:wr.cell? ⟨w.heap.size+1,6,none⟩=some (.slice a6 l6 c6):=(hbw.cell (p:=⟨w.heap.size+1,6,none⟩) (jH)).trans kb6
  have tb7:wr.cell? ⟨w.heap.size+1,7,none⟩=some (.slice a7 l7 c7):=(hbw.cell (p:=⟨w.heap.size+1,7,none⟩) (jH)).trans kb7
  by_cases hlt:ix<l2
  ·obtain⟨hxl,_,hx⟩:=H2
   obtain⟨g,o,rfl,hrr⟩:=hx.resolve_left (by omega)
   obtain⟨y,hyk⟩:∃y,xsrc[ix]? =some y:=⟨_,List.getElem?_eq_getElem (by omega)⟩
   have hg:=hrr.lt (by omega)
   have hX:=ab hyk
   have d0:=(hbw.cell (p:=⟨g,o+ix,none⟩) hg).trans (hrr ix _ hyk)
   clear hx hyk hrr
   cases hB:aP y (-1) 40
   ·have HE:Hid (xsrc.all (cM false)=false):=ab (all_ff (aa hX) (by unfold cM;rw[hB];rfl))
    go_wp2_with (go_at_call 63;refine(al _ _ _ _).mono ?_;rw[hB];rintro e' w5 ⟨rfl,hw⟩;obtain rfl:=hw.symm;clear hw)
    go_ret
    exact⟨af (by rw[aa HV,aa HE];rfl),(ak)⟩
   ·by_cases hm:y= -1
    ·subst hm
     have HE:Hid ((xsrc.take (ix+1)).all (cM false)=true):=ab (all_tt (aa hA) (aa hX) (by decide))
     go_wp2_with (go_at_call 63;refine(al _ _ _ _).mono ?_;rw[hB];rintro e' w5 ⟨rfl,hw⟩;obtain rfl:=hw.symm;clear hw)
     go_roundw
     case rel=>exact⟨ix+1,by omega,by go_num,HE,(ak)⟩
     case measure=>simp[intOf];omega
    ·have hm1:(y== -1)=false:=beq_eq_false_iff_ne.2 hm
     have hm2:(y != -1)=true:=by simp[hm]
     have HE:Hid (xsrc.all (cM false)=false):=ab (all_ff (aa hX) (by unfold cM;rw[hB,hm1];rfl))
     go_wp2_with (go_at_call 63;refine(al _ _ _ _).mono ?_;rw[hB];rintro e' w5 ⟨rfl,hw⟩;obtain rfl:=hw.symm;clear hw)
     go_ret
     exact⟨af (by rw[aa HV,aa HE];rfl),(ak)⟩
  ·have HV2:Hid (ca (l2:Int) (l3:Int) k z p l e v r ⟨xn,false,xsrc,xtsk,xsn,xsfn,xat,xssn⟩=(xtsk.zip xsn).all (eb (l2:Int) (l3:Int) k z p l e v r false)):=ab (by rw[aa HV,cu (aa hA) (by omega)];rfl)
   clear HV hA
   obtain⟨wz,hwz⟩:∃wz,wz=wr:=⟨_,rfl⟩
   subst hwz
   have K3:=H3.below hbw
   have K4:=H4.below hbw
   have hWz:Below w.heap.size w wz:=(ak)
   have jz0:wz.cell? ⟨w.heap.size,0,none⟩=some (.int .i64 (l2:Int)):=(hbw.cell (p:=⟨w.heap.size,0,none⟩) (jH)).trans jb0
   have jz1:wz.cell? ⟨w.heap.size,1,none⟩=some (.int .i64 (l3:Int)):=(hbw.cell (p:=⟨w.heap.size,1,none⟩) (jH)).trans jb1
   have jz2:wz.cell? ⟨w.heap.size,2,none⟩=some (.int .i64 k):=(hbw.cell (p:=⟨w.heap.size,2,none⟩) (jH)).trans jb2
   have jz3:wz.cell? ⟨w.heap.size,3,none⟩=some (.int .i64 z):=(hbw.cell (p:=⟨w.heap.size,3,none⟩) (jH)).trans jb3
   have jz4:wz.cell? ⟨w.heap.size,4,none⟩=some (.int .i64 p):=(hbw.cell (p:=⟨w.heap.size,4,none⟩) (jH)).trans jb4
   have jz5:wz.cell? ⟨w.heap.size,5,none⟩=some (.int .i64 l):=(hbw.cell (p:=⟨w.heap.size,5,none⟩) (jH)).trans jb5
   have jz6:wz.cell? ⟨w.heap.size,6,none⟩=some (.int .i64 e):=(hbw.cell (p:=⟨w.heap.size,6,none⟩) (jH)).trans jb6
   have jz7:wz.cell? ⟨w.heap.size,7,none⟩=some (.bool b):=(hbw.cell (p:=⟨w.heap.size,7,none⟩) (jH)).trans jb7
   have jz8:wz.cell? ⟨w.heap.size,8,none⟩=some (.int .i64 v):=(hbw.cell (p:=⟨w.heap.size,8,none⟩) (jH)).trans jb8
   have jz9:wz.cell? ⟨w.heap.size,9,none⟩=some (.int .i64 r):=(hbw.cell (p:=⟨w.heap.size,9,none⟩) (jH)).trans jb9
   have hzz:w.heap.size+1<wz.heap.size:=by have h9:=hbw.size;omega
   go_wp2
   go_loopw [6] (fun i wr=>∃ix:Nat,ix≤l3∧i= .int .i64 ix∧Hid (((xtsk.zip xsn).take ix).all (eb (l2:Int) (l3:Int) k z p l e v r false)=true)∧Below wz.heap.size wz wr) (fun i _=>l3 - (intOf i).toNat)
   case atStart=>exact⟨0,Nat.zero_le _,rfl,ab (by simp),Below.refl _ _⟩
   case round=>
    obtain⟨ix,hk,rfl,hA,hbq⟩:=hrel
    have jc0:wr.cell? ⟨w.heap.size,0,none⟩=some (.int .i64 (l2:Int)):=(hbq.cell (p:=⟨w.heap.size,0,none⟩) (jH)).trans jz0
    have jc1:wr.cell? ⟨w.heap.size,1,none⟩=some (.int .i64 (l3:Int)):=(hbq.cell (p:=⟨w.heap.size,1,none⟩) (jH)).trans jz1
    have jc2:wr.cell? ⟨w.heap.size,2,none⟩=some (.int .i64 k):=(hbq.cell (p:=⟨w.heap.size,2,none⟩) (jH)).trans jz2
    have jc3:wr.cell? ⟨w.heap.size,3,none⟩=some (.int .i64 z):=(hbq.cell (p:=⟨w.heap.size,3,none⟩) (jH)).trans jz3
    have jc4:wr.cell? ⟨w.heap.size,4,none⟩=some (.int .i64 p):=(hbq.cell (p:=⟨w.heap.size,4,none⟩) (jH)).trans jz4
    have jc5:wr.cell? ⟨w.heap.size,5,none⟩=some (.int .i64 l):=(hbq.cell (p:=⟨w.heap.size,5,none⟩) (jH)).trans jz5
    have jc6:wr.cell? ⟨w.heap.size,6,none⟩=some (.int .i64 e):=(hbq.cell (p:=⟨w.heap.size,6,none⟩) (jH)).trans jz6
    have jc7:wr.cell? ⟨w.heap.size,7,none⟩=some (.bool b):=(hbq.cell (p:=⟨w.heap.size,7,none⟩) (jH)).trans jz7
    have jc8:wr.cell? ⟨w.heap.size,8,none⟩=some (.int .i64 v):=(hbq.cell (p:=⟨w.heap.size,8,none⟩) (jH)).trans jz8
    have jc9:wr.cell? ⟨w.heap.size,9,none⟩=some (.int .i64 r):=(hbq.cell (p:=⟨w.heap.size,9,none⟩) (jH)).trans jz9
    have tc0:wr.cell? ⟨w.heap.size+1,0,none⟩=some (.int .i64 xn):=(hbq.cell (p:=⟨w.heap.size+1,0,none⟩) (jH)).trans tb0
    have tc1:wr.cell? ⟨w.heap.size+1,1,none⟩=some (.bool false):=(hbq.cell (p:=⟨w.heap.size+1,1,none⟩) (jH)).trans tb1
    have tc2:wr.cell? ⟨w.heap.size+1,2,none⟩=some (.slice a2 l2 c2):=(hbq.cell (p:=⟨w.heap.size+1,2,none⟩) (jH)).trans tb2
    have tc3:wr.cell? ⟨w.heap.size+1,3,none⟩=some (.slice a3 l3 c3):=(hbq.cell (p:=⟨w.heap.size+1,3,none⟩) (jH)).trans tb3
    have tc4:wr.cell? ⟨w.heap.size+1,4,none⟩=some (.slice a4 l3 c4):=(hbq.cell (p:=⟨w.heap.size+1,4,none⟩) (jH)).trans tb4
    have tc5:wr.cell? ⟨w.heap.size+1,5,none⟩=some (.int .i64 xsfn):=(hbq.cell (p:=⟨w.heap.size+1,5,none⟩) (jH)).trans tb5
    have tc6:wr.cell? ⟨w.heap.size+1,6,none⟩=some (.slice a6 l6 c6):=(hbq.cell (p:=⟨w.heap.size+1,6,none⟩) (jH)).trans tb6
    have tc7:wr.cell? ⟨w.heap.size+1,7,none⟩=some (.slice a7 l7 c7):=(hbq.cell (p:=⟨w.heap.size+1,7,none⟩) (jH)).trans tb7
    have hz2:w.heap.size+1<wr.heap.size:=by have h9:=hbq.size;omega
    by_cases hlt:ix<l3
    ·obtain⟨hxl,_,hx⟩:=K3
     obtain⟨g,o,rfl,hrr⟩:=hx.resolve_left (by omega)
     obtain⟨hxl4,_,hx4⟩:=K4
     obtain⟨g2,o2,rfl,_,hrr4⟩:=hx4.resolve_left (by omega)
     obtain⟨qb,hqk⟩:∃y,xtsk[ix]? =some y:=⟨_,List.getElem?_eq_getElem (by omega)⟩
     obtain⟨y,hyk⟩:∃y,xsn[ix]? =some y:=⟨_,List.getElem?_eq_getElem (by omega)⟩
     have hltI:(ix:Int)<(l3:Int):=by omega
     have hg:g<wr.heap.size:=Nat.lt_of_lt_of_le (hrr.lt (by omega)) hbq.size
     have dq:=(hbq.cell (p:=⟨g,o+ix,none⟩) (hrr.lt (by omega))).trans (hrr ix _ hqk)
     have t1:=(hrr4 ix _ hyk).below hbq
     have hg2:=t1.lt
     have hX:=ab (zip_at hqk hyk)
     obtain⟨sy1,sy2⟩:=hsm y (List.mem_of_getElem? hyk)
     obtain⟨qa1,ql1,qc1,qa2,ql2,qc2,⟨d0,d1,d2⟩,k1,k2⟩:=t1
     have ky1:=k1.len
     have ky2:=k2.len
     unfold maxLen at ky1 ky2
     clear hx hyk hrr hx4 hqk hrr4
     have hS:((wr.cell? ⟨w.heap.size,0,none⟩=some (.int .i64 (l2:Int))∧wr.cell? ⟨w.heap.size,1,none⟩=some (.int .i64 (l3:Int))∧wr.cell? ⟨w.heap.size,2,none⟩=some (.int .i64 k)∧wr.cell? ⟨w.heap.size,3,none⟩=some (.int .i64 z)∧wr.cell? ⟨w.heap.size,4,none⟩=some (.int .i64 p)∧wr.cell? ⟨w.heap.size,5,none⟩=some (.int .i64 l)∧wr.cell? ⟨w.heap.size,6,none⟩=some (.int .i64 e)∧wr.cell? ⟨w.heap.size,7,none⟩=some (.bool b)∧wr.cell? ⟨w.heap.size,8,none⟩=some (.int .i64 v)∧wr.cell? ⟨w.heap.size,9,none⟩=some (.int .i64 r)∧wr.cell? ⟨w.heap.size+1,0,none⟩=some (.int .i64 xn)∧wr.cell? ⟨w.heap.size+1,1,none⟩=some (.bool false)∧wr.cell? ⟨w.heap.size+1,2,none⟩=some (.slice a2 l2 c2)∧wr.cell? ⟨w.heap.size+1,3,none⟩=some (.slice (some ⟨g,o,none⟩) l3 c3)∧wr.cell? ⟨w.heap.size+1,4,none⟩=some (.slice (some ⟨g2,o2,none⟩) l3 c4)∧wr.cell? ⟨w.heap.size+1,5,none⟩=some (.int .i64 xsfn)∧wr.cell? ⟨w.heap.size+1,6,none⟩=some (.slice a6 l6 c6)∧wr.cell? ⟨w.heap.size+1,7,none⟩=some (.slice a7 l7 c7)∧wr.cell? ⟨g,o+ix,none⟩=some (.bool qb)∧wr.cell? ⟨g2,o2+ix*3,none⟩=some (.int .i64 y.ma)∧wr.cell? ⟨g2,o2+ix*3+1,none⟩=some (.slice qa1 ql1 qc1)∧wr.cell? ⟨g2,o2+ix*3+2,none⟩=some (.slice qa2 ql2 qc2))∧w.heap.size<wr.heap.size∧w.heap.size+1<wr.heap.size∧g<wr.heap.size∧g2<wr.heap.size):=⟨⟨jc0,jc1,jc2,jc3,jc4,jc5,jc6,jc7,jc8,jc9,tc0,tc1,tc2,tc3,tc4,tc5,tc6,tc7,dq,d0,d1,d2⟩,by omega,by omega,hg,hg2⟩
     clear jc0 jc1 jc2 jc3 jc4 jc5 jc6 jc7 jc8 jc9 tc0 tc1 tc2 tc3 tc4 tc5 tc6 tc7 dq d0 d1 d2
     cases qb
     ·by_cases hm:y.ma=0
      rotate_left
      ·have hm1:(y.ma==0)=false:=beq_eq_false_iff_ne.2 hm
       have hm2:(y.ma != 0)=true:=by simp[hm]
       have HE:Hid ((xtsk.zip xsn).all (eb (l2:Int) (l3:Int) k z p l e v r false)=false):=ab (all_ff (aa hX) (by show bd y=false;unfold bd;rw[hm1];rfl))
       go_wp2_with fail
       refine wp_region_held_drew (S:=(fun W=>((W.cell? ⟨w.heap.size,0,none⟩=some (.int .i64 (l2:Int))∧W.cell? ⟨w.heap.size,1,none⟩=some (.int .i64 (l3:Int))∧W.cell? ⟨w.heap.size,2,none⟩=some (.int .i64 k)∧W.cell? ⟨w.heap.size,3,none⟩=some (.int .i64 z)∧W.cell? ⟨w.heap.size,4,none⟩=some (.int .i64 p)∧W.cell? ⟨w.heap.size,5,none⟩=some (.int .i64 l)∧W.cell? ⟨w.heap.size,6,none⟩=some (.int .i64 e)∧W.cell? ⟨w.heap.size,7,none⟩=some (.bool b)∧W.cell? ⟨w.heap.size,8,none⟩=some (.int .i64 v)∧W.cell? ⟨w.heap.size,9,none⟩=some (.int .i64 r)∧W.cell? ⟨w.heap.size+1,0,none⟩=some (.int .i64 xn)∧W.cell? ⟨w.heap.size+1,1,none⟩=some (.bool false)∧W.cell? ⟨w.heap.size+1,2,none⟩=some (.slice a2 l2 c2)∧W.cell? ⟨w.heap.size+1,3,none⟩=some (.slice (some ⟨g,o,none⟩) l3 c3)∧W.cell? ⟨w.heap.size+1,4,none⟩=some (.slice (some ⟨g2,o2,none⟩) l3 c4)∧W.cell? ⟨w.heap.size+1,5,none⟩=some (.int .i64 xsfn)∧W.cell? ⟨w.heap.size+1,6,none⟩=some (.slice a6 l6 c6)∧W.cell? ⟨w.heap.size+1,7,none⟩=some (.slice a7 l7 c7)∧W.cell? ⟨g,o+ix,none⟩=some (.bool false)∧W.cell? ⟨g2,o2+ix*3,none⟩=some (.int .i64 y.ma)∧W.cell? ⟨g2,o2+ix*3+1,none⟩=some (.slice qa1 ql1 qc1)∧W.cell? ⟨g2,o2+ix*3+2,none⟩=some (.slice qa2 ql2 qc2))∧w.heap.size<W.heap.size∧w.heap.size+1<W.heap.size∧g<W.heap.size∧g2<W.heap.size))) (jK) ?_ (fun hHeld=>?_)
       ·(try dsimp only);((first|((repeat(first|(with_reducible assumption)|(with_reducible refine ay ?_ (jF))|(with_reducible refine ay ?_ (aj (Below.refl _ _)))|(with_reducible refine ay ?_ (ai _ _))));done)|(refine⟨⟨?_,?_,?_,?_,?_,?_,?_,?_,?_,?_,?_,?_,?_,?_,?_,?_,?_,?_,?_,?_,?_,?_⟩,?_,?_,?_,?_⟩<;>first|(go_keep;done)|(simp;done)|(simp;omega)|omega)))
       refine kV 0 ?_
       refine kV 1 ?_
       refine kV 2 ?_
       refine kV 3 ?_
       refine kV 4 ?_
       refine kV 5 ?_
       refine kU 6 ?_
       try simp only[Act.put,tA,tZ,tS]
       refine kU 7 ?_
       try simp only[Act.put,tA,tZ,tS]
       refine kU 8 ?_
       try simp only[Act.put,tA,tZ,tS]
       refine kU 9 ?_
       try simp only[Act.put,tA,tZ,tS]
       refine kU 10 ?_
       try simp only[Act.put,tA,tZ,tS]
       refine kU 11 ?_
       try simp only[Act.put,tA,tZ,tS]
       refine kU 12 ?_
       try simp only[Act.put,tA,tZ,tS]
       refine kU 13 ?_
       try simp only[Act.put,tA,tZ,tS]
       refine kU 14 ?_
       try simp only[Act.put,tA,tZ,tS]
       refine kU 15 ?_
       try simp only[Act.put,tA,tZ,tS]
       refine kU 16 ?_
       try simp only[Act.put,tA,tZ,tS]
       refine kU 17 ?_
       try simp only[Act.put,tA,tZ,tS]
       refine kU 18 ?_
       try simp only[Act.put,tA,tZ,tS]
       refine kV 19 ?_
       refine kV 20 ?_
       refine kV 21 ?_
       refine kV 22 ?_
       refine kV 23 ?_
       refine kV 24 ?_
       refine kV 25 ?_
       refine kV 26 ?_
       refine kV 27 ?_
       refine kV 28 ?_
       refine kV 29 ?_
       refine kV 30 ?_
       refine kV 31 ?_
       refine kV 32 ?_
       refine kV 33 ?_
       refine kV 34 ?_
       refine kV 35 ?_
       refine kV 36 ?_
       refine kU 37 ?_
       try simp only[Act.put,tA,tZ,tS]
       refine kU 38 ?_
       try simp only[Act.put,tA,tZ,tS]
       refine kU 39 ?_
       try simp only[Act.put,tA,tZ,tS]
       refine kU 40 ?_
       try simp only[Act.put,tA,tZ,tS]
       refine kU 41 ?_
       try simp only[Act.put,tA,tZ,tS]
       refine kU 42 ?_
       try simp only[Act.put,tA,tZ,tS]
       refine kU 43 ?_
       try simp only[Act.put,tA,tZ,tS]
       refine kU 44 ?_
       try simp only[Act.put,tA,tZ,tS]
       refine kU 45 ?_
       try simp only[Act.put,tA,tZ,tS]
       refine kU 46 ?_
       try simp only[Act.put,tA,tZ,tS]
       refine kU 47 ?_
       try simp only[Act.put,tA,tZ,tS]
       refine kU 48 ?_
       try simp only[Act.put,tA,tZ,tS]
       refine kU 49 ?_
       try simp only[Act.put,tA,tZ,tS]
       refine kU 50 ?_
       try simp only[Act.put,tA,tZ,tS]
       refine kU 51 ?_
       try simp only[Act.put,tA,tZ,tS]
       refine kU 52 ?_
       try simp only[Act.put,tA,tZ,tS]
       refine kU 53 ?_
       try simp only[Act.put,tA,tZ,tS]
       refine kV 54 ?_
       refine kV 55 ?_
       refine kV 56 ?_
       refine wpAnyH_done (jK) ?_ _
       go_wp2
       go_ret
       exact⟨af (by rw[aa HV2,aa HE]),(ak)⟩
      ·have hm1:(y.ma==0)=true:=by simp[hm]
       have hm2:(y.ma != 0)=false:=by simp[hm]
       have hwl:IntKind.i64.wrap ((ql1:Int)+(ql2:Int))=(ql1:Int)+(ql2:Int):=IntWalk.i64_in _ (by omega)
       by_cases hn:(0:Int)<(ql1:Int)+(ql2:Int)
       ·have HE:Hid ((xtsk.zip xsn).all (eb (l2:Int) (l3:Int) k z p l e v r false)=false):=ab (all_ff (aa hX) (by show bd y=false;unfold bd;rw[decide_eq_false (by omega)];simp))
        go_wp2_with fail
        refine wp_region_held_drew (S:=(fun W=>((W.cell? ⟨w.heap.size,0,none⟩=some (.int .i64 (l2:Int))∧W.cell? ⟨w.heap.size,1,none⟩=some (.int .i64 (l3:Int))∧W.cell? ⟨w.heap.size,2,none⟩=some (.int .i64 k)∧W.cell? ⟨w.heap.size,3,none⟩=some (.int .i64 z)∧W.cell? ⟨w.heap.size,4,none⟩=some (.int .i64 p)∧W.cell? ⟨w.heap.size,5,none⟩=some (.int .i64 l)∧W.cell? ⟨w.heap.size,6,none⟩=some (.int .i64 e)∧W.cell? ⟨w.heap.size,7,none⟩=some (.bool b)∧W.cell? ⟨w.heap.size,8,none⟩=some (.int .i64 v)∧W.cell? ⟨w.heap.size,9,none⟩=some (.int .i64 r)∧W.cell? ⟨w.heap.size+1,0,none⟩=some (.int .i64 xn)∧W.cell? ⟨w.heap.size+1,1,none⟩=some (.bool false)∧W.cell? ⟨w.heap.size+1,2,none⟩=some (.slice a2 l2 c2)∧W.cell? ⟨w.heap.size+1,3,none⟩=some (.slice (some ⟨g,o,none⟩) l3 c3)∧W.cell? ⟨w.heap.size+1,4,none⟩=some (.slice (some ⟨g2,o2,none⟩) l3 c4)∧W.cell? ⟨w.heap.size+1,5,none⟩=some (.int .i64 xsfn)∧W.cell? ⟨w.heap.size+1,6,none⟩=some (.slice a6 l6 c6)∧W.cell? ⟨w.heap.size+1,7,none⟩=some (.slice a7 l7 c7)∧W.cell? ⟨g,o+ix,none⟩=some (.bool false)∧W.cell? ⟨g2,o2+ix*3,none⟩=some (.int .i64 y.ma)∧W.cell? ⟨g2,o2+ix*3+1,none⟩=some (.slice qa1 ql1 qc1)∧W.cell? ⟨g2,o2+ix*3+2,none⟩=some (.slice qa2 ql2 qc2))∧w.heap.size<W.heap.size∧w.heap.size+1<W.heap.size∧g<W.heap.size∧g2<W.heap.size))) (jK) ?_ (fun hHeld=>?_)
        ·(try dsimp only);((first|((repeat(first|(with_reducible assumption)|(with_reducible refine ay ?_ (jF))|(with_reducible refine ay ?_ (aj (Below.refl _ _)))|(with_reducible refine ay ?_ (ai _ _))));done)|(refine⟨⟨?_,?_,?_,?_,?_,?_,?_,?_,?_,?_,?_,?_,?_,?_,?_,?_,?_,?_,?_,?_,?_,?_⟩,?_,?_,?_,?_⟩<;>first|(go_keep;done)|(simp;done)|(simp;omega)|omega)))
        refine kV 0 ?_
        refine kV 1 ?_
        refine kV 2 ?_
        refine kV 3 ?_
        refine kV 4 ?_
        refine kV 5 ?_
        refine kU 6 ?_
        try simp only[Act.put,tA,tZ,tS]
        refine kU 7 ?_
        try simp only[Act.put,tA,tZ,tS]
        refine kU 8 ?_
        try simp only[Act.put,tA,tZ,tS]
        refine kU 9 ?_
        try simp only[Act.put,tA,tZ,tS]
        refine kU 10 ?_
        try simp only[Act.put,tA,tZ,tS]
        refine kU 11 ?_
        try simp only[Act.put,tA,tZ,tS]
        refine kU 12 ?_
        try simp only[Act.put,tA,tZ,tS]
        refine kU 13 ?_
        try simp only[Act.put,tA,tZ,tS]
        refine kU 14 ?_
        try simp only[Act.put,tA,tZ,tS]
        refine kU 15 ?_
        try simp only[Act.put,tA,tZ,tS]
        refine kU 16 ?_
        try simp only[Act.put,tA,tZ,tS]
        refine kU 17 ?_
        try simp only[Act.put,tA,tZ,tS]
        refine kU 18 ?_
        try simp only[Act.put,tA,tZ,tS]
        refine kV 19 ?_
        refine kV 20 ?_
        refine kV 21 ?_
        refine kV 22 ?_
        refine kV 23 ?_
        refine kV 24 ?_
        refine kV 25 ?_
        refine kV 26 ?_
        refine kV 27 ?_
        refine kV 28 ?_
        refine kV 29 ?_
        refine kV 30 ?_
        refine kV 31 ?_
        refine kV 32 ?_
        refine kV 33 ?_
        refine kV 34 ?_
        refine kV 35 ?_
        refine kV 36 ?_
        refine kV 37 ?_
        refine kV 38 ?_
        refine kV 39 ?_
        refine kV 40 ?_
        refine kV 41 ?_
        refine kV 42 ?_
        refine kV 43 ?_
        refine kV 44 ?_
        refine kV 45 ?_
        refine kV 46 ?_
        refine kV 47 ?_
        refine kV 48 ?_
        refine kV 49 ?_
        refine kV 50 ?_
        refine kV 51 ?_
        refine kV 52 ?_
        refine kV 53 ?_
        refine kV 54 ?_
        refine kV 55 ?_
        refine kV 56 ?_
        refine wpAnyH_done (jK) ?_ _
        go_wp2
        go_ret
        exact⟨af (by rw[aa HV2,aa HE]),(ak)⟩
       ·have HE:Hid (((xtsk.zip xsn).take (ix+1)).all (eb (l2:Int) (l3:Int) k z p l e v r false)=true):=ab (all_tt (aa hA) (aa hX) (by show bd y=true;unfold bd;rw[hm1,decide_eq_true (by omega)];rfl))
        go_wp2_with fail
        refine wp_region_held_drew (S:=(fun W=>((W.cell? ⟨w.heap.size,0,none⟩=some (.int .i64 (l2:Int))∧W.cell? ⟨w.heap.size,1,none⟩=some (.int .i64 (l3:Int))∧W.cell? ⟨w.heap.size,2,none⟩=some (.int .i64 k)∧W.cell? ⟨w.heap.size,3,none⟩=some (.int .i64 z)∧W.cell? ⟨w.heap.size,4,none⟩=some (.int .i64 p)∧W.cell? ⟨w.heap.size,5,none⟩=some (.int .i64 l)∧W.cell? ⟨w.heap.size,6,none⟩=some (.int .i64 e)∧W.cell? ⟨w.heap.size,7,none⟩=some (.bool b)∧W.cell? ⟨w.heap.size,8,none⟩=some (.int .i64 v)∧W.cell? ⟨w.heap.size,9,none⟩=some (.int .i64 r)∧W.cell? ⟨w.heap.size+1,0,none⟩=some (.int .i64 xn)∧W.cell? ⟨w.heap.size+1,1,none⟩=some (.bool false)∧W.cell? ⟨w.heap.size+1,2,none⟩=some (.slice a2 l2 c2)∧W.cell? ⟨w.heap.size+1,3,none⟩=some (.slice (some ⟨g,o,none⟩) l3 c3)∧W.cell? ⟨w.heap.size+1,4,none⟩=some (.slice (some ⟨g2,o2,none⟩) l3 c4)∧W.cell? ⟨w.heap.size+1,5,none⟩=some (.int .i64 xsfn)∧W.cell? ⟨w.heap.size+1,6,none⟩=some (.slice a6 l6 c6)∧W.cell? ⟨w.heap.size+1,7,none⟩=some (.slice a7 l7 c7)∧W.cell? ⟨g,o+ix,none⟩=some (.bool false)∧W.cell? ⟨g2,o2+ix*3,none⟩=some (.int .i64 y.ma)∧W.cell? ⟨g2,o2+ix*3+1,none⟩=some (.slice qa1 ql1 qc1)∧W.cell? ⟨g2,o2+ix*3+2,none⟩=some (.slice qa2 ql2 qc2))∧w.heap.size<W.heap.size∧w.heap.size+1<W.heap.size∧g<W.heap.size∧g2<W.heap.size))) (jK) ?_ (fun hHeld=>?_)
        ·(try dsimp only);((first|((repeat(first|(with_reducible assumption)|(with_reducible refine ay ?_ (jF))|(with_reducible refine ay ?_ (aj (Below.refl _ _)))|(with_reducible refine ay ?_ (ai _ _))));done)|(refine⟨⟨?_,?_,?_,?_,?_,?_,?_,?_,?_,?_,?_,?_,?_,?_,?_,?_,?_,?_,?_,?_,?_,?_⟩,?_,?_,?_,?_⟩<;>first|(go_keep;done)|(simp;done)|(simp;omega)|omega)))
        refine kV 0 ?_
        refine kV 1 ?_
        refine kV 2 ?_
        refine kV 3 ?_
        refine kV 4 ?_
        refine kV 5 ?_
        refine kU 6 ?_
        try simp only[Act.put,tA,tZ,tS]
        refine kU 7 ?_
        try simp only[Act.put,tA,tZ,tS]
        refine kU 8 ?_
        try simp only[Act.put,tA,tZ,tS]
        refine kU 9 ?_
        try simp only[Act.put,tA,tZ,tS]
        refine kU 10 ?_
        try simp only[Act.put,tA,tZ,tS]
        refine kU 11 ?_
        try simp only[Act.put,tA,tZ,tS]
        refine kU 12 ?_
        try simp only[Act.put,tA,tZ,tS]
        refine kU 13 ?_
        try simp only[Act.put,tA,tZ,tS]
        refine kU 14 ?_
        try simp only[Act.put,tA,tZ,tS]
        refine kU 15 ?_
        try simp only[Act.put,tA,tZ,tS]
        refine kU 16 ?_
        try simp only[Act.put,tA,tZ,tS]
        refine kU 17 ?_
        try simp only[Act.put,tA,tZ,tS]
        refine kU 18 ?_
        try simp only[Act.put,tA,tZ,tS]
        refine kV 19 ?_
        refine kV 20 ?_
        refine kV 21 ?_
        refine kV 22 ?_
        refine kV 23 ?_
        refine kV 24 ?_
        refine kV 25 ?_
        refine kV 26 ?_
        refine kV 27 ?_
        refine kV 28 ?_
        refine kV 29 ?_
        refine kV 30 ?_
        refine kV 31 ?_
        refine kV 32 ?_
        refine kV 33 ?_
        refine kV 34 ?_
        refine kV 35 ?_
        refine kV 36 ?_
        refine kV 37 ?_
        refine kV 38 ?_
        refine kV 39 ?_
        refine kV 40 ?_
        refine kV 41 ?_
        refine kV 42 ?_
        refine kV 43 ?_
        refine kV 44 ?_
        refine kV 45 ?_
        refine kV 46 ?_
        refine kV 47 ?_
        refine kV 48 ?_
        refine kV 49 ?_
        refine kV 50 ?_
        refine kV 51 ?_
        refine kV 52 ?_
        refine kV 53 ?_
        refine kV 54 ?_
        refine kV 55 ?_
        refine kV 56 ?_
        refine wpAnyH_done (jK) ?_ _
        go_wp2
        go_roundw
        case rel=>exact⟨ix+1,by omega,by go_num,HE,(ak)⟩
        case measure=>simp[intOf];omega
     ·have HE:Hid ((xtsk.zip xsn).all (eb (l2:Int) (l3:Int) k z p l e v r false)=false):=ab (all_ff (aa hX) rfl)
      go_wp2_with fail
      refine wp_region_held_drew (S:=(fun W=>((W.cell? ⟨w.heap.size,0,none⟩=some (.int .i64 (l2:Int))∧W.cell? ⟨w.heap.size,1,none⟩=some (.int .i64 (l3:Int))∧W.cell? ⟨w.heap.size,2,none⟩=some (.int .i64 k)∧W.cell? ⟨w.heap.size,3,none⟩=some (.int .i64 z)∧W.cell? ⟨w.heap.size,4,none⟩=some (.int .i64 p)∧W.cell? ⟨w.heap.size,5,none⟩=some (.int .i64 l)∧W.cell? ⟨w.heap.size,6,none⟩=some (.int .i64 e)∧W.cell? ⟨w.heap.size,7,none⟩=some (.bool b)∧W.cell? ⟨w.heap.size,8,none⟩=some (.int .i64 v)∧W.cell? ⟨w.heap.size,9,none⟩=some (.int .i64 r)∧W.cell? ⟨w.heap.size+1,0,none⟩=some (.int .i64 xn)∧W.cell? ⟨w.heap.size+1,1,none⟩=some (.bool false)∧W.cell? ⟨w.heap.size+1,2,none⟩=some (.slice a2 l2 c2)∧W.cell? ⟨w.heap.size+1,3,none⟩=some (.slice (some ⟨g,o,none⟩) l3 c3)∧W.cell? ⟨w.heap.size+1,4,none⟩=some (.slice (some ⟨g2,o2,none⟩) l3 c4)∧W.cell? ⟨w.heap.size+1,5,none⟩=some (.int .i64 xsfn)∧W.cell? ⟨w.heap.size+1,6,none⟩=some (.slice a6 l6 c6)∧W.cell? ⟨w.heap.size+1,7,none⟩=some (.slice a7 l7 c7)∧W.cell? ⟨g,o+ix,none⟩=some (.bool true)∧W.cell? ⟨g2,o2+ix*3,none⟩=some (.int .i64 y.ma)∧W.cell? ⟨g2,o2+ix*3+1,none⟩=some (.slice qa1 ql1 qc1)∧W.cell? ⟨g2,o2+ix*3+2,none⟩=some (.slice qa2 ql2 qc2))∧w.heap.size<W.heap.size∧w.heap.size+1<W.heap.size∧g<W.heap.size∧g2<W.heap.size))) (jK) ?_ (fun hHeld=>?_)
      ·(try dsimp only);((first|((repeat(first|(with_reducible assumption)|(with_reducible refine ay ?_ (jF))|(with_reducible refine ay ?_ (aj (Below.refl _ _)))|(with_reducible refine ay ?_ (ai _ _))));done)|(refine⟨⟨?_,?_,?_,?_,?_,?_,?_,?_,?_,?_,?_,?_,?_,?_,?_,?_,?_,?_,?_,?_,?_,?_⟩,?_,?_,?_,?_⟩<;>first|(go_keep;done)|(simp;done)|(simp;omega)|omega)))
      refine kV 0 ?_
      refine kV 1 ?_
      refine kV 2 ?_
      refine kV 3 ?_
      refine kV 4 ?_
      refine kV 5 ?_
      refine kV 6 ?_
      refine kV 7 ?_
      refine kV 8 ?_
      refine kV 9 ?_
      refine kU 10 ?_
      try simp only[Act.put,tA,tZ,tS]
      refine kU 11 ?_
      try simp only[Act.put,tA,tZ,tS]
      refine kU 12 ?_
      try simp only[Act.put,tA,tZ,tS]
      refine kU 13 ?_
      try simp only[Act.put,tA,tZ,tS]
      refine kU 14 ?_
      try simp only[Act.put,tA,tZ,tS]
      refine kU 15 ?_
      try simp only[Act.put,tA,tZ,tS]
      refine kU 16 ?_
      try simp only[Act.put,tA,tZ,tS]
      refine kU 17 ?_
      try simp only[Act.put,tA,tZ,tS]
      refine kV 18 ?_
      refine kV 19 ?_
      refine kV 20 ?_
      refine kU 21 ?_
      try simp only[Act.put,tA,tZ,tS]
      refine kU 22 ?_
      try simp only[Act.put,tA,tZ,tS]
      refine kU 23 ?_
      try simp only[Act.put,tA,tZ,tS]
      refine kU 24 ?_
      try simp only[Act.put,tA,tZ,tS]
      refine kU 25 ?_
      try simp only[Act.put,tA,tZ,tS]
      refine kU 26 ?_
      try simp only[Act.put,tA,tZ,tS]
      refine kU 27 ?_
      try simp only[Act.put,tA,tZ,tS]
      refine kU 28 ?_
      try simp only[Act.put,tA,tZ,tS]
      refine kU 29 ?_
      try simp only[Act.put,tA,tZ,tS]
      refine kU 30 ?_
      try simp only[Act.put,tA,tZ,tS]
      refine kU 31 ?_
      try simp only[Act.put,tA,tZ,tS]
      refine kU 32 ?_
      try simp only[Act.put,tA,tZ,tS]
      refine kU 33 ?_
      try simp only[Act.put,tA,tZ,tS]
      refine kU 34 ?_
      try simp only[Act.put,tA,tZ,tS]
      refine kU 35 ?_
      try simp only[Act.put,tA,tZ,tS]
      refine kU 36 ?_
      try simp only[Act.put,tA,tZ,tS]
      refine kU 37 ?_
      try simp only[Act.put,tA,tZ,tS]
      refine kU 38 ?_
      try simp only[Act.put,tA,tZ,tS]
      refine kU 39 ?_
      try simp only[Act.put,tA,tZ,tS]
      refine kU 40 ?_
      try simp only[Act.put,tA,tZ,tS]
      refine kU 41 ?_
      try simp only[Act.put,tA,tZ,tS]
      refine kU 42 ?_
      try simp only[Act.put,tA,tZ,tS]
      refine kU 43 ?_
      try simp only[Act.put,tA,tZ,tS]
      refine kU 44 ?_
      try simp only[Act.put,tA,tZ,tS]
      refine kU 45 ?_
      try simp only[Act.put,tA,tZ,tS]
      refine kU 46 ?_
      try simp only[Act.put,tA,tZ,tS]
      refine kU 47 ?_
      try simp only[Act.put,tA,tZ,tS]
      refine kU 48 ?_
      try simp only[Act.put,tA,tZ,tS]
      refine kU 49 ?_
      try simp only[Act.put,tA,tZ,tS]
      refine kU 50 ?_
      try simp only[Act.put,tA,tZ,tS]
      refine kU 51 ?_
      try simp only[Act.put,tA,tZ,tS]
      refine kU 52 ?_
      try simp only[Act.put,tA,tZ,tS]
      refine kU 53 ?_
      try simp only[Act.put,tA,tZ,tS]
      refine kU 54 ?_
      try simp only[Act.put,tA,tZ,tS]
      refine kU 55 ?_
      try simp only[Act.put,tA,tZ,tS]
      refine kV 56 ?_
      refine wpAnyH_done (jK) ?_ _
      go_wp2
      go_ret
      exact⟨af (by rw[aa HV2,aa HE]),(ak)⟩
    ·have HE:Hid (ca (l2:Int) (l3:Int) k z p l e v r ⟨xn,false,xsrc,xtsk,xsn,xsfn,xat,xssn⟩=true):=ab (by rw[aa HV2,cu (aa hA) (jJ)])
     go_wp2
     go_ret
     exact⟨af (aa HE).symm,(ak)⟩
end Go.Proofs.YtealpjmannopeaaGreat
