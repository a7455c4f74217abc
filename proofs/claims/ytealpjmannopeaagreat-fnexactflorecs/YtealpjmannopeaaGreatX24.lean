/- Laid together: what the claim needs of the texts that were built one by one. -/
import Derived.Test.YtealpjmannopeaaGreatX23
import Derived.Test.YtealpjmannopeaaGreatX12
import Derived.Test.YtealpjmannopeaaGreatX0
import Derived.Test.YtealpjmannopeaaGreatX15
import Derived.Test.YtealpjmannopeaaGreatX4
import Derived.Test.YtealpjmannopeaaGreatX22
import Derived.Test.YtealpjmannopeaaGreatX20
import Derived.Test.YtealpjmannopeaaGreatX18
import Derived.Test.YtealpjmannopeaaGreatX8
set_option linter.unusedVariables false
namespace Go.Proofs.YtealpjmannopeaaGreat
open Go.ChangeShapes Go.WideShapes Go.ChangeAt Go.RowKit Go.Deep
theorem noth_any(x:cD)(a1:Option Addr)(l1 c1:Nat)(a2:Option Addr)(l2 c2:Nat)(w:World)(h1:x.rows.length=l1)(h2:x.marks.length=l2):Calls Tryz.prog 162 #[.agg #[.int .i64 x.ma,.slice a1 l1 c1,.slice a2 l2 c2]] w fun e' w'=>e'= .returned (.bool (bd x))∧Below w.heap.size w w':=by
 by_cases hm:x.ma=0
 rotate_left
 ·have hm1:(x.ma==0)=false:=beq_eq_false_iff_ne.2 hm
  have HE:Hid (bd x=false):=ab (by unfold bd;rw[hm1];rfl)
  go_enter Tryz.func162,Tryz.ntmps162
  go_wp2
  go_ret
  exact⟨af (aa HE).symm,(ak)⟩
 have hm1:(x.ma==0)=true:=by simp[hm]
 by_cases hr:l1=0
 rotate_left
 ·have hr1:((l1:Int)==0)=false:=beq_eq_false_iff_ne.2 (by omega)
  have HE:Hid (bd x=false):=ab (by unfold bd;rw[decide_eq_false (by omega)];simp)
  go_enter Tryz.func162,Tryz.ntmps162
  go_wp2
  go_ret
  exact⟨af (aa HE).symm,(ak)⟩
 subst hr
 by_cases hk:l2=0
 rotate_left
 ·have hr1:((l2:Int)==0)=false:=beq_eq_false_iff_ne.2 (by omega)
  have HE:Hid (bd x=false):=ab (by unfold bd;rw[decide_eq_false (by omega)];simp)
  go_enter Tryz.func162,Tryz.ntmps162
  go_wp2
  go_ret
  exact⟨af (aa HE).symm,(ak)⟩
 subst hk
 have HE:Hid (bd x=true):=ab (by unfold bd;rw[hm1,decide_eq_true (by omega)];rfl)
 go_enter Tryz.func162,Tryz.ntmps162
 go_wp2
 go_ret
 exact⟨af (aa HE).symm,(ak)⟩
/-- Whether a task may have told that, if one is under way. -/
def gw(s t k z p l e v r:Int)(q:Bool×cD):Bool:=match q.1 with
 |true=>bI s t k z p l e v r q.2
 |false=>bd q.2
def dg(s t k z p l e v r:Int)(x:iQ):Bool:=decide ((x.src.length:Int)=s)&&decide ((x.tsk.length:Int)=t)&&decide ((x.sn.length:Int)=t)&&x.src.all cK&&(x.tsk.zip x.sn).all (gw s t k z p l e v r)&&(x.op||decide (gh x.src x.tsk=0))
theorem fy{s t k z p l e v r:Int}{x:iQ}(h:dg s t k z p l e v r x=true):(x.src.length:Int)=s∧(x.tsk.length:Int)=t∧(x.sn.length:Int)=t∧x.src.all cK=true∧(x.tsk.zip x.sn).all (gw s t k z p l e v r)=true:=by
 unfold dg at h
 simp only[Bool.and_eq_true,decide_eq_true_eq]at h
 exact⟨h.1.1.1.1.1,h.1.1.1.1.2,h.1.1.1.2,h.1.1.2,h.1.2⟩
theorem toldB_val{s t k z p l e v r:Int}{x:iQ}(h1:(x.src.length:Int)=s)(h2:(x.tsk.length:Int)=t)(h3:(x.sn.length:Int)=t)(h4:x.src.all cK=true):dg s t k z p l e v r x=((x.tsk.zip x.sn).all (gw s t k z p l e v r)&&(x.op||decide (gh x.src x.tsk=0))):=by
 unfold dg
 rw[decide_eq_true h1,decide_eq_true h2,decide_eq_true h3,h4]
 rfl
set_option linter.unusedSimpArgs false in
set_option maxRecDepth 20000 in
set_option maxHeartbeats 8000000 in
theorem dM(s t k z p l e:Int)(b:Bool)(v r:Int)(x:iQ)(a2:Option Addr)(l2 c2:Nat)(a3:Option Addr)(l3 c3:Nat)(a4:Option Addr)(l4 c4:Nat)(a6:Option Addr)(l6 c6:Nat)(a7:Option Addr)(l7 c7:Nat)(B:Nat)(w:World)(h:iB w B a2 l2 a3 l3 a4 l4 a6 l6 a7 l7 x)(hs3:s≤3)(ht2:t≤2):Calls Tryz.prog 125 #[.agg #[.int .i64 x.n,.bool x.op,.slice a2 l2 c2,.slice a3 l3 c3,.slice a4 l4 c4,.int .i64 x.sfn,.slice a6 l6 c6,.slice a7 l7 c7],.agg #[.int .i64 s,.int .i64 t,.int .i64 k,.int .i64 z,.int .i64 p,.int .i64 l,.int .i64 e,.bool b,.int .i64 v,.int .i64 r]] w fun e' w'=>e'= .returned (.bool (dg s t k z p l e v r x))∧Below w.heap.size w w':=by
 have le2:=h.src.len.1
 have hm2:=h.src.len.2
 have le3:=h.tsk.len.1
 have hm3:=h.tsk.len.2
 have le4:=h.sn.len.1
 have hm4:=h.sn.len.2
 unfold maxLen at hm2 hm3 hm4
 by_cases hl:(l2:Int)=s
 rotate_left
 ·skip
  have hl1:((l2:Int)==s)=false:=beq_eq_false_iff_ne.2 hl
  have hl2:((l2:Int) != s)=true:=by simp[hl]
  have HE:Hid (dg s t k z p l e v r x=false):=ab (Bool.eq_false_iff.2 (fun hc=>hl (by rw[←le2];exact(fy hc).1)))
  go_enter Tryz.func125,Tryz.ntmps125
  go_wp2
  go_ret
  exact⟨af (aa HE).symm,(ak)⟩
 subst hl
 by_cases ht:(l3:Int)=t
 rotate_left
 ·skip
  have ht1:((l3:Int)==t)=false:=beq_eq_false_iff_ne.2 ht
  have ht2:((l3:Int) != t)=true:=by simp[ht]
  have HE:Hid (dg (l2:Int) t k z p l e v r x=false):=ab (Bool.eq_false_iff.2 (fun hc=>ht (by rw[←le3];exact(fy hc).2.1)))
  go_enter Tryz.func125,Tryz.ntmps125
  go_wp2
  go_ret
  exact⟨af (aa HE).symm,(ak)⟩
 subst ht
 by_cases hu:(l4:Int)=(l3:Int)
 rotate_left
 ·skip
  have hu1:((l4:Int)==(l3:Int))=false:=beq_eq_false_iff_ne.2 hu
  have hu2:((l4:Int) != (l3:Int))=true:=by simp[hu]
  have HE:Hid (dg (l2:Int) (l3:Int) k z p l e v r x=false):=ab (Bool.eq_false_iff.2 (fun hc=>hu (by rw[←le4];exact(fy hc).2.2.1)))
  go_enter Tryz.func125,Tryz.ntmps125
  go_wp2
  go_ret
  exact⟨af (aa HE).symm,(ak)⟩
 obtain rfl:l3=l4:=by omega
 clear hu
 cases ha:x.src.all cK
 ·skip
  have HE:Hid (dg (l2:Int) (l3:Int) k z p l e v r x=false):=ab (Bool.eq_false_iff.2 (fun hc=>by have h9:=(fy hc).2.2.2.1;rw[ha]at h9;cases h9))
  go_enter Tryz.func125,Tryz.ntmps125
  go_wp2_with (go_at_call 153;refine(everyRng a2 l2 c2 x.src _ (h.src.1.below (ak))).mono ?_;rw[ha];rintro e' y2 ⟨rfl,hb2⟩;obtain⟨hc2,hf2,hs2⟩:=ac hb2;have hz20:w.heap.size<y2.heap.size:=(by have h9:=hb2.size;(try simp at h9);omega);have hz21:w.heap.size+1<y2.heap.size:=(by have h9:=hb2.size;(try simp at h9);omega))
  go_ret
  exact⟨af (aa HE).symm,(ak)⟩
 have HV:Hid (dg (l2:Int) (l3:Int) k z p l e v r x=((x.tsk.zip x.sn).all (gw (l2:Int) (l3:Int) k z p l e v r)&&(x.op||decide (gh x.src x.tsk=0)))):=ab (toldB_val (by rw[le2]) (by rw[le3]) (by rw[le4]) ha)
 obtain⟨tn,HT⟩:∃tn,Hid (tn=gh x.src x.tsk):=⟨_,ab rfl⟩
 have ht32:tn<32:=by rw[aa HT];exact bB_lt _ _ (jJ) (by omega)
 have HAT:Hid (∀(i:Nat) (q:Bool),x.tsk[i]? =some q→decide (tn&&&2 ^ (3+i)=2 ^ (3+i))=q):=ab (fun i q hq=>by rw[aa HT];exact told_at (by omega) (by omega) hq)
 go_enter Tryz.func125,Tryz.ntmps125
 go_wp2_with (first
  |(go_at_call 153;refine(everyRng a2 l2 c2 x.src _ (h.src.1.below (ak))).mono ?_;rw[ha];rintro e' y2 ⟨rfl,hb2⟩;obtain⟨hc2,hf2,hs2⟩:=ac hb2;have hz20:w.heap.size<y2.heap.size:=(by have h9:=hb2.size;(try simp at h9);omega);have hz21:w.heap.size+1<y2.heap.size:=(by have h9:=hb2.size;(try simp at h9);omega))
  |(go_at_call 159;refine(told_any x a2 l2 c2 a3 l3 c3 a4 l3 c4 a6 l6 c6 a7 l7 c7 B _ (h.src.below (ak)) (h.tsk.below (ak)) (by omega) (by omega)).mono ?_;rw[←aa HT];rintro e' y3 ⟨rfl,hb3⟩;obtain⟨hc3,hf3,hs3⟩:=ac hb3;have hz30:w.heap.size<y3.heap.size:=(by have h9:=hb3.size;(try simp at h9);omega);have hz31:w.heap.size+1<y3.heap.size:=(by have h9:=hb3.size;(try simp at h9);omega)))
 have hQ:Below ((w.alloc (.cells #[.int .i64 x.n,.bool x.op,.slice a2 l2 c2,.slice a3 l3 c3,.slice a4 l3 c4,.int .i64 x.sfn,.slice a6 l6 c6,.slice a7 l7 c7] 49)).alloc (.cells #[.int .i64 (l2:Int),.int .i64 (l3:Int),.int .i64 k,.int .i64 z,.int .i64 p,.int .i64 l,.int .i64 e,.bool b,.int .i64 v,.int .i64 r] 40)).heap.size ((w.alloc (.cells #[.int .i64 x.n,.bool x.op,.slice a2 l2 c2,.slice a3 l3 c3,.slice a4 l3 c4,.int .i64 x.sfn,.slice a6 l6 c6,.slice a7 l7 c7] 49)).alloc (.cells #[.int .i64 (l2:Int),.int .i64 (l3:Int),.int .i64 k,.int .i64 z,.int .i64 p,.int .i64 l,.int .i64 e,.bool b,.int .i64 v,.int .i64 r] 40)) y3:=ae hb2 hb3
 have hW:Below w.heap.size w y3:=ae (aB (ai _ _) _) hQ
 have H3:=h.tsk.1.below hW
 have H4:=h.sn.below hW
 have kb0:y3.cell? ⟨w.heap.size,0,none⟩=some (.int .i64 x.n):=(hQ.cell (p:=⟨w.heap.size,0,none⟩) (jH)).trans (jI)
 have kb1:y3.cell? ⟨w.heap.size,1,none⟩=some (.bool x.op):=(hQ.cell (p:=⟨w.heap.size,1,none⟩) (jH)).trans (jI)
 have kb2:y3.cell? ⟨w.heap.size,2,none⟩=some (.slice a2 l2 c2):=(hQ.cell (p:=⟨w.heap.size,2,none⟩) (jH)).trans (jI)
 have kb3:y3.cell? ⟨w.heap.size,3,none⟩=some (.slice a3 l3 c3):=(hQ.cell (p:=⟨w.heap.size,3,none⟩) (jH)).trans (jI)
 have kb4:y3.cell? ⟨w.heap.size,4,none⟩=some (.slice a4 l3 c4):=(hQ.cell (p:=⟨w.heap.size,4,none⟩) (jH)).trans (jI)
 have kb5:y3.cell? ⟨w.heap.size,5,none⟩=some (.int .i64 x.sfn):=(hQ.cell (p:=⟨w.heap.size,5,none⟩) (jH)).trans (jI)
 have kb6:y3.cell? ⟨w.heap.size,6,none⟩=some (.slice a6 l6 c6):=(hQ.cell (p:=⟨w.heap.size,6,none⟩) (jH)).trans (jI)
 have kb7:y3.cell? ⟨w.heap.size,7,none⟩=some (.slice a7 l7 c7):=(hQ.cell (p:=⟨w.heap.size,7,none⟩) (jH)).trans (jI)
 have jb0:y3.cell? ⟨w.heap.size+1,0,none⟩=some (.int .i64 (l2:Int)):=(hQ.cell (p:=⟨w.heap.size+1,0,none⟩) (jH)).trans (jI)
 have jb1:y3.cell? ⟨w.heap.size+1,1,none⟩=some (.int .i64 (l3:Int)):=(hQ.cell (p:=⟨w.heap.size+1,1,none⟩) (jH)).trans (jI)
 have jb2:y3.cell? ⟨w.heap.size+1,2,none⟩=some (.int .i64 k):=(hQ.cell (p:=⟨w.heap.size+1,2,none⟩) (jH)).trans (jI)
 have jb3:y3.cell? ⟨w.heap.size+1,3,none⟩=some (.int .i64 z):=(hQ.cell (p:=⟨w.heap.size+1,3,none⟩) (jH)).trans (jI)
 have jb4:y3.cell? ⟨w.heap.size+1,4,none⟩=some (.int .i64 p):=(hQ.cell (p:=⟨w.heap.size+1,4,none⟩) (jH)).trans (jI)
 have jb5:y3.cell? ⟨w.heap.size+1,5,none⟩=some (.int .i64 l):=(hQ.cell (p:=⟨w.heap.size+1,5,none⟩) (jH)).trans (jI)
 have jb6:y3.cell? ⟨w.heap.size+1,6,none⟩=some (.int .i64 e):=(hQ.cell (p:=⟨w.heap.size+1,6,none⟩) (jH)).trans (jI)
 have jb7:y3.cell? ⟨w.heap.size+1,7,none⟩=some (.bool b):=(hQ.cell (p:=⟨w.heap.size+1,7,none⟩) (jH)).trans (jI)
 have jb8:y3.cell? ⟨w.heap.size+1,8,none⟩=some (.int .i64 v):=(hQ.cell (p:=⟨w.heap.size+1,8,none⟩) (jH)).trans (jI)
 have jb9:y3.cell? ⟨w.heap.size+1,9,none⟩=some (.int .i64 r):=(hQ.cell (p:=⟨w.heap.size+1,9,none⟩) (jH)).trans (jI)
 clear hc2 hf2 hs2 hb2 hc3 hf3 hs3 hb3 hQ hz20 hz21 ha
 go_loopw [39] (fun i wr=>∃ix:Nat,ix≤l3∧i= .int .i64 ix∧Hid (((x.tsk.zip x.sn).take ix).all (gw (l2:Int) (l3:Int) k z p l e v r)=true)∧Below y3.heap.size y3 wr) (fun i _=>l3 - (intOf i).toNat)
 case atStart=>exact⟨0,Nat.zero_le _,rfl,ab (by simp),Below.refl _ _⟩
 case round=>
  obtain⟨ix,hk,rfl,hA,hbq⟩:=hrel
  have tc0:wr.cell? ⟨w.heap.size,0,none⟩=some (.int .i64 x.n):=(hbq.cell (p:=⟨w.heap.size,0,none⟩) (jH)).trans kb0
  have tc1:wr.cell? ⟨w.heap.size,1,none⟩=some (.bool x.op):=(hbq.cell (p:=⟨w.heap.size,1,none⟩) (jH)).trans kb1
  have tc2:wr.cell? ⟨w.heap.size,2,none⟩=some (.slice a2 l2 c2):=(hbq.cell (p:=⟨w.heap.size,2,none⟩) (jH)).trans kb2
  have tc3:wr.cell? ⟨w.heap.size,3,none⟩=some (.slice a3 l3 c3):=(hbq.cell (p:=⟨w.heap.size,3,none⟩) (jH)).trans kb3
  have tc4:wr.cell? ⟨w.heap.size,4,none⟩=some (.slice a4 l3 c4):=(hbq.cell (p:=⟨w.heap.size,4,none⟩) (jH)).trans kb4
  have tc5:wr.cell? ⟨w.heap.size,5,none⟩=some (.int .i64 x.sfn):=(hbq.cell (p:=⟨w.heap.size,5,none⟩) (jH)).trans kb5
  have tc6:wr.cell? ⟨w.heap.size,6,none⟩=some (.slice a6 l6 c6):=(hbq.cell (p:=⟨w.heap.size,6,none⟩) (jH)).trans kb6
  have tc7:wr.cell? ⟨w.heap.size,7,none⟩=some (.slice a7 l7 c7):=(hbq.cell (p:=⟨w.heap.size,7,none⟩) (jH)).trans kb7
  have jc0:wr.cell? ⟨w.heap.size+1,0,none⟩=some (.int .i64 (l2:Int)):=(hbq.cell (p:=⟨w.heap.size+1,0,none⟩) (jH)).trans jb0
  have jc1:wr.cell? ⟨w.heap.size+1,1,none⟩=some (.int .i64 (l3:Int)):=(hbq.cell (p:=⟨w.heap.size+1,1,none⟩) (jH)).trans jb1
  have jc2:wr.cell? ⟨w.heap.size+1,2,none⟩=some (.int .i64 k):=(hbq.cell (p:=⟨w.heap.size+1,2,none⟩) (jH)).trans jb2
  have jc3:wr.cell? ⟨w.heap.size+1,3,none⟩=some (.int .i64 z):=(hbq.cell (p:=⟨w.heap.size+1,3,none⟩) (jH)).trans jb3
  have jc4:wr.cell? ⟨w.heap.size+1,4,none⟩=some (.int .i64 p):=(hbq.cell (p:=⟨w.heap.size+1,4,none⟩) (jH)).trans jb4
  have jc5:wr.cell? ⟨w.heap.size+1,5,none⟩=some (.int .i64 l):=(hbq.cell (p:=⟨w.heap.size+1,5,none⟩) (jH)).trans jb5
  have jc6:wr.cell? ⟨w.heap.size+1,6,none⟩=some (.int .i64 e):=(hbq.cell (p:=⟨w.heap.size+1,6,none⟩) (jH)).trans jb6
  have jc7:wr.cell? ⟨w.heap.size+1,7,none⟩=some (.bool b):=(hbq.cell (p:=⟨w.heap.size+1,7,none⟩) (jH)).trans jb7
  have jc8:wr.cell? ⟨w.heap.size+1,8,none⟩=some (.int .i64 v):=(hbq.cell (p:=⟨w.heap.size+1,8,none⟩) (jH)).trans jb8
  have jc9:wr.cell? ⟨w.heap.size+1,9,none⟩=some (.int .i64 r):=(hbq.cell (p:=⟨w.heap.size+1,9,none⟩) (jH)).trans jb9
  have hz2:w.heap.size+1<wr.heap.size:=by have h9:=hbq.size;omega
  have hz1:w.heap.size<wr.heap.size:=by omega
  by_cases hlt:ix<l3
  ·obtain⟨hxl,_,hx⟩:=H3
   obtain⟨hxl4,_,hx4⟩:=H4
   obtain⟨g2,o2,rfl,_,hrr4⟩:=hx4.resolve_left (by omega)
   obtain⟨qb,hqk⟩:∃y,x.tsk[ix]? =some y:=⟨_,List.getElem?_eq_getElem (by omega)⟩
   obtain⟨y,hyk⟩:∃y,x.sn[ix]? =some y:=⟨_,List.getElem?_eq_getElem (by omega)⟩
   have t1:=(hrr4 ix _ hyk).below hbq
   have hg2:=t1.lt
   have hX:=ab (zip_at hqk hyk)
   obtain⟨qa1,ql1,qc1,qa2,ql2,qc2,⟨d0,d1,d2⟩,k1,k2⟩:=t1
   obtain⟨pb,hpb⟩:∃pb:Nat,Hid (pb=2 ^ (3+ix)):=⟨_,ab rfl⟩
   have hp32:pb<32:=by
    rw[aa hpb]
    have:ix=0∨ix=1:=by omega
    rcases this with rfl|rfl<;>decide
   have HD:Hid (decide (tn&&&pb=pb)=qb):=ab (by rw[aa hpb];exact aa HAT ix qb hqk)
   clear hx hyk hx4 hqk hrr4
   cases qb
   ·cases hB:bd y
    ·have HE:Hid ((x.tsk.zip x.sn).all (gw (l2:Int) (l3:Int) k z p l e v r)=false):=ab (all_ff (aa hX) hB)
     go_wp2_with (first
      |(go_at_call 161;refine(ft ix (by omega) pb hpb _).mono ?_;rintro e' w5 ⟨rfl,hw⟩;obtain rfl:=hw.symm;clear hw)
      |(go_at_call 160;refine(gg tn pb ht32 hp32 _).mono ?_;rw[aa HD];rintro e' w6 ⟨rfl,hw⟩;obtain rfl:=hw.symm;clear hw)
      |(go_at_call 162;refine(noth_any y qa1 ql1 qc1 qa2 ql2 qc2 _ k1.len.1 k2.len.1).mono ?_;rw[hB];rintro e' w7 ⟨rfl,hb7⟩;obtain⟨hc7,hf7,hs7⟩:=ac hb7))
     go_ret
     exact⟨af (by rw[aa HV,aa HE];rfl),(ak)⟩
    ·have HE:Hid (((x.tsk.zip x.sn).take (ix+1)).all (gw (l2:Int) (l3:Int) k z p l e v r)=true):=ab (all_tt (aa hA) (aa hX) hB)
     go_wp2_with (first
      |(go_at_call 161;refine(ft ix (by omega) pb hpb _).mono ?_;rintro e' w5 ⟨rfl,hw⟩;obtain rfl:=hw.symm;clear hw)
      |(go_at_call 160;refine(gg tn pb ht32 hp32 _).mono ?_;rw[aa HD];rintro e' w6 ⟨rfl,hw⟩;obtain rfl:=hw.symm;clear hw)
      |(go_at_call 162;refine(noth_any y qa1 ql1 qc1 qa2 ql2 qc2 _ k1.len.1 k2.len.1).mono ?_;rw[hB];rintro e' w7 ⟨rfl,hb7⟩;obtain⟨hc7,hf7,hs7⟩:=ac hb7))
     go_roundw
     case rel=>exact⟨ix+1,by omega,by go_num,HE,(ak)⟩
     case measure=>simp[intOf];omega
   ·cases hB:bI (l2:Int) (l3:Int) k z p l e v r y
    ·have HE:Hid ((x.tsk.zip x.sn).all (gw (l2:Int) (l3:Int) k z p l e v r)=false):=ab (all_ff (aa hX) hB)
     go_wp2_with (first
      |(go_at_call 161;refine(ft ix (by omega) pb hpb _).mono ?_;rintro e' w5 ⟨rfl,hw⟩;obtain rfl:=hw.symm;clear hw)
      |(go_at_call 160;refine(gg tn pb ht32 hp32 _).mono ?_;rw[aa HD];rintro e' w6 ⟨rfl,hw⟩;obtain rfl:=hw.symm;clear hw)
      |(go_at_call 157;refine(fT (l2:Int) (l3:Int) k z p l e b v r y qa1 ql1 qc1 qa2 ql2 qc2 B _ (k1.below (ak)) (k2.below (ak))).mono ?_;rw[hB];rintro e' w7 ⟨rfl,hb7⟩;obtain⟨hc7,hf7,hs7⟩:=ac hb7))
     go_ret
     exact⟨af (by rw[aa HV,aa HE];rfl),(ak)⟩
    ·have HE:Hid (((x.tsk.zip x.sn).take (ix+1)).all (gw (l2:Int) (l3:Int) k z p l e v r)=true):=ab (all_tt (aa hA) (aa hX) hB)
     go_wp2_with (first
      |(go_at_call 161;refine(ft ix (by omega) pb hpb _).mono ?_;rintro e' w5 ⟨rfl,hw⟩;obtain rfl:=hw.symm;clear hw)
      |(go_at_call 160;refine(gg tn pb ht32 hp32 _).mono ?_;rw[aa HD];rintro e' w6 ⟨rfl,hw⟩;obtain rfl:=hw.symm;clear hw)
      |(go_at_call 157;refine(fT (l2:Int) (l3:Int) k z p l e b v r y qa1 ql1 qc1 qa2 ql2 qc2 B _ (k1.below (ak)) (k2.below (ak))).mono ?_;rw[hB];rintro e' w7 ⟨rfl,hb7⟩;obtain⟨hc7,hf7,hs7⟩:=ac hb7))
     go_roundw
     case rel=>exact⟨ix+1,by omega,by go_num,HE,(ak)⟩
     case measure=>simp[intOf];omega
  ·have HE:Hid (dg (l2:Int) (l3:Int) k z p l e v r x=(x.op||decide (tn=0))):=ab (by rw[aa HV,cu (aa hA) (jJ),aa HT];rfl)
   cases hop:x.op
   ·rw[hop]at HE tc1
    by_cases hz:tn=0
    ·have HE2:Hid (dg (l2:Int) (l3:Int) k z p l e v r x=true):=ab (by rw[aa HE,decide_eq_true hz];rfl)
     have hz9:((tn:Int)==0)=true:=by simp[hz]
     clear hz
     go_wp2
     go_ret
     exact⟨af (aa HE2).symm,(ak)⟩
    ·have HE2:Hid (dg (l2:Int) (l3:Int) k z p l e v r x=false):=ab (by rw[aa HE,decide_eq_false hz];rfl)
     have hz9:((tn:Int)==0)=false:=beq_eq_false_iff_ne.2 (by omega)
     go_wp2
     go_ret
     exact⟨af (aa HE2).symm,(ak)⟩
   ·rw[hop]at HE tc1
    have HE2:Hid (dg (l2:Int) (l3:Int) k z p l e v r x=true):=ab (by rw[aa HE];rfl)
    go_wp2
    go_ret
    exact⟨af (aa HE2).symm,(ak)⟩
/-- What the program asks is what the specification asks. -/
def dl(s t k z p l e v r:Int)(x:iQ):Bool:=aF s t k z p l e v r&&cI s t k z p l e v r ⟨x.sfn,x.at_,x.ssn⟩&&dg s t k z p l e v r x&&aP x.n x.sfn 900&&(!x.op||decide (x.sfn<x.n))
theorem i7{s t k z p l e v r:Int}:∀(tk:List Bool) (sn:List cD),tk.length=sn.length→(tk.zip sn).all (eb s t k z p l e v r false)=((tk.zip sn).all (gw s t k z p l e v r)&&tk.all (!·))
 | [],[],_=>rfl
 |q :: tk,y :: sn,h=>by
  have ih:=i7 (s:=s) (t:=t) (k:=k) (z:=z) (p:=p) (l:=l) (e:=e) (v:=v) (r:=r) tk sn (by simpa using h)
  simp only[List.zip_cons_cons,List.all_cons,ih]
  cases q
  ·show(bd y&&_)=((bd y&&_)&&(true&&_))
   cases bd y<;>simp
  ·show(false&&_)=((bI s t k z p l e v r y&&_)&&(false&&_))
   simp
 | [],_ :: _,h=>by simp at h
 |_ :: _,[],h=>by simp at h
theorem zip_all_t{s t k z p l e v r:Int}(l9:List (Bool×cD)):l9.all (eb s t k z p l e v r true)=l9.all (gw s t k z p l e v r):=by
 have e9:eb s t k z p l e v r true=gw s t k z p l e v r:=by
  funext q
  obtain⟨q1,y⟩:=q
  cases q1
  ·rfl
  ·show(true&&bI s t k z p l e v r y)=bI s t k z p l e v r y
   simp
 rw[e9]
theorem src_f:∀(l:List Int),l.all (cM false)=(l.all cK&&(l.map eN).all (!·))
 | []=>rfl
 |m :: r=>by
  simp only[List.all_cons,List.map_cons,src_f r]
  show((aP m (-1) 40&&(false||m== -1))&&_)=((aP m (-1) 40&&_)&&((!(!(m== -1)))&&_))
  cases aP m (-1) 40<;>cases (m== -1)<;>simp
theorem src_t(l:List Int):l.all (cM true)=l.all cK:=by
 have e9:cM true=cK:=by
  funext m
  show(aP m (-1) 40&&(true||m== -1))=aP m (-1) 40
  simp
 rw[e9]
theorem okCkI_eq(s t k z p l e v r:Int)(x:iQ):dl s t k z p l e v r x=ca s t k z p l e v r x:=by
 unfold dl ca
 cases hj:aF s t k z p l e v r
 ·simp
 have hb:s≤3∧t≤2:=by unfold aF at hj;simp only[Bool.and_eq_true]at hj;exact⟨(aZ.1 hj.1.1.1.1.1.1.1.1).2,(aZ.1 hj.1.1.1.1.1.1.1.2).2⟩
 cases hi:aP x.n x.sfn 900
 ·simp
 have hq:(!x.op||decide (x.sfn<x.n))= !(x.op&&x.n==x.sfn):=by
  have h9:=(aZ.1 hi).1
  cases x.op
  ·rfl
  ·by_cases he:x.n=x.sfn
   ·rw[decide_eq_false (by omega)];simp[he]
   ·rw[decide_eq_true (by omega)];simp[he]
 rw[hq]
 cases hn: !(x.op&&x.n==x.sfn)
 ·simp
 cases hc:cI s t k z p l e v r ⟨x.sfn,x.at_,x.ssn⟩
 ·simp
 unfold dg
 by_cases h1:(x.src.length:Int)=s
 rotate_left
 ·simp[h1]
 by_cases h2:(x.tsk.length:Int)=t
 rotate_left
 ·simp[h2]
 by_cases h3:(x.sn.length:Int)=t
 rotate_left
 ·simp[h3]
 rw[decide_eq_true h1,decide_eq_true h2,decide_eq_true h3]
 simp only[Bool.true_and,Bool.and_true]
 cases hop:x.op
 ·rw[src_f,i7 x.tsk x.sn (by omega),told_zero (by omega) (by omega)]
  cases x.src.all cK<;>cases (x.tsk.zip x.sn).all (gw s t k z p l e v r)<;>cases (x.src.map eN).all (!·)<;>cases x.tsk.all (!·)<;>rfl
 ·rw[src_t,zip_all_t]
  simp
set_option maxRecDepth 20000 in
set_option maxHeartbeats 4000000 in
theorem iG(s t k z p l e:Int)(b:Bool)(v r:Int)(x:iQ)(a2:Option Addr)(l2 c2:Nat)(a3:Option Addr)(l3 c3:Nat)(a4:Option Addr)(l4 c4:Nat)(a6:Option Addr)(l6 c6:Nat)(a7:Option Addr)(l7 c7:Nat)(B:Nat)(w:World)(h:iB w B a2 l2 a3 l3 a4 l4 a6 l6 a7 l7 x):Calls Tryz.prog 74 #[.agg #[.int .i64 s,.int .i64 t,.int .i64 k,.int .i64 z,.int .i64 p,.int .i64 l,.int .i64 e,.bool b,.int .i64 v,.int .i64 r],.agg #[.int .i64 x.n,.bool x.op,.slice a2 l2 c2,.slice a3 l3 c3,.slice a4 l4 c4,.int .i64 x.sfn,.slice a6 l6 c6,.slice a7 l7 c7]] w fun e' w'=>e'= .returned (.bool (ca s t k z p l e v r x))∧Below w.heap.size w w':=by
 rw[←okCkI_eq]
 cases hj:aF s t k z p l e v r
 ·skip
  have HE:Hid (dl s t k z p l e v r x=false):=ab (by unfold dl;rw[hj];rfl)
  go_enter Tryz.func74,Tryz.ntmps74
  go_wp2_with (first
    |(go_at_call 123;refine(aX _ _ _ _ _ _ _ _ _ _ _).mono ?_;rw[hj];rintro e' y1 ⟨rfl,hb1⟩;obtain⟨hc1,hf1,hs1⟩:=ac hb1;have hz10:w.heap.size<y1.heap.size:=(by have h9:=hb1.size;(try simp at h9);omega);have hz11:w.heap.size+1<y1.heap.size:=(by have h9:=hb1.size;(try simp at h9);omega)))
  go_ret
  exact⟨af (aa HE).symm,(ak)⟩
 obtain⟨hs3,ht2⟩:s≤3∧t≤2:=by have h9:=hj;unfold aF at h9;simp only[Bool.and_eq_true]at h9;exact⟨(aZ.1 h9.1.1.1.1.1.1.1.1).2,(aZ.1 h9.1.1.1.1.1.1.1.2).2⟩
 cases hc:cI s t k z p l e v r ⟨x.sfn,x.at_,x.ssn⟩
 ·skip
  have HE:Hid (dl s t k z p l e v r x=false):=ab (by unfold dl;rw[hj,hc];rfl)
  go_enter Tryz.func74,Tryz.ntmps74
  go_wp2_with (first
    |(go_at_call 123;refine(aX _ _ _ _ _ _ _ _ _ _ _).mono ?_;rw[hj];rintro e' y1 ⟨rfl,hb1⟩;obtain⟨hc1,hf1,hs1⟩:=ac hb1;have hz10:w.heap.size<y1.heap.size:=(by have h9:=hb1.size;(try simp at h9);omega);have hz11:w.heap.size+1<y1.heap.size:=(by have h9:=hb1.size;(try simp at h9);omega))
    |(go_at_call 124;refine(cW s t k z p l e b v r ⟨x.sfn,x.at_,x.ssn⟩ a6 l6 c6 a7 l7 c7 B _ (h.at_.below (ak)) (h.ssn.below (ak))).mono ?_;rw[hc];rintro e' y2 ⟨rfl,hb2⟩;obtain⟨hc2,hf2,hs2⟩:=ac hb2;have hz20:w.heap.size<y2.heap.size:=(by have h9:=hb2.size;(try simp at h9);omega);have hz21:w.heap.size+1<y2.heap.size:=(by have h9:=hb2.size;(try simp at h9);omega)))
  go_ret
  exact⟨af (aa HE).symm,(ak)⟩
 cases hu:dg s t k z p l e v r x
 ·skip
  have HE:Hid (dl s t k z p l e v r x=false):=ab (by unfold dl;rw[hj,hc,hu];rfl)
  go_enter Tryz.func74,Tryz.ntmps74
  go_wp2_with (first
    |(go_at_call 123;refine(aX _ _ _ _ _ _ _ _ _ _ _).mono ?_;rw[hj];rintro e' y1 ⟨rfl,hb1⟩;obtain⟨hc1,hf1,hs1⟩:=ac hb1;have hz10:w.heap.size<y1.heap.size:=(by have h9:=hb1.size;(try simp at h9);omega);have hz11:w.heap.size+1<y1.heap.size:=(by have h9:=hb1.size;(try simp at h9);omega))
    |(go_at_call 124;refine(cW s t k z p l e b v r ⟨x.sfn,x.at_,x.ssn⟩ a6 l6 c6 a7 l7 c7 B _ (h.at_.below (ak)) (h.ssn.below (ak))).mono ?_;rw[hc];rintro e' y2 ⟨rfl,hb2⟩;obtain⟨hc2,hf2,hs2⟩:=ac hb2;have hz20:w.heap.size<y2.heap.size:=(by have h9:=hb2.size;(try simp at h9);omega);have hz21:w.heap.size+1<y2.heap.size:=(by have h9:=hb2.size;(try simp at h9);omega))
    |(go_at_call 125;refine(dM s t k z p l e b v r x a2 l2 c2 a3 l3 c3 a4 l4 c4 a6 l6 c6 a7 l7 c7 B _ (h.below (ak)) hs3 ht2).mono ?_;rw[hu];rintro e' y3 ⟨rfl,hb3⟩;obtain⟨hc3,hf3,hs3'⟩:=ac hb3;have hz30:w.heap.size<y3.heap.size:=(by have h9:=hb3.size;(try simp at h9);omega);have hz31:w.heap.size+1<y3.heap.size:=(by have h9:=hb3.size;(try simp at h9);omega)))
  go_ret
  exact⟨af (aa HE).symm,(ak)⟩
 cases hi:aP x.n x.sfn 900
 ·skip
  have HE:Hid (dl s t k z p l e v r x=false):=ab (by unfold dl;rw[hj,hc,hu,hi];rfl)
  go_enter Tryz.func74,Tryz.ntmps74
  go_wp2_with (first
    |(go_at_call 123;refine(aX _ _ _ _ _ _ _ _ _ _ _).mono ?_;rw[hj];rintro e' y1 ⟨rfl,hb1⟩;obtain⟨hc1,hf1,hs1⟩:=ac hb1;have hz10:w.heap.size<y1.heap.size:=(by have h9:=hb1.size;(try simp at h9);omega);have hz11:w.heap.size+1<y1.heap.size:=(by have h9:=hb1.size;(try simp at h9);omega))
    |(go_at_call 124;refine(cW s t k z p l e b v r ⟨x.sfn,x.at_,x.ssn⟩ a6 l6 c6 a7 l7 c7 B _ (h.at_.below (ak)) (h.ssn.below (ak))).mono ?_;rw[hc];rintro e' y2 ⟨rfl,hb2⟩;obtain⟨hc2,hf2,hs2⟩:=ac hb2;have hz20:w.heap.size<y2.heap.size:=(by have h9:=hb2.size;(try simp at h9);omega);have hz21:w.heap.size+1<y2.heap.size:=(by have h9:=hb2.size;(try simp at h9);omega))
    |(go_at_call 125;refine(dM s t k z p l e b v r x a2 l2 c2 a3 l3 c3 a4 l4 c4 a6 l6 c6 a7 l7 c7 B _ (h.below (ak)) hs3 ht2).mono ?_;rw[hu];rintro e' y3 ⟨rfl,hb3⟩;obtain⟨hc3,hf3,hs3'⟩:=ac hb3;have hz30:w.heap.size<y3.heap.size:=(by have h9:=hb3.size;(try simp at h9);omega);have hz31:w.heap.size+1<y3.heap.size:=(by have h9:=hb3.size;(try simp at h9);omega))
    |(go_at_call 126;refine(ah _ _ _ _).mono ?_;rw[hi];rintro e' w5 ⟨rfl,hw⟩;obtain rfl:=hw.symm;clear hw))
  go_ret
  exact⟨af (aa HE).symm,(ak)⟩
 obtain⟨xn,xop,xsrc,xtsk,xsn,xsfn,xat,xssn⟩:=x
 dsimp only at*
 cases xop
 ·skip
  have HE:Hid (dl s t k z p l e v r ⟨xn,false,xsrc,xtsk,xsn,xsfn,xat,xssn⟩=true):=ab (by unfold dl;dsimp only;rw[hj,hc,hu,hi];rfl)
  go_enter Tryz.func74,Tryz.ntmps74
  go_wp2_with (first
    |(go_at_call 123;refine(aX _ _ _ _ _ _ _ _ _ _ _).mono ?_;rw[hj];rintro e' y1 ⟨rfl,hb1⟩;obtain⟨hc1,hf1,hs1⟩:=ac hb1;have hz10:w.heap.size<y1.heap.size:=(by have h9:=hb1.size;(try simp at h9);omega);have hz11:w.heap.size+1<y1.heap.size:=(by have h9:=hb1.size;(try simp at h9);omega))
    |(go_at_call 124;refine(cW s t k z p l e b v r ⟨xsfn,xat,xssn⟩ a6 l6 c6 a7 l7 c7 B _ (h.at_.below (ak)) (h.ssn.below (ak))).mono ?_;rw[hc];rintro e' y2 ⟨rfl,hb2⟩;obtain⟨hc2,hf2,hs2⟩:=ac hb2;have hz20:w.heap.size<y2.heap.size:=(by have h9:=hb2.size;(try simp at h9);omega);have hz21:w.heap.size+1<y2.heap.size:=(by have h9:=hb2.size;(try simp at h9);omega))
    |(go_at_call 125;refine(dM s t k z p l e b v r ⟨xn,false,xsrc,xtsk,xsn,xsfn,xat,xssn⟩ a2 l2 c2 a3 l3 c3 a4 l4 c4 a6 l6 c6 a7 l7 c7 B _ (h.below (ak)) hs3 ht2).mono ?_;rw[hu];rintro e' y3 ⟨rfl,hb3⟩;obtain⟨hc3,hf3,hs3'⟩:=ac hb3;have hz30:w.heap.size<y3.heap.size:=(by have h9:=hb3.size;(try simp at h9);omega);have hz31:w.heap.size+1<y3.heap.size:=(by have h9:=hb3.size;(try simp at h9);omega))
    |(go_at_call 126;refine(ah _ _ _ _).mono ?_;rw[hi];rintro e' w5 ⟨rfl,hw⟩;obtain rfl:=hw.symm;clear hw))
  go_ret
  exact⟨af (aa HE).symm,(ak)⟩
 ·by_cases hg:xsfn<xn
  ·skip
   have HE:Hid (dl s t k z p l e v r ⟨xn,true,xsrc,xtsk,xsn,xsfn,xat,xssn⟩=true):=ab (by unfold dl;dsimp only;rw[hj,hc,hu,hi,decide_eq_true hg];rfl)
   go_enter Tryz.func74,Tryz.ntmps74
   go_wp2_with (first
     |(go_at_call 123;refine(aX _ _ _ _ _ _ _ _ _ _ _).mono ?_;rw[hj];rintro e' y1 ⟨rfl,hb1⟩;obtain⟨hc1,hf1,hs1⟩:=ac hb1;have hz10:w.heap.size<y1.heap.size:=(by have h9:=hb1.size;(try simp at h9);omega);have hz11:w.heap.size+1<y1.heap.size:=(by have h9:=hb1.size;(try simp at h9);omega))
     |(go_at_call 124;refine(cW s t k z p l e b v r ⟨xsfn,xat,xssn⟩ a6 l6 c6 a7 l7 c7 B _ (h.at_.below (ak)) (h.ssn.below (ak))).mono ?_;rw[hc];rintro e' y2 ⟨rfl,hb2⟩;obtain⟨hc2,hf2,hs2⟩:=ac hb2;have hz20:w.heap.size<y2.heap.size:=(by have h9:=hb2.size;(try simp at h9);omega);have hz21:w.heap.size+1<y2.heap.size:=(by have h9:=hb2.size;(try simp at h9);omega))
     |(go_at_call 125;refine(dM s t k z p l e b v r ⟨xn,true,xsrc,xtsk,xsn,xsfn,xat,xssn⟩ a2 l2 c2 a3 l3 c3 a4 l4 c4 a6 l6 c6 a7 l7 c7 B _ (h.below (ak)) hs3 ht2).mono ?_;rw[hu];rintro e' y3 ⟨rfl,hb3⟩;obtain⟨hc3,hf3,hs3'⟩:=ac hb3;have hz30:w.heap.size<y3.heap.size:=(by have h9:=hb3.size;(try simp at h9);omega);have hz31:w.heap.size+1<y3.heap.size:=(by have h9:=hb3.size;(try simp at h9);omega))
     |(go_at_call 126;refine(ah _ _ _ _).mono ?_;rw[hi];rintro e' w5 ⟨rfl,hw⟩;obtain rfl:=hw.symm;clear hw))
   go_ret
   exact⟨af (aa HE).symm,(ak)⟩
  ·have hg':decide (xsfn<xn)=false:=decide_eq_false hg
   have HE:Hid (dl s t k z p l e v r ⟨xn,true,xsrc,xtsk,xsn,xsfn,xat,xssn⟩=false):=ab (by unfold dl;dsimp only;rw[hj,hc,hu,hi,hg'];rfl)
   go_enter Tryz.func74,Tryz.ntmps74
   go_wp2_with (first
     |(go_at_call 123;refine(aX _ _ _ _ _ _ _ _ _ _ _).mono ?_;rw[hj];rintro e' y1 ⟨rfl,hb1⟩;obtain⟨hc1,hf1,hs1⟩:=ac hb1;have hz10:w.heap.size<y1.heap.size:=(by have h9:=hb1.size;(try simp at h9);omega);have hz11:w.heap.size+1<y1.heap.size:=(by have h9:=hb1.size;(try simp at h9);omega))
     |(go_at_call 124;refine(cW s t k z p l e b v r ⟨xsfn,xat,xssn⟩ a6 l6 c6 a7 l7 c7 B _ (h.at_.below (ak)) (h.ssn.below (ak))).mono ?_;rw[hc];rintro e' y2 ⟨rfl,hb2⟩;obtain⟨hc2,hf2,hs2⟩:=ac hb2;have hz20:w.heap.size<y2.heap.size:=(by have h9:=hb2.size;(try simp at h9);omega);have hz21:w.heap.size+1<y2.heap.size:=(by have h9:=hb2.size;(try simp at h9);omega))
     |(go_at_call 125;refine(dM s t k z p l e b v r ⟨xn,true,xsrc,xtsk,xsn,xsfn,xat,xssn⟩ a2 l2 c2 a3 l3 c3 a4 l4 c4 a6 l6 c6 a7 l7 c7 B _ (h.below (ak)) hs3 ht2).mono ?_;rw[hu];rintro e' y3 ⟨rfl,hb3⟩;obtain⟨hc3,hf3,hs3'⟩:=ac hb3;have hz30:w.heap.size<y3.heap.size:=(by have h9:=hb3.size;(try simp at h9);omega);have hz31:w.heap.size+1<y3.heap.size:=(by have h9:=hb3.size;(try simp at h9);omega))
     |(go_at_call 126;refine(ah _ _ _ _).mono ?_;rw[hi];rintro e' w5 ⟨rfl,hw⟩;obtain rfl:=hw.symm;clear hw))
   go_ret
   exact⟨af (aa HE).symm,(ak)⟩
set_option linter.unusedSimpArgs false
set_option maxRecDepth 20000 in
set_option maxHeartbeats 4000000 in
theorem dW(a:Option Addr)(len cap:Nat)(xs:List cf)(B:Nat)(w:World)(h:eX w B a len xs):Calls Tryz.prog 170 #[.slice a len cap,.func (.func 169) #[] #[]] w fun e' w'=>e'= .returned (.bool (xs.all cf.okB))∧Below w.heap.size w w':=by
 have hm:=h.2.1
 unfold maxLen at hm
 go_enter Tryz.func170,Tryz.ntmps170
 go_wp2
 go_loopw [9] (fun i wr=>∃ix:Nat,ix≤len∧i= .int .i64 ix∧Hid ((xs.take ix).all cf.okB=true)∧Below w.heap.size w wr) (fun i _=>len - (intOf i).toNat)
 case atStart=>exact⟨0,Nat.zero_le _,rfl,ab (by simp),Below.refl _ _⟩
 case round=>
  obtain⟨ix,hk,rfl,hA,hbw⟩:=hrel
  by_cases hlt:ix<len
  ·obtain⟨hxl,_,hx⟩:=h
   obtain⟨g,o,rfl,_,hr⟩:=hx.resolve_left (by omega)
   obtain⟨x,hxk⟩:∃x,xs[ix]? =some x:=⟨_,List.getElem?_eq_getElem (by omega)⟩
   have hX:=ab hxk
   obtain⟨a1,l1,c1,a2,l2,c2,⟨d0,d1,d2⟩,k1,k2⟩:=(hr ix _ hxk).below hbw
   have hfold:bj x.n x.ps x.ls=x.okB:=rfl
   clear hx hxk hr
   cases hB:cf.okB x
   ·have HE:Hid (xs.all cf.okB=false):=ab (all_ff (aa hX) hB)
    go_wp2_with (go_at_call 169;refine(fq x.n a1 l1 c1 a2 l2 c2 x.ps x.ls _ (k1.1.below (ak)) (k2.1.below (ak))).mono ?_;rw[hfold,hB];rintro e' wf ⟨rfl,hbf⟩)
    go_ret
    exact⟨af (aa HE).symm,(ak)⟩
   ·have HE:Hid ((xs.take (ix+1)).all cf.okB=true):=ab (all_tt (aa hA) (aa hX) hB)
    go_wp2_with (go_at_call 169;refine(fq x.n a1 l1 c1 a2 l2 c2 x.ps x.ls _ (k1.1.below (ak)) (k2.1.below (ak))).mono ?_;rw[hfold,hB];rintro e' wf ⟨rfl,hbf⟩)
    go_roundw
    case rel=>exact⟨ix+1,by omega,by go_num,HE,(ak)⟩
    case measure=>simp[intOf];omega
  ·have HE:Hid (xs.all cf.okB=true):=ab (cu (aa hA) (by have:=h.1;omega))
   go_wp2
   go_ret
   exact⟨af (aa HE).symm,hbw⟩
set_option maxRecDepth 20000 in
set_option maxHeartbeats 4000000 in
theorem cX(x:bC)(a0:Option Addr)(l0 c0:Nat)(a2:Option Addr)(l2 c2:Nat)(a3:Option Addr)(l3 c3:Nat)(B:Nat)(w:World)(h:eX w B a0 l0 x.rd):Calls Tryz.prog 171 #[.agg #[.slice a0 l0 c0,.int .i64 x.n,.slice a2 l2 c2,.slice a3 l3 c3]] w fun e' w'=>e'= .returned (.bool (bv x.n x.rd))∧Below w.heap.size w w':=by
 have hm:=h.2.1
 unfold maxLen at hm
 have HH:=ab (h.below (ai w (.cells #[.slice a0 l0 c0,.int .i64 x.n,.slice a2 l2 c2,.slice a3 l3 c3] 74)))
 have HB0:=ab (ai w (.cells #[.slice a0 l0 c0,.int .i64 x.n,.slice a2 l2 c2,.slice a3 l3 c3] 74))
 have hxl:=h.1
 clear h
 go_enter Tryz.func171,Tryz.ntmps171
 go_wp2
 generalize hw0:w.alloc (.cells #[.slice a0 l0 c0,.int .i64 x.n,.slice a2 l2 c2,.slice a3 l3 c3] 74)=w0 at HH HB0 ⊢
 clear hw0
 go_loopw [3,11] (fun la i wr=>∃ix:Nat,ix≤l0∧i= .int .i64 ix∧la= .int .i64 (dI x.n (x.rd.take ix))∧Hid (bv x.n (x.rd.take ix)=true)∧Below w0.heap.size w0 wr) (fun _ i _=>l0 - (intOf i).toNat)
 case atStart=>exact⟨0,Nat.zero_le _,rfl,rfl,ab rfl,Below.refl _ _⟩
 case round=>
  obtain⟨ix,hk,rfl,rfl,hA,hbw⟩:=hrel
  by_cases hlt:ix<l0
  ·obtain⟨_,_,hx⟩:=aa HH
   obtain⟨g,o,rfl,_,hr⟩:=hx.resolve_left (by omega)
   obtain⟨y,hy⟩:∃y,x.rd[ix]? =some y:=⟨_,List.getElem?_eq_getElem (by omega)⟩
   have hX:=ab hy
   obtain⟨a1,l1,c1,b2,m2,n2,⟨d0,d1,d2⟩,k1,k2⟩:=(hr ix _ hy).below hbw
   clear hx hy hr
   by_cases hB:dI x.n (x.rd.take ix)<y.n
   ·have HE:=ab (gp (aa hA) (aa hX) hB)
    have HL:=ab (iZ (n:=x.n) (aa hX))
    have hd:decide (y.n≤dI x.n (x.rd.take ix))=false:=decide_eq_false (by omega)
    generalize dI x.n (x.rd.take ix)=la at hB hd ⊢
    go_wp2
    go_roundw
    case rel=>exact⟨ix+1,by omega,by go_num,by rw[aa HL],HE,ae hbw (ak)⟩
    case measure=>simp[intOf];omega
   ·have HE:=ab (iq (aa hX) hB)
    have hd:decide (y.n≤dI x.n (x.rd.take ix))=true:=decide_eq_true (by omega)
    generalize dI x.n (x.rd.take ix)=la at hB hd ⊢
    go_wp2
    go_ret
    exact⟨af (aa HE).symm,ae (aa HB0) (ae hbw (ak))⟩
  ·have HE:Hid (bv x.n x.rd=true):=ab (by have h9:=aa hA;rwa [List.take_of_length_le (by omega)]at h9)
   go_wp2
   go_ret
   exact⟨af (aa HE).symm,ae (aa HB0) hbw⟩
set_option maxRecDepth 20000 in
set_option maxHeartbeats 8000000 in
theorem iA(x:bC)(a0:Option Addr)(l0 c0:Nat)(a2:Option Addr)(l2 c2:Nat)(a3:Option Addr)(l3 c3:Nat)(B:Nat)(w:World)(h0:eX w B a0 l0 x.rd)(h2:cQ w B a2 l2 x.ps)(h3:cS w B a3 l3 x.ls):Calls Tryz.prog 133 #[.agg #[.slice a0 l0 c0,.int .i64 x.n,.slice a2 l2 c2,.slice a3 l3 c3]] w fun e' w'=>e'= .returned (.bool x.okB)∧Below w.heap.size w w':=by
 have hm0:=h0.len
 have hm2:=h2.len
 have hm3:=h3.len
 unfold maxLen at hm0 hm2 hm3
 cases q0:decide (x.rd.length≤12)
 ·have HE:Hid (x.okB=false):=ab (by unfold bC.okB;simp only[q0,Bool.and_false,Bool.false_and])
  have d0:¬ (l0:Int)≤12:=by have:=of_decide_eq_false q0;omega
  have D0:decide ((l0:Int)≤12)=false:=decide_eq_false d0
  clear d0
  go_enter Tryz.func133,Tryz.ntmps133
  go_wp2
  go_ret
  exact⟨af (aa HE).symm,(ak)⟩
 have D0:decide ((l0:Int)≤12)=true:=decide_eq_true (by have:=of_decide_eq_true q0;omega)
 cases q1:x.rd.all cf.okB
 ·have HE:Hid (x.okB=false):=ab (by unfold bC.okB;simp only[q1,Bool.and_false,Bool.false_and])
  go_enter Tryz.func133,Tryz.ntmps133
  go_wp2_with (first
   |(go_at_call 170;refine(dW a0 l0 c0 x.rd B _ (h0.below (ak))).mono ?_;rw[q1];rintro e' y1 ⟨rfl,hb1⟩;obtain⟨hc1,hf1,hs1⟩:=ac hb1;have hz1:w.heap.size<y1.heap.size:=(by have h9:=hb1.size;(try simp at h9);omega)))
  go_ret
  exact⟨af (aa HE).symm,(ak)⟩
 cases q2:bv x.n x.rd
 ·have HE:Hid (x.okB=false):=ab (by unfold bC.okB;simp only[q2,Bool.and_false,Bool.false_and])
  go_enter Tryz.func133,Tryz.ntmps133
  go_wp2_with (first
   |(go_at_call 170;refine(dW a0 l0 c0 x.rd B _ (h0.below (ak))).mono ?_;rw[q1];rintro e' y1 ⟨rfl,hb1⟩;obtain⟨hc1,hf1,hs1⟩:=ac hb1;have hz1:w.heap.size<y1.heap.size:=(by have h9:=hb1.size;(try simp at h9);omega))
   |(go_at_call 171;refine(cX x a0 l0 c0 a2 l2 c2 a3 l3 c3 B _ (h0.below (ak))).mono ?_;rw[q2];rintro e' y2 ⟨rfl,hb2⟩;obtain⟨hc2,hf2,hs2⟩:=ac hb2;have hz2:w.heap.size<y2.heap.size:=(by have h9:=hb2.size;(try simp at h9);omega)))
  go_ret
  exact⟨af (aa HE).symm,(ak)⟩
 cases q3:aP x.n 0 900
 ·have HE:Hid (x.okB=false):=ab (by unfold bC.okB;simp only[q3,Bool.and_false,Bool.false_and])
  go_enter Tryz.func133,Tryz.ntmps133
  go_wp2_with (first
   |(go_at_call 170;refine(dW a0 l0 c0 x.rd B _ (h0.below (ak))).mono ?_;rw[q1];rintro e' y1 ⟨rfl,hb1⟩;obtain⟨hc1,hf1,hs1⟩:=ac hb1;have hz1:w.heap.size<y1.heap.size:=(by have h9:=hb1.size;(try simp at h9);omega))
   |(go_at_call 171;refine(cX x a0 l0 c0 a2 l2 c2 a3 l3 c3 B _ (h0.below (ak))).mono ?_;rw[q2];rintro e' y2 ⟨rfl,hb2⟩;obtain⟨hc2,hf2,hs2⟩:=ac hb2;have hz2:w.heap.size<y2.heap.size:=(by have h9:=hb2.size;(try simp at h9);omega))
   |(go_at_call 126;refine(ah _ _ _ _).mono ?_;rw[q3];rintro e' w5 ⟨rfl,hw⟩;obtain rfl:=hw.symm;clear hw))
  go_ret
  exact⟨af (aa HE).symm,(ak)⟩
 cases q4:decide (x.ps.length≤1500)
 ·have HE:Hid (x.okB=false):=ab (by unfold bC.okB;simp only[q4,Bool.and_false,Bool.false_and])
  have d4:¬ (l2:Int)≤1500:=by have:=of_decide_eq_false q4;omega
  have D4:decide ((l2:Int)≤1500)=false:=decide_eq_false d4
  clear d4
  go_enter Tryz.func133,Tryz.ntmps133
  go_wp2_with (first
   |(go_at_call 170;refine(dW a0 l0 c0 x.rd B _ (h0.below (ak))).mono ?_;rw[q1];rintro e' y1 ⟨rfl,hb1⟩;obtain⟨hc1,hf1,hs1⟩:=ac hb1;have hz1:w.heap.size<y1.heap.size:=(by have h9:=hb1.size;(try simp at h9);omega))
   |(go_at_call 171;refine(cX x a0 l0 c0 a2 l2 c2 a3 l3 c3 B _ (h0.below (ak))).mono ?_;rw[q2];rintro e' y2 ⟨rfl,hb2⟩;obtain⟨hc2,hf2,hs2⟩:=ac hb2;have hz2:w.heap.size<y2.heap.size:=(by have h9:=hb2.size;(try simp at h9);omega))
   |(go_at_call 126;refine(ah _ _ _ _).mono ?_;rw[q3];rintro e' w5 ⟨rfl,hw⟩;obtain rfl:=hw.symm;clear hw))
  go_ret
  exact⟨af (aa HE).symm,(ak)⟩
 have D4:decide ((l2:Int)≤1500)=true:=decide_eq_true (by have:=of_decide_eq_true q4;omega)
 cases q5:decide (x.ls.length≤1500)
 ·have HE:Hid (x.okB=false):=ab (by unfold bC.okB;simp only[q5,Bool.and_false,Bool.false_and])
  have d5:¬ (l3:Int)≤1500:=by have:=of_decide_eq_false q5;omega
  have D5:decide ((l3:Int)≤1500)=false:=decide_eq_false d5
  clear d5
  go_enter Tryz.func133,Tryz.ntmps133
  go_wp2_with (first
   |(go_at_call 170;refine(dW a0 l0 c0 x.rd B _ (h0.below (ak))).mono ?_;rw[q1];rintro e' y1 ⟨rfl,hb1⟩;obtain⟨hc1,hf1,hs1⟩:=ac hb1;have hz1:w.heap.size<y1.heap.size:=(by have h9:=hb1.size;(try simp at h9);omega))
   |(go_at_call 171;refine(cX x a0 l0 c0 a2 l2 c2 a3 l3 c3 B _ (h0.below (ak))).mono ?_;rw[q2];rintro e' y2 ⟨rfl,hb2⟩;obtain⟨hc2,hf2,hs2⟩:=ac hb2;have hz2:w.heap.size<y2.heap.size:=(by have h9:=hb2.size;(try simp at h9);omega))
   |(go_at_call 126;refine(ah _ _ _ _).mono ?_;rw[q3];rintro e' w5 ⟨rfl,hw⟩;obtain rfl:=hw.symm;clear hw))
  go_ret
  exact⟨af (aa HE).symm,(ak)⟩
 have D5:decide ((l3:Int)≤1500)=true:=decide_eq_true (by have:=of_decide_eq_true q5;omega)
 cases q6:x.ps.all cx.okB
 ·have HE:Hid (x.okB=false):=ab (by unfold bC.okB;simp only[q6,Bool.and_false,Bool.false_and])
  go_enter Tryz.func133,Tryz.ntmps133
  go_wp2_with (first
   |(go_at_call 170;refine(dW a0 l0 c0 x.rd B _ (h0.below (ak))).mono ?_;rw[q1];rintro e' y1 ⟨rfl,hb1⟩;obtain⟨hc1,hf1,hs1⟩:=ac hb1;have hz1:w.heap.size<y1.heap.size:=(by have h9:=hb1.size;(try simp at h9);omega))
   |(go_at_call 171;refine(cX x a0 l0 c0 a2 l2 c2 a3 l3 c3 B _ (h0.below (ak))).mono ?_;rw[q2];rintro e' y2 ⟨rfl,hb2⟩;obtain⟨hc2,hf2,hs2⟩:=ac hb2;have hz2:w.heap.size<y2.heap.size:=(by have h9:=hb2.size;(try simp at h9);omega))
   |(go_at_call 126;refine(ah _ _ _ _).mono ?_;rw[q3];rintro e' w5 ⟨rfl,hw⟩;obtain rfl:=hw.symm;clear hw)
   |(go_at_call 172;refine(bw a2 l2 c2 x.ps _ (h2.1.below (ak))).mono ?_;rw[q6];rintro e' y6 ⟨rfl,hb6⟩;obtain⟨hc6,hf6,hs6⟩:=ac hb6;have hz6:w.heap.size<y6.heap.size:=(by have h9:=hb6.size;(try simp at h9);omega)))
  go_ret
  exact⟨af (aa HE).symm,(ak)⟩
 cases q7:x.ls.all cq.okB
 ·have HE:Hid (x.okB=false):=ab (by unfold bC.okB;simp only[q7,Bool.and_false,Bool.false_and])
  go_enter Tryz.func133,Tryz.ntmps133
  go_wp2_with (first
   |(go_at_call 170;refine(dW a0 l0 c0 x.rd B _ (h0.below (ak))).mono ?_;rw[q1];rintro e' y1 ⟨rfl,hb1⟩;obtain⟨hc1,hf1,hs1⟩:=ac hb1;have hz1:w.heap.size<y1.heap.size:=(by have h9:=hb1.size;(try simp at h9);omega))
   |(go_at_call 171;refine(cX x a0 l0 c0 a2 l2 c2 a3 l3 c3 B _ (h0.below (ak))).mono ?_;rw[q2];rintro e' y2 ⟨rfl,hb2⟩;obtain⟨hc2,hf2,hs2⟩:=ac hb2;have hz2:w.heap.size<y2.heap.size:=(by have h9:=hb2.size;(try simp at h9);omega))
   |(go_at_call 126;refine(ah _ _ _ _).mono ?_;rw[q3];rintro e' w5 ⟨rfl,hw⟩;obtain rfl:=hw.symm;clear hw)
   |(go_at_call 172;refine(bw a2 l2 c2 x.ps _ (h2.1.below (ak))).mono ?_;rw[q6];rintro e' y6 ⟨rfl,hb6⟩;obtain⟨hc6,hf6,hs6⟩:=ac hb6;have hz6:w.heap.size<y6.heap.size:=(by have h9:=hb6.size;(try simp at h9);omega))
   |(go_at_call 174;refine(bQ a3 l3 c3 x.ls _ (h3.1.below (ak))).mono ?_;rw[q7];rintro e' y7 ⟨rfl,hb7⟩;obtain⟨hc7,hf7,hs7⟩:=ac hb7;have hz7:w.heap.size<y7.heap.size:=(by have h9:=hb7.size;(try simp at h9);omega)))
  go_ret
  exact⟨af (aa HE).symm,(ak)⟩
 have HE:Hid (x.okB=true):=ab (by unfold bC.okB;simp only[q0,q1,q2,q3,q4,q5,q6,q7,Bool.and_true])
 go_enter Tryz.func133,Tryz.ntmps133
 go_wp2_with (first
   |(go_at_call 170;refine(dW a0 l0 c0 x.rd B _ (h0.below (ak))).mono ?_;rw[q1];rintro e' y1 ⟨rfl,hb1⟩;obtain⟨hc1,hf1,hs1⟩:=ac hb1;have hz1:w.heap.size<y1.heap.size:=(by have h9:=hb1.size;(try simp at h9);omega))
   |(go_at_call 171;refine(cX x a0 l0 c0 a2 l2 c2 a3 l3 c3 B _ (h0.below (ak))).mono ?_;rw[q2];rintro e' y2 ⟨rfl,hb2⟩;obtain⟨hc2,hf2,hs2⟩:=ac hb2;have hz2:w.heap.size<y2.heap.size:=(by have h9:=hb2.size;(try simp at h9);omega))
   |(go_at_call 126;refine(ah _ _ _ _).mono ?_;rw[q3];rintro e' w5 ⟨rfl,hw⟩;obtain rfl:=hw.symm;clear hw)
   |(go_at_call 172;refine(bw a2 l2 c2 x.ps _ (h2.1.below (ak))).mono ?_;rw[q6];rintro e' y6 ⟨rfl,hb6⟩;obtain⟨hc6,hf6,hs6⟩:=ac hb6;have hz6:w.heap.size<y6.heap.size:=(by have h9:=hb6.size;(try simp at h9);omega))
   |(go_at_call 174;refine(bQ a3 l3 c3 x.ls _ (h3.1.below (ak))).mono ?_;rw[q7];rintro e' y7 ⟨rfl,hb7⟩;obtain⟨hc7,hf7,hs7⟩:=ac hb7;have hz7:w.heap.size<y7.heap.size:=(by have h9:=hb7.size;(try simp at h9);omega)))
 go_ret
 exact⟨af (aa HE).symm,(ak)⟩
set_option maxRecDepth 20000 in
set_option maxHeartbeats 4000000 in
theorem everySk(a:Option Addr)(len cap:Nat)(xs:List bC)(B:Nat)(w:World)(h:fa w B a len xs):Calls Tryz.prog 132 #[.slice a len cap,.func (.func 133) #[] #[]] w fun e' w'=>e'= .returned (.bool (xs.all bC.okB))∧Below w.heap.size w w':=by
 have hm:=h.2.1
 unfold maxLen at hm
 go_enter Tryz.func132,Tryz.ntmps132
 go_wp2
 go_loopw [9] (fun i wr=>∃ix:Nat,ix≤len∧i= .int .i64 ix∧Hid ((xs.take ix).all bC.okB=true)∧Below w.heap.size w wr) (fun i _=>len - (intOf i).toNat)
 case atStart=>exact⟨0,Nat.zero_le _,rfl,ab (by simp),Below.refl _ _⟩
 case round=>
  obtain⟨ix,hk,rfl,hA,hbw⟩:=hrel
  by_cases hlt:ix<len
  ·obtain⟨hxl,_,hx⟩:=h
   obtain⟨g,o,rfl,_,hr⟩:=hx.resolve_left (by omega)
   obtain⟨x,hxk⟩:∃x,xs[ix]? =some x:=⟨_,List.getElem?_eq_getElem (by omega)⟩
   have hX:=ab hxk
   obtain⟨a0,l0,c0,a2,l2,c2,a3,l3,c3,⟨d0,d1,d2,d3⟩,k0,k2,k3⟩:=(hr ix _ hxk).below hbw
   clear hx hxk hr
   cases hB:bC.okB x
   ·have HE:Hid (xs.all bC.okB=false):=ab (all_ff (aa hX) hB)
    go_wp2_with (go_at_call 133;refine(iA x a0 l0 c0 a2 l2 c2 a3 l3 c3 B _ (k0.below (ak)) (k2.below (ak)) (k3.below (ak))).mono ?_;rw[hB];rintro e' wf ⟨rfl,hbf⟩)
    go_ret
    exact⟨af (aa HE).symm,(ak)⟩
   ·have HE:Hid ((xs.take (ix+1)).all bC.okB=true):=ab (all_tt (aa hA) (aa hX) hB)
    go_wp2_with (go_at_call 133;refine(iA x a0 l0 c0 a2 l2 c2 a3 l3 c3 B _ (k0.below (ak)) (k2.below (ak)) (k3.below (ak))).mono ?_;rw[hB];rintro e' wf ⟨rfl,hbf⟩)
    go_roundw
    case rel=>exact⟨ix+1,by omega,by go_num,HE,(ak)⟩
    case measure=>simp[intOf];omega
  ·have HE:Hid (xs.all bC.okB=true):=ab (cu (aa hA) (by have:=h.1;omega))
   go_wp2
   go_ret
   exact⟨af (aa HE).symm,hbw⟩
set_option linter.unusedSimpArgs false
set_option maxRecDepth 20000 in
set_option maxHeartbeats 4000000 in
theorem everyLg(a:Option Addr)(len cap:Nat)(xs:List bS)(B:Nat)(w:World)(h:ep w B a len xs):Calls Tryz.prog 127 #[.slice a len cap,.func (.func 128) #[] #[]] w fun e' w'=>e'= .returned (.bool (xs.all bS.okB))∧Below w.heap.size w w':=by
 have hm:=h.2.1
 unfold maxLen at hm
 go_enter Tryz.func127,Tryz.ntmps127
 go_wp2
 go_loopw [9] (fun i wr=>∃ix:Nat,ix≤len∧i= .int .i64 ix∧Hid ((xs.take ix).all bS.okB=true)∧Below w.heap.size w wr) (fun i _=>len - (intOf i).toNat)
 case atStart=>exact⟨0,Nat.zero_le _,rfl,ab (by simp),Below.refl _ _⟩
 case round=>
  obtain⟨ix,hk,rfl,hA,hbw⟩:=hrel
  by_cases hlt:ix<len
  ·obtain⟨hxl,_,hx⟩:=h
   obtain⟨g,o,rfl,_,hr⟩:=hx.resolve_left (by omega)
   obtain⟨x,hxk⟩:∃x,xs[ix]? =some x:=⟨_,List.getElem?_eq_getElem (by omega)⟩
   have hX:=ab hxk
   obtain⟨a0,l0,c0,d0,k0⟩:=(hr ix _ hxk).below hbw
   rw[Nat.mul_one]at d0
   have hfold:bu (x.q.map ju)=x.okB:=rfl
   clear hx hxk hr
   cases hB:bS.okB x
   ·have HE:Hid (xs.all bS.okB=false):=ab (all_ff (aa hX) hB)
    go_wp2_with (go_at_call 128;refine(gE a0 l0 c0 (x.q.map ju) _ (im (k0.1.below (ak)))).mono ?_;rw[hfold,hB];rintro e' wf ⟨rfl,hbf⟩)
    go_ret
    exact⟨af (aa HE).symm,(ak)⟩
   ·have HE:Hid ((xs.take (ix+1)).all bS.okB=true):=ab (all_tt (aa hA) (aa hX) hB)
    go_wp2_with (go_at_call 128;refine(gE a0 l0 c0 (x.q.map ju) _ (im (k0.1.below (ak)))).mono ?_;rw[hfold,hB];rintro e' wf ⟨rfl,hbf⟩)
    go_roundw
    case rel=>exact⟨ix+1,by omega,by go_num,HE,(ak)⟩
    case measure=>simp[intOf];omega
  ·have HE:Hid (xs.all bS.okB=true):=ab (cu (aa hA) (by have:=h.1;omega))
   go_wp2
   go_ret
   exact⟨af (aa HE).symm,hbw⟩
/-- What tasks ask of a flow's box. -/
def FlJ(X:fW)(W:World)(jb:Nat):Prop:=eR X.s X.t X.k X.z X.p X.l X.e X.v X.r X.b W jb∧W.cell? ⟨jb,14,none⟩=some (.int .i64 X.n)
theorem FlJ.bel{X:fW}{W W':World}{jb B:Nat}(h:FlJ X W jb)(hb:Below B W W')(hB:jb<B):FlJ X W' jb:=⟨h.1.bel hb hB,(hb.cell (p:=⟨jb,14,none⟩) hB).trans h.2⟩
set_option maxRecDepth 20000 in
set_option maxHeartbeats 4000000 in
theorem tclo_any(X:fW)(jb:Nat)(x:dr)(a0:Option Addr)(l0 c0:Nat)(a2:Option Addr)(l2 c2:Nat)(a5:Option Addr)(l5 c5:Nat)(a6:Option Addr)(l6 c6:Nat)(B:Nat)(w:World)(h0:fC w B a0 l0 x.ins)(h2:dN w B a2 l2 x.rows)(h5:cQ w B a5 l5 x.ps)(h6:cS w B a6 l6 x.ls)(hj:FlJ X w jb)(hjb:jb<w.heap.size):Calls Tryz.prog 130 #[.agg #[.slice a0 l0 c0,.int .i64 x.om,.slice a2 l2 c2,.int .i64 x.wl,.int .i64 x.pn,.slice a5 l5 c5,.slice a6 l6 c6],.pointer (some ⟨jb,0,none⟩)] w fun e' w'=>e'= .returned (.bool (bz X.s X.t X.k X.z X.p X.l X.e X.v X.r X.n x))∧Below w.heap.size w w':=by
 have hj2:=hj.bel (ai w (.cells #[.slice a0 l0 c0,.int .i64 x.om,.slice a2 l2 c2,.int .i64 x.wl,.int .i64 x.pn,.slice a5 l5 c5,.slice a6 l6 c6] 140)) hjb
 unfold FlJ eR at hj2
 obtain⟨⟨j0,j1,j2,j3,j4,j5,j6,j7,j8,j9⟩,j14⟩:=hj2
 cases q1:bc X.s X.t X.k X.z X.p X.l X.e X.v X.r x.om x.wl x.pn ⟨x.ins,x.rows,x.ps,x.ls⟩
 ·have HE:Hid (bz X.s X.t X.k X.z X.p X.l X.e X.v X.r X.n x=false):=ab (by unfold bz;rw[q1];rfl)
  go_enter Tryz.func130,Tryz.ntmps130
  go_wp2_with (go_at_call 131;refine(fJ X.s X.t X.k X.z X.p X.l X.e X.b X.v X.r a0 l0 c0 x.om a2 l2 c2 x.wl x.pn a5 l5 c5 a6 l6 c6 ⟨x.ins,x.rows,x.ps,x.ls⟩ B _ ⟨h0.below (ak),h2.below (ak),h5.below (ak),h6.below (ak)⟩).mono ?_;rw[q1];rintro e' y1 ⟨rfl,hb1⟩)
  go_ret
  exact⟨af (aa HE).symm,(ak)⟩
 ·have HE:Hid (bz X.s X.t X.k X.z X.p X.l X.e X.v X.r X.n x=decide (x.wl≤X.n)):=ab (by
   unfold bz;rw[q1,Bool.true_and]
   by_cases h:X.n<x.wl
   ·rw[decide_eq_true h,decide_eq_false (by omega)];rfl
   ·rw[decide_eq_false h,decide_eq_true (by omega)];rfl)
  have zjw:jb<w.heap.size:=hjb
  go_enter Tryz.func130,Tryz.ntmps130
  go_wp2_with (go_at_call 131;refine(fJ X.s X.t X.k X.z X.p X.l X.e X.b X.v X.r a0 l0 c0 x.om a2 l2 c2 x.wl x.pn a5 l5 c5 a6 l6 c6 ⟨x.ins,x.rows,x.ps,x.ls⟩ B _ ⟨h0.below (ak),h2.below (ak),h5.below (ak),h6.below (ak)⟩).mono ?_;rw[q1];rintro e' y1 ⟨rfl,hb1⟩;obtain⟨hc1,hf1,hs1⟩:=ac hb1;have k14:=(hj.bel (ae (ai w (.cells #[.slice a0 l0 c0,.int .i64 x.om,.slice a2 l2 c2,.int .i64 x.wl,.int .i64 x.pn,.slice a5 l5 c5,.slice a6 l6 c6] 140)) hb1) hjb).2;have hz1:w.heap.size<y1.heap.size:=(by have h9:=hb1.size;(try simp at h9);omega))
  go_ret
  exact⟨af (aa HE).symm,(ak)⟩
set_option maxRecDepth 20000 in
set_option maxHeartbeats 4000000 in
theorem everyTk(X:fW)(jb:Nat)(a:Option Addr)(len cap:Nat)(xs:List dr)(B:Nat)(w:World)(h:eQ w B a len xs)(hj:FlJ X w jb)(hjb:jb<w.heap.size):Calls Tryz.prog 129 #[.slice a len cap,.func (.func 130) #[] #[.pointer (some ⟨jb,0,none⟩)]] w fun e' w'=>e'= .returned (.bool (xs.all (bz X.s X.t X.k X.z X.p X.l X.e X.v X.r X.n)))∧Below w.heap.size w w':=by
 have hm:=h.2.1
 unfold maxLen at hm
 go_enter Tryz.func129,Tryz.ntmps129
 go_wp2
 go_loopw [9] (fun i wr=>∃ix:Nat,ix≤len∧i= .int .i64 ix∧Hid ((xs.take ix).all (bz X.s X.t X.k X.z X.p X.l X.e X.v X.r X.n)=true)∧Below w.heap.size w wr) (fun i _=>len - (intOf i).toNat)
 case atStart=>exact⟨0,Nat.zero_le _,rfl,ab (by simp),Below.refl _ _⟩
 case round=>
  obtain⟨ix,hk,rfl,hA,hbw⟩:=hrel
  by_cases hlt:ix<len
  ·obtain⟨hxl,_,hx⟩:=h
   obtain⟨g,o,rfl,_,hr⟩:=hx.resolve_left (by omega)
   obtain⟨x,hxk⟩:∃x,xs[ix]? =some x:=⟨_,List.getElem?_eq_getElem (by omega)⟩
   have hX:=ab hxk
   obtain⟨a0,l0,c0,a2,l2,c2,a5,l5,c5,a6,l6,c6,⟨d0,d1,d2,d3,d4,d5,d6⟩,k0,k2,k5,k6⟩:=(hr ix _ hxk).below hbw
   have hjw:=hj.bel hbw hjb
   have hjz:jb<wr.heap.size:=Nat.lt_of_lt_of_le hjb hbw.size
   clear hx hxk hr
   cases hB:bz X.s X.t X.k X.z X.p X.l X.e X.v X.r X.n x
   ·have HE:Hid (xs.all (bz X.s X.t X.k X.z X.p X.l X.e X.v X.r X.n)=false):=ab (all_ff (aa hX) hB)
    go_wp2_with (go_at_call 130;refine(tclo_any X jb x a0 l0 c0 a2 l2 c2 a5 l5 c5 a6 l6 c6 B _ (k0.below (ak)) (k2.below (ak)) (k5.below (ak)) (k6.below (ak)) (hjw.bel (B:=wr.heap.size) (ak) hjz) (jH)).mono ?_;rw[hB];rintro e' wf ⟨rfl,hbf⟩)
    go_ret
    exact⟨af (aa HE).symm,(ak)⟩
   ·have HE:Hid ((xs.take (ix+1)).all (bz X.s X.t X.k X.z X.p X.l X.e X.v X.r X.n)=true):=ab (all_tt (aa hA) (aa hX) hB)
    go_wp2_with (go_at_call 130;refine(tclo_any X jb x a0 l0 c0 a2 l2 c2 a5 l5 c5 a6 l6 c6 B _ (k0.below (ak)) (k2.below (ak)) (k5.below (ak)) (k6.below (ak)) (hjw.bel (B:=wr.heap.size) (ak) hjz) (jH)).mono ?_;rw[hB];rintro e' wf ⟨rfl,hbf⟩)
    go_roundw
    case rel=>exact⟨ix+1,by omega,by go_num,HE,(ak)⟩
    case measure=>simp[intOf];omega
  ·have HE:Hid (xs.all (bz X.s X.t X.k X.z X.p X.l X.e X.v X.r X.n)=true):=ab (cu (aa hA) (by have:=h.1;omega))
   go_wp2
   go_ret
   exact⟨af (aa HE).symm,hbw⟩
end Go.Proofs.YtealpjmannopeaaGreat
