/- Laid together: what the claim needs of the texts that were built one by one. -/
import Derived.Test.YtealpjmannopeaaGreatV23
import Derived.Test.YtealpjmannopeaaGreatV13
import Derived.Test.YtealpjmannopeaaGreatV0
import Derived.Test.YtealpjmannopeaaGreatV16
import Derived.Test.YtealpjmannopeaaGreatV5
import Derived.Test.YtealpjmannopeaaGreatV22
import Derived.Test.YtealpjmannopeaaGreatV15
import Derived.RangeFuncNested
import Derived.RangeFuncBound
import Derived.RangeFuncCalls
import Derived.RangeFuncLeaves
import Derived.RangeFuncBox
import Derived.Shelf.Abstract
import Derived.Shelf.RegionOpen
import Derived.WalkKit
import Derived.OwnWalkIn
import Derived.TacticsInMore
import Derived.LoopNIn
import Derived.LoopIn
set_option linter.unusedVariables false
namespace Go.Proofs.YtealpjmannopeaaGreat
open Go.ChangeShapes Go.WideShapes Go.ChangeAt Go.RowKit Go.Deep
theorem noth_any(x:cv)(a1:Option Addr)(l1 c1:Nat)(a2:Option Addr)(l2 c2:Nat)(w:World)(h1:x.rows.length=l1)(h2:x.marks.length=l2):Calls Tryz.prog 162 #[.agg #[.int .i64 x.ma,.slice a1 l1 c1,.slice a2 l2 c2]] w fun e' w'=>e'= .returned (.bool (bd x))∧Below w.heap.size w w':=by
 by_cases hm:x.ma=0
 rotate_left
 ·have hm1:(x.ma==0)=false:=beq_eq_false_iff_ne.2 hm
  have HE:Hid (bd x=false):=ab (by unfold bd;rw[hm1];rfl)
  go_enter Tryz.func162,Tryz.ntmps162
  go_wp2
  go_ret
  exact⟨af (aa HE).symm,(ak)⟩
 have hm1:(x.ma==0)=true:=by simp[hm]
 by_cases hr:l1=0
 rotate_left
 ·have hr1:((l1:Int)==0)=false:=beq_eq_false_iff_ne.2 (by omega)
  have HE:Hid (bd x=false):=ab (by unfold bd;rw[decide_eq_false (by omega)];simp)
  go_enter Tryz.func162,Tryz.ntmps162
  go_wp2
  go_ret
  exact⟨af (aa HE).symm,(ak)⟩
 subst hr
 by_cases hk:l2=0
 rotate_left
 ·have hr1:((l2:Int)==0)=false:=beq_eq_false_iff_ne.2 (by omega)
  have HE:Hid (bd x=false):=ab (by unfold bd;rw[decide_eq_false (by omega)];simp)
  go_enter Tryz.func162,Tryz.ntmps162
  go_wp2
  go_ret
  exact⟨af (aa HE).symm,(ak)⟩
 subst hk
 have HE:Hid (bd x=true):=ab (by unfold bd;rw[hm1,decide_eq_true (by omega)];rfl)
 go_enter Tryz.func162,Tryz.ntmps162
 go_wp2
 go_ret
 exact⟨af (aa HE).symm,(ak)⟩
/-- Whether a task may have told that, if one is under way. -/
def gd(s t k z p l e v r:Int)(q:Bool×cv):Bool:=match q.1 with
 |true=>bG s t k z p l e v r q.2
 |false=>bd q.2
def db(s t k z p l e v r:Int)(x:iw):Bool:=decide ((x.src.length:Int)=s)&&decide ((x.tsk.length:Int)=t)&&decide ((x.sn.length:Int)=t)&&x.src.all cC&&(x.tsk.zip x.sn).all (gd s t k z p l e v r)&&(x.op||decide (fR x.src x.tsk=0))
theorem fj{s t k z p l e v r:Int}{x:iw}(h:db s t k z p l e v r x=true):(x.src.length:Int)=s∧(x.tsk.length:Int)=t∧(x.sn.length:Int)=t∧x.src.all cC=true∧(x.tsk.zip x.sn).all (gd s t k z p l e v r)=true:=by
 unfold db at h
 simp only[Bool.and_eq_true,decide_eq_true_eq]at h
 exact⟨h.1.1.1.1.1,h.1.1.1.1.2,h.1.1.1.2,h.1.1.2,h.1.2⟩
theorem toldB_val{s t k z p l e v r:Int}{x:iw}(h1:(x.src.length:Int)=s)(h2:(x.tsk.length:Int)=t)(h3:(x.sn.length:Int)=t)(h4:x.src.all cC=true):db s t k z p l e v r x=((x.tsk.zip x.sn).all (gd s t k z p l e v r)&&(x.op||decide (fR x.src x.tsk=0))):=by
 unfold db
 rw[decide_eq_true h1,decide_eq_true h2,decide_eq_true h3,h4]
 rfl
set_option linter.unusedSimpArgs false in
set_option maxRecDepth 20000 in
set_option maxHeartbeats 8000000 in
theorem dF(s t k z p l e:Int)(b:Bool)(v r:Int)(x:iw)(a2:Option Addr)(l2 c2:Nat)(a3:Option Addr)(l3 c3:Nat)(a4:Option Addr)(l4 c4:Nat)(a6:Option Addr)(l6 c6:Nat)(a7:Option Addr)(l7 c7:Nat)(B:Nat)(w:World)(h:gW w B a2 l2 a3 l3 a4 l4 a6 l6 a7 l7 x)(hs3:s≤3)(ht2:t≤2):Calls Tryz.prog 125 #[.agg #[.int .i64 x.n,.bool x.op,.slice a2 l2 c2,.slice a3 l3 c3,.slice a4 l4 c4,.int .i64 x.sfn,.slice a6 l6 c6,.slice a7 l7 c7],.agg #[.int .i64 s,.int .i64 t,.int .i64 k,.int .i64 z,.int .i64 p,.int .i64 l,.int .i64 e,.bool b,.int .i64 v,.int .i64 r]] w fun e' w'=>e'= .returned (.bool (db s t k z p l e v r x))∧Below w.heap.size w w':=by
 have le2:=h.src.len.1
 have hm2:=h.src.len.2
 have le3:=h.tsk.len.1
 have hm3:=h.tsk.len.2
 have le4:=h.sn.len.1
 have hm4:=h.sn.len.2
 unfold maxLen at hm2 hm3 hm4
 by_cases hl:(l2:Int)=s
 rotate_left
 ·skip
  have hl1:((l2:Int)==s)=false:=beq_eq_false_iff_ne.2 hl
  have hl2:((l2:Int) != s)=true:=by simp[hl]
  have HE:Hid (db s t k z p l e v r x=false):=ab (Bool.eq_false_iff.2 (fun hc=>hl (by rw[←le2];exact(fj hc).1)))
  go_enter Tryz.func125,Tryz.ntmps125
  go_wp2
  go_ret
  exact⟨af (aa HE).symm,(ak)⟩
 subst hl
 by_cases ht:(l3:Int)=t
 rotate_left
 ·skip
  have ht1:((l3:Int)==t)=false:=beq_eq_false_iff_ne.2 ht
  have ht2:((l3:Int) != t)=true:=by simp[ht]
  have HE:Hid (db (l2:Int) t k z p l e v r x=false):=ab (Bool.eq_false_iff.2 (fun hc=>ht (by rw[←le3];exact(fj hc).2.1)))
  go_enter Tryz.func125,Tryz.ntmps125
  go_wp2
  go_ret
  exact⟨af (aa HE).symm,(ak)⟩
 subst ht
 by_cases hu:(l4:Int)=(l3:Int)
 rotate_left
 ·skip
  have hu1:((l4:Int)==(l3:Int))=false:=beq_eq_false_iff_ne.2 hu
  have hu2:((l4:Int) != (l3:Int))=true:=by simp[hu]
  have HE:Hid (db (l2:Int) (l3:Int) k z p l e v r x=false):=ab (Bool.eq_false_iff.2 (fun hc=>hu (by rw[←le4];exact(fj hc).2.2.1)))
  go_enter Tryz.func125,Tryz.ntmps125
  go_wp2
  go_ret
  exact⟨af (aa HE).symm,(ak)⟩
 obtain rfl:l3=l4:=by omega
 clear hu
 cases ha:x.src.all cC
 ·skip
  have HE:Hid (db (l2:Int) (l3:Int) k z p l e v r x=false):=ab (Bool.eq_false_iff.2 (fun hc=>by have h9:=(fj hc).2.2.2.1;rw[ha]at h9;cases h9))
  go_enter Tryz.func125,Tryz.ntmps125
  go_wp2_with (go_at_call 153;refine(everyRng a2 l2 c2 x.src _ (h.src.1.below (ak))).mono ?_;rw[ha];rintro e' y2 ⟨rfl,hb2⟩;obtain⟨hc2,hf2,hs2⟩:=ac hb2;have hz20:w.heap.size<y2.heap.size:=(by have h9:=hb2.size;(try simp at h9);omega);have hz21:w.heap.size+1<y2.heap.size:=(by have h9:=hb2.size;(try simp at h9);omega))
  go_ret
  exact⟨af (aa HE).symm,(ak)⟩
 have HV:Hid (db (l2:Int) (l3:Int) k z p l e v r x=((x.tsk.zip x.sn).all (gd (l2:Int) (l3:Int) k z p l e v r)&&(x.op||decide (fR x.src x.tsk=0)))):=ab (toldB_val (by rw[le2]) (by rw[le3]) (by rw[le4]) ha)
 obtain⟨tn,HT⟩:∃tn,Hid (tn=fR x.src x.tsk):=⟨_,ab rfl⟩
 have ht32:tn<32:=by rw[aa HT];exact bB_lt _ _ (jk) (by omega)
 have HAT:Hid (∀(i:Nat) (q:Bool),x.tsk[i]? =some q→decide (tn&&&2 ^ (3+i)=2 ^ (3+i))=q):=ab (fun i q hq=>by rw[aa HT];exact told_at (by omega) (by omega) hq)
 go_enter Tryz.func125,Tryz.ntmps125
 go_wp2_with (first
  |(go_at_call 153;refine(everyRng a2 l2 c2 x.src _ (h.src.1.below (ak))).mono ?_;rw[ha];rintro e' y2 ⟨rfl,hb2⟩;obtain⟨hc2,hf2,hs2⟩:=ac hb2;have hz20:w.heap.size<y2.heap.size:=(by have h9:=hb2.size;(try simp at h9);omega);have hz21:w.heap.size+1<y2.heap.size:=(by have h9:=hb2.size;(try simp at h9);omega))
  |(go_at_call 159;refine(told_any x a2 l2 c2 a3 l3 c3 a4 l3 c4 a6 l6 c6 a7 l7 c7 B _ (h.src.below (ak)) (h.tsk.below (ak)) (by omega) (by omega)).mono ?_;rw[←aa HT];rintro e' y3 ⟨rfl,hb3⟩;obtain⟨hc3,hf3,hs3⟩:=ac hb3;have hz30:w.heap.size<y3.heap.size:=(by have h9:=hb3.size;(try simp at h9);omega);have hz31:w.heap.size+1<y3.heap.size:=(by have h9:=hb3.size;(try simp at h9);omega)))
 have hQ:Below ((w.alloc (.cells #[.int .i64 x.n,.bool x.op,.slice a2 l2 c2,.slice a3 l3 c3,.slice a4 l3 c4,.int .i64 x.sfn,.slice a6 l6 c6,.slice a7 l7 c7] 49)).alloc (.cells #[.int .i64 (l2:Int),.int .i64 (l3:Int),.int .i64 k,.int .i64 z,.int .i64 p,.int .i64 l,.int .i64 e,.bool b,.int .i64 v,.int .i64 r] 40)).heap.size ((w.alloc (.cells #[.int .i64 x.n,.bool x.op,.slice a2 l2 c2,.slice a3 l3 c3,.slice a4 l3 c4,.int .i64 x.sfn,.slice a6 l6 c6,.slice a7 l7 c7] 49)).alloc (.cells #[.int .i64 (l2:Int),.int .i64 (l3:Int),.int .i64 k,.int .i64 z,.int .i64 p,.int .i64 l,.int .i64 e,.bool b,.int .i64 v,.int .i64 r] 40)) y3:=ae hb2 hb3
 have hW:Below w.heap.size w y3:=ae (aJ (ai _ _) _) hQ
 have H3:=h.tsk.1.below hW
 have H4:=h.sn.below hW
 have kb0:y3.cell? ⟨w.heap.size,0,none⟩=some (.int .i64 x.n):=(hQ.cell (p:=⟨w.heap.size,0,none⟩) (ji)).trans (jj)
 have kb1:y3.cell? ⟨w.heap.size,1,none⟩=some (.bool x.op):=(hQ.cell (p:=⟨w.heap.size,1,none⟩) (ji)).trans (jj)
 have kb2:y3.cell? ⟨w.heap.size,2,none⟩=some (.slice a2 l2 c2):=(hQ.cell (p:=⟨w.heap.size,2,none⟩) (ji)).trans (jj)
 have kb3:y3.cell? ⟨w.heap.size,3,none⟩=some (.slice a3 l3 c3):=(hQ.cell (p:=⟨w.heap.size,3,none⟩) (ji)).trans (jj)
 have kb4:y3.cell? ⟨w.heap.size,4,none⟩=some (.slice a4 l3 c4):=(hQ.cell (p:=⟨w.heap.size,4,none⟩) (ji)).trans (jj)
 have kb5:y3.cell? ⟨w.heap.size,5,none⟩=some (.int .i64 x.sfn):=(hQ.cell (p:=⟨w.heap.size,5,none⟩) (ji)).trans (jj)
 have kb6:y3.cell? ⟨w.heap.size,6,none⟩=some (.slice a6 l6 c6):=(hQ.cell (p:=⟨w.heap.size,6,none⟩) (ji)).trans (jj)
 have kb7:y3.cell? ⟨w.heap.size,7,none⟩=some (.slice a7 l7 c7):=(hQ.cell (p:=⟨w.heap.size,7,none⟩) (ji)).trans (jj)
 have jb0:y3.cell? ⟨w.heap.size+1,0,none⟩=some (.int .i64 (l2:Int)):=(hQ.cell (p:=⟨w.heap.size+1,0,none⟩) (ji)).trans (jj)
 have jb1:y3.cell? ⟨w.heap.size+1,1,none⟩=some (.int .i64 (l3:Int)):=(hQ.cell (p:=⟨w.heap.size+1,1,none⟩) (ji)).trans (jj)
 have jb2:y3.cell? ⟨w.heap.size+1,2,none⟩=some (.int .i64 k):=(hQ.cell (p:=⟨w.heap.size+1,2,none⟩) (ji)).trans (jj)
 have jb3:y3.cell? ⟨w.heap.size+1,3,none⟩=some (.int .i64 z):=(hQ.cell (p:=⟨w.heap.size+1,3,none⟩) (ji)).trans (jj)
 have jb4:y3.cell? ⟨w.heap.size+1,4,none⟩=some (.int .i64 p):=(hQ.cell (p:=⟨w.heap.size+1,4,none⟩) (ji)).trans (jj)
 have jb5:y3.cell? ⟨w.heap.size+1,5,none⟩=some (.int .i64 l):=(hQ.cell (p:=⟨w.heap.size+1,5,none⟩) (ji)).trans (jj)
 have jb6:y3.cell? ⟨w.heap.size+1,6,none⟩=some (.int .i64 e):=(hQ.cell (p:=⟨w.heap.size+1,6,none⟩) (ji)).trans (jj)
 have jb7:y3.cell? ⟨w.heap.size+1,7,none⟩=some (.bool b):=(hQ.cell (p:=⟨w.heap.size+1,7,none⟩) (ji)).trans (jj)
 have jb8:y3.cell? ⟨w.heap.size+1,8,none⟩=some (.int .i64 v):=(hQ.cell (p:=⟨w.heap.size+1,8,none⟩) (ji)).trans (jj)
 have jb9:y3.cell? ⟨w.heap.size+1,9,none⟩=some (.int .i64 r):=(hQ.cell (p:=⟨w.heap.size+1,9,none⟩) (ji)).trans (jj)
 clear hc2 hf2 hs2 hb2 hc3 hf3 hs3 hb3 hQ hz20 hz21 ha
 go_loopw [39] (fun i wr=>∃ix:Nat,ix≤l3∧i= .int .i64 ix∧Hid (((x.tsk.zip x.sn).take ix).all (gd (l2:Int) (l3:Int) k z p l e v r)=true)∧Below y3.heap.size y3 wr) (fun i _=>l3 - (intOf i).toNat)
 case atStart=>exact⟨0,Nat.zero_le _,rfl,ab (by simp),Below.refl _ _⟩
 case round=>
  obtain⟨ix,hk,rfl,hA,hbq⟩:=hrel
  have tc0:wr.cell? ⟨w.heap.size,0,none⟩=some (.int .i64 x.n):=(hbq.cell (p:=⟨w.heap.size,0,none⟩) (ji)).trans kb0
  have tc1:wr.cell? ⟨w.heap.size,1,none⟩=some (.bool x.op):=(hbq.cell (p:=⟨w.heap.size,1,none⟩) (ji)).trans kb1
  have tc2:wr.cell? ⟨w.heap.size,2,none⟩=some (.slice a2 l2 c2):=(hbq.cell (p:=⟨w.heap.size,2,none⟩) (ji)).trans kb2
  have tc3:wr.cell? ⟨w.heap.size,3,none⟩=some (.slice a3 l3 c3):=(hbq.cell (p:=⟨w.heap.size,3,none⟩) (ji)).trans kb3
  have tc4:wr.cell? ⟨w.heap.size,4,none⟩=some (.slice a4 l3 c4):=(hbq.cell (p:=⟨w.heap.size,4,none⟩) (ji)).trans kb4
  have tc5:wr.cell? ⟨w.heap.size,5,none⟩=some (.int .i64 x.sfn):=(hbq.cell (p:=⟨w.heap.size,5,none⟩) (ji)).trans kb5
  have tc6:wr.cell? ⟨w.heap.size,6,none⟩=some (.slice a6 l6 c6):=(hbq.cell (p:=⟨w.heap.size,6,none⟩) (ji)).trans kb6
  have tc7:wr.cell? ⟨w.heap.size,7,none⟩=some (.slice a7 l7 c7):=(hbq.cell (p:=⟨w.heap.size,7,none⟩) (ji)).trans kb7
  have jc0:wr.cell? ⟨w.heap.size+1,0,none⟩=some (.int .i64 (l2:Int)):=(hbq.cell (p:=⟨w.heap.size+1,0,none⟩) (ji)).trans jb0
  have jc1:wr.cell? ⟨w.heap.size+1,1,none⟩=some (.int .i64 (l3:Int)):=(hbq.cell (p:=⟨w.heap.size+1,1,none⟩) (ji)).trans jb1
  have jc2:wr.cell? ⟨w.heap.size+1,2,none⟩=some (.int .i64 k):=(hbq.cell (p:=⟨w.heap.size+1,2,none⟩) (ji)).trans jb2
  have jc3:wr.cell? ⟨w.heap.size+1,3,none⟩=some (.int .i64 z):=(hbq.cell (p:=⟨w.heap.size+1,3,none⟩) (ji)).trans jb3
  have jc4:wr.cell? ⟨w.heap.size+1,4,none⟩=some (.int .i64 p):=(hbq.cell (p:=⟨w.heap.size+1,4,none⟩) (ji)).trans jb4
  have jc5:wr.cell? ⟨w.heap.size+1,5,none⟩=some (.int .i64 l):=(hbq.cell (p:=⟨w.heap.size+1,5,none⟩) (ji)).trans jb5
  have jc6:wr.cell? ⟨w.heap.size+1,6,none⟩=some (.int .i64 e):=(hbq.cell (p:=⟨w.heap.size+1,6,none⟩) (ji)).trans jb6
  have jc7:wr.cell? ⟨w.heap.size+1,7,none⟩=some (.bool b):=(hbq.cell (p:=⟨w.heap.size+1,7,none⟩) (ji)).trans jb7
  have jc8:wr.cell? ⟨w.heap.size+1,8,none⟩=some (.int .i64 v):=(hbq.cell (p:=⟨w.heap.size+1,8,none⟩) (ji)).trans jb8
  have jc9:wr.cell? ⟨w.heap.size+1,9,none⟩=some (.int .i64 r):=(hbq.cell (p:=⟨w.heap.size+1,9,none⟩) (ji)).trans jb9
  have hz2:w.heap.size+1<wr.heap.size:=by have h9:=hbq.size;omega
  have hz1:w.heap.size<wr.heap.size:=by omega
  by_cases hlt:ix<l3
  ·obtain⟨hxl,_,hx⟩:=H3
   obtain⟨hxl4,_,hx4⟩:=H4
   obtain⟨g2,o2,rfl,_,hrr4⟩:=hx4.resolve_left (by omega)
   obtain⟨qb,hqk⟩:∃y,x.tsk[ix]? =some y:=⟨_,List.getElem?_eq_getElem (by omega)⟩
   obtain⟨y,hyk⟩:∃y,x.sn[ix]? =some y:=⟨_,List.getElem?_eq_getElem (by omega)⟩
   have t1:=(hrr4 ix _ hyk).below hbq
   have hg2:=t1.lt
   have hX:=ab (zip_at hqk hyk)
   obtain⟨qa1,ql1,qc1,qa2,ql2,qc2,⟨d0,d1,d2⟩,k1,k2⟩:=t1
   obtain⟨pb,hpb⟩:∃pb:Nat,Hid (pb=2 ^ (3+ix)):=⟨_,ab rfl⟩
   have hp32:pb<32:=by
    rw[aa hpb]
    have:ix=0∨ix=1:=by omega
    rcases this with rfl|rfl<;>decide
   have HD:Hid (decide (tn&&&pb=pb)=qb):=ab (by rw[aa hpb];exact aa HAT ix qb hqk)
   clear hx hyk hx4 hqk hrr4
   cases qb
   ·cases hB:bd y
    ·have HE:Hid ((x.tsk.zip x.sn).all (gd (l2:Int) (l3:Int) k z p l e v r)=false):=ab (all_ff (aa hX) hB)
     go_wp2_with (first
      |(go_at_call 161;refine(ff ix (by omega) pb hpb _).mono ?_;rintro e' w5 ⟨rfl,hw⟩;obtain rfl:=hw.symm;clear hw)
      |(go_at_call 160;refine(fQ tn pb ht32 hp32 _).mono ?_;rw[aa HD];rintro e' w6 ⟨rfl,hw⟩;obtain rfl:=hw.symm;clear hw)
      |(go_at_call 162;refine(noth_any y qa1 ql1 qc1 qa2 ql2 qc2 _ k1.len.1 k2.len.1).mono ?_;rw[hB];rintro e' w7 ⟨rfl,hb7⟩;obtain⟨hc7,hf7,hs7⟩:=ac hb7))
     go_ret
     exact⟨af (by rw[aa HV,aa HE];rfl),(ak)⟩
    ·have HE:Hid (((x.tsk.zip x.sn).take (ix+1)).all (gd (l2:Int) (l3:Int) k z p l e v r)=true):=ab (all_tt (aa hA) (aa hX) hB)
     go_wp2_with (first
      |(go_at_call 161;refine(ff ix (by omega) pb hpb _).mono ?_;rintro e' w5 ⟨rfl,hw⟩;obtain rfl:=hw.symm;clear hw)
      |(go_at_call 160;refine(fQ tn pb ht32 hp32 _).mono ?_;rw[aa HD];rintro e' w6 ⟨rfl,hw⟩;obtain rfl:=hw.symm;clear hw)
      |(go_at_call 162;refine(noth_any y qa1 ql1 qc1 qa2 ql2 qc2 _ k1.len.1 k2.len.1).mono ?_;rw[hB];rintro e' w7 ⟨rfl,hb7⟩;obtain⟨hc7,hf7,hs7⟩:=ac hb7))
     go_roundw
     case rel=>exact⟨ix+1,by omega,by go_num,HE,(ak)⟩
     case measure=>simp[intOf];omega
   ·cases hB:bG (l2:Int) (l3:Int) k z p l e v r y
    ·have HE:Hid ((x.tsk.zip x.sn).all (gd (l2:Int) (l3:Int) k z p l e v r)=false):=ab (all_ff (aa hX) hB)
     go_wp2_with (first
      |(go_at_call 161;refine(ff ix (by omega) pb hpb _).mono ?_;rintro e' w5 ⟨rfl,hw⟩;obtain rfl:=hw.symm;clear hw)
      |(go_at_call 160;refine(fQ tn pb ht32 hp32 _).mono ?_;rw[aa HD];rintro e' w6 ⟨rfl,hw⟩;obtain rfl:=hw.symm;clear hw)
      |(go_at_call 157;refine(fH (l2:Int) (l3:Int) k z p l e b v r y qa1 ql1 qc1 qa2 ql2 qc2 B _ (k1.below (ak)) (k2.below (ak))).mono ?_;rw[hB];rintro e' w7 ⟨rfl,hb7⟩;obtain⟨hc7,hf7,hs7⟩:=ac hb7))
     go_ret
     exact⟨af (by rw[aa HV,aa HE];rfl),(ak)⟩
    ·have HE:Hid (((x.tsk.zip x.sn).take (ix+1)).all (gd (l2:Int) (l3:Int) k z p l e v r)=true):=ab (all_tt (aa hA) (aa hX) hB)
     go_wp2_with (first
      |(go_at_call 161;refine(ff ix (by omega) pb hpb _).mono ?_;rintro e' w5 ⟨rfl,hw⟩;obtain rfl:=hw.symm;clear hw)
      |(go_at_call 160;refine(fQ tn pb ht32 hp32 _).mono ?_;rw[aa HD];rintro e' w6 ⟨rfl,hw⟩;obtain rfl:=hw.symm;clear hw)
      |(go_at_call 157;refine(fH (l2:Int) (l3:Int) k z p l e b v r y qa1 ql1 qc1 qa2 ql2 qc2 B _ (k1.below (ak)) (k2.below (ak))).mono ?_;rw[hB];rintro e' w7 ⟨rfl,hb7⟩;obtain⟨hc7,hf7,hs7⟩:=ac hb7))
     go_roundw
     case rel=>exact⟨ix+1,by omega,by go_num,HE,(ak)⟩
     case measure=>simp[intOf];omega
  ·have HE:Hid (db (l2:Int) (l3:Int) k z p l e v r x=(x.op||decide (tn=0))):=ab (by rw[aa HV,cj (aa hA) (jk),aa HT];rfl)
   cases hop:x.op
   ·rw[hop]at HE tc1
    by_cases hz:tn=0
    ·have HE2:Hid (db (l2:Int) (l3:Int) k z p l e v r x=true):=ab (by rw[aa HE,decide_eq_true hz];rfl)
     have hz9:((tn:Int)==0)=true:=by simp[hz]
     clear hz
     go_wp2
     go_ret
     exact⟨af (aa HE2).symm,(ak)⟩
    ·have HE2:Hid (db (l2:Int) (l3:Int) k z p l e v r x=false):=ab (by rw[aa HE,decide_eq_false hz];rfl)
     have hz9:((tn:Int)==0)=false:=beq_eq_false_iff_ne.2 (by omega)
     go_wp2
     go_ret
     exact⟨af (aa HE2).symm,(ak)⟩
   ·rw[hop]at HE tc1
    have HE2:Hid (db (l2:Int) (l3:Int) k z p l e v r x=true):=ab (by rw[aa HE];rfl)
    go_wp2
    go_ret
    exact⟨af (aa HE2).symm,(ak)⟩
/-- What the program asks is what the specification asks. -/
def dh(s t k z p l e v r:Int)(x:iw):Bool:=aE s t k z p l e v r&&cz s t k z p l e v r ⟨x.sfn,x.at_,x.ssn⟩&&db s t k z p l e v r x&&aP x.n x.sfn 900&&(!x.op||decide (x.sfn<x.n))
theorem iJ{s t k z p l e v r:Int}:∀(tk:List Bool) (sn:List cv),tk.length=sn.length→(tk.zip sn).all (dU s t k z p l e v r false)=((tk.zip sn).all (gd s t k z p l e v r)&&tk.all (!·))
 | [],[],_=>rfl
 |q :: tk,y :: sn,h=>by
  have ih:=iJ (s:=s) (t:=t) (k:=k) (z:=z) (p:=p) (l:=l) (e:=e) (v:=v) (r:=r) tk sn (by simpa using h)
  simp only[List.zip_cons_cons,List.all_cons,ih]
  cases q
  ·show(bd y&&_)=((bd y&&_)&&(true&&_))
   cases bd y<;>simp
  ·show(false&&_)=((bG s t k z p l e v r y&&_)&&(false&&_))
   simp
 | [],_ :: _,h=>by simp at h
 |_ :: _,[],h=>by simp at h
theorem zip_all_t{s t k z p l e v r:Int}(l9:List (Bool×cv)):l9.all (dU s t k z p l e v r true)=l9.all (gd s t k z p l e v r):=by
 have e9:dU s t k z p l e v r true=gd s t k z p l e v r:=by
  funext q
  obtain⟨q1,y⟩:=q
  cases q1
  ·rfl
  ·show(true&&bG s t k z p l e v r y)=bG s t k z p l e v r y
   simp
 rw[e9]
theorem src_f:∀(l:List Int),l.all (cG false)=(l.all cC&&(l.map eE).all (!·))
 | []=>rfl
 |m :: r=>by
  simp only[List.all_cons,List.map_cons,src_f r]
  show((aP m (-1) 40&&(false||m== -1))&&_)=((aP m (-1) 40&&_)&&((!(!(m== -1)))&&_))
  cases aP m (-1) 40<;>cases (m== -1)<;>simp
theorem src_t(l:List Int):l.all (cG true)=l.all cC:=by
 have e9:cG true=cC:=by
  funext m
  show(aP m (-1) 40&&(true||m== -1))=aP m (-1) 40
  simp
 rw[e9]
theorem okCkI_eq(s t k z p l e v r:Int)(x:iw):dh s t k z p l e v r x=bU s t k z p l e v r x:=by
 unfold dh bU
 cases hj:aE s t k z p l e v r
 ·simp
 have hb:s≤3∧t≤2:=by unfold aE at hj;simp only[Bool.and_eq_true]at hj;exact⟨(aZ.1 hj.1.1.1.1.1.1.1.1).2,(aZ.1 hj.1.1.1.1.1.1.1.2).2⟩
 cases hi:aP x.n x.sfn 900
 ·simp
 have hq:(!x.op||decide (x.sfn<x.n))= !(x.op&&x.n==x.sfn):=by
  have h9:=(aZ.1 hi).1
  cases x.op
  ·rfl
  ·by_cases he:x.n=x.sfn
   ·rw[decide_eq_false (by omega)];simp[he]
   ·rw[decide_eq_true (by omega)];simp[he]
 rw[hq]
 cases hn: !(x.op&&x.n==x.sfn)
 ·simp
 cases hc:cz s t k z p l e v r ⟨x.sfn,x.at_,x.ssn⟩
 ·simp
 unfold db
 by_cases h1:(x.src.length:Int)=s
 rotate_left
 ·simp[h1]
 by_cases h2:(x.tsk.length:Int)=t
 rotate_left
 ·simp[h2]
 by_cases h3:(x.sn.length:Int)=t
 rotate_left
 ·simp[h3]
 rw[decide_eq_true h1,decide_eq_true h2,decide_eq_true h3]
 simp only[Bool.true_and,Bool.and_true]
 cases hop:x.op
 ·rw[src_f,iJ x.tsk x.sn (by omega),told_zero (by omega) (by omega)]
  cases x.src.all cC<;>cases (x.tsk.zip x.sn).all (gd s t k z p l e v r)<;>cases (x.src.map eE).all (!·)<;>cases x.tsk.all (!·)<;>rfl
 ·rw[src_t,zip_all_t]
  simp
set_option maxRecDepth 20000 in
set_option maxHeartbeats 4000000 in
theorem ib(s t k z p l e:Int)(b:Bool)(v r:Int)(x:iw)(a2:Option Addr)(l2 c2:Nat)(a3:Option Addr)(l3 c3:Nat)(a4:Option Addr)(l4 c4:Nat)(a6:Option Addr)(l6 c6:Nat)(a7:Option Addr)(l7 c7:Nat)(B:Nat)(w:World)(h:gW w B a2 l2 a3 l3 a4 l4 a6 l6 a7 l7 x):Calls Tryz.prog 74 #[.agg #[.int .i64 s,.int .i64 t,.int .i64 k,.int .i64 z,.int .i64 p,.int .i64 l,.int .i64 e,.bool b,.int .i64 v,.int .i64 r],.agg #[.int .i64 x.n,.bool x.op,.slice a2 l2 c2,.slice a3 l3 c3,.slice a4 l4 c4,.int .i64 x.sfn,.slice a6 l6 c6,.slice a7 l7 c7]] w fun e' w'=>e'= .returned (.bool (bU s t k z p l e v r x))∧Below w.heap.size w w':=by
 rw[←okCkI_eq]
 cases hj:aE s t k z p l e v r
 ·skip
  have HE:Hid (dh s t k z p l e v r x=false):=ab (by unfold dh;rw[hj];rfl)
  go_enter Tryz.func74,Tryz.ntmps74
  go_wp2_with (first
    |(go_at_call 123;refine(aX _ _ _ _ _ _ _ _ _ _ _).mono ?_;rw[hj];rintro e' y1 ⟨rfl,hb1⟩;obtain⟨hc1,hf1,hs1⟩:=ac hb1;have hz10:w.heap.size<y1.heap.size:=(by have h9:=hb1.size;(try simp at h9);omega);have hz11:w.heap.size+1<y1.heap.size:=(by have h9:=hb1.size;(try simp at h9);omega)))
  go_ret
  exact⟨af (aa HE).symm,(ak)⟩
 obtain⟨hs3,ht2⟩:s≤3∧t≤2:=by have h9:=hj;unfold aE at h9;simp only[Bool.and_eq_true]at h9;exact⟨(aZ.1 h9.1.1.1.1.1.1.1.1).2,(aZ.1 h9.1.1.1.1.1.1.1.2).2⟩
 cases hc:cz s t k z p l e v r ⟨x.sfn,x.at_,x.ssn⟩
 ·skip
  have HE:Hid (dh s t k z p l e v r x=false):=ab (by unfold dh;rw[hj,hc];rfl)
  go_enter Tryz.func74,Tryz.ntmps74
  go_wp2_with (first
    |(go_at_call 123;refine(aX _ _ _ _ _ _ _ _ _ _ _).mono ?_;rw[hj];rintro e' y1 ⟨rfl,hb1⟩;obtain⟨hc1,hf1,hs1⟩:=ac hb1;have hz10:w.heap.size<y1.heap.size:=(by have h9:=hb1.size;(try simp at h9);omega);have hz11:w.heap.size+1<y1.heap.size:=(by have h9:=hb1.size;(try simp at h9);omega))
    |(go_at_call 124;refine(cR s t k z p l e b v r ⟨x.sfn,x.at_,x.ssn⟩ a6 l6 c6 a7 l7 c7 B _ (h.at_.below (ak)) (h.ssn.below (ak))).mono ?_;rw[hc];rintro e' y2 ⟨rfl,hb2⟩;obtain⟨hc2,hf2,hs2⟩:=ac hb2;have hz20:w.heap.size<y2.heap.size:=(by have h9:=hb2.size;(try simp at h9);omega);have hz21:w.heap.size+1<y2.heap.size:=(by have h9:=hb2.size;(try simp at h9);omega)))
  go_ret
  exact⟨af (aa HE).symm,(ak)⟩
 cases hu:db s t k z p l e v r x
 ·skip
  have HE:Hid (dh s t k z p l e v r x=false):=ab (by unfold dh;rw[hj,hc,hu];rfl)
  go_enter Tryz.func74,Tryz.ntmps74
  go_wp2_with (first
    |(go_at_call 123;refine(aX _ _ _ _ _ _ _ _ _ _ _).mono ?_;rw[hj];rintro e' y1 ⟨rfl,hb1⟩;obtain⟨hc1,hf1,hs1⟩:=ac hb1;have hz10:w.heap.size<y1.heap.size:=(by have h9:=hb1.size;(try simp at h9);omega);have hz11:w.heap.size+1<y1.heap.size:=(by have h9:=hb1.size;(try simp at h9);omega))
    |(go_at_call 124;refine(cR s t k z p l e b v r ⟨x.sfn,x.at_,x.ssn⟩ a6 l6 c6 a7 l7 c7 B _ (h.at_.below (ak)) (h.ssn.below (ak))).mono ?_;rw[hc];rintro e' y2 ⟨rfl,hb2⟩;obtain⟨hc2,hf2,hs2⟩:=ac hb2;have hz20:w.heap.size<y2.heap.size:=(by have h9:=hb2.size;(try simp at h9);omega);have hz21:w.heap.size+1<y2.heap.size:=(by have h9:=hb2.size;(try simp at h9);omega))
    |(go_at_call 125;refine(dF s t k z p l e b v r x a2 l2 c2 a3 l3 c3 a4 l4 c4 a6 l6 c6 a7 l7 c7 B _ (h.below (ak)) hs3 ht2).mono ?_;rw[hu];rintro e' y3 ⟨rfl,hb3⟩;obtain⟨hc3,hf3,hs3'⟩:=ac hb3;have hz30:w.heap.size<y3.heap.size:=(by have h9:=hb3.size;(try simp at h9);omega);have hz31:w.heap.size+1<y3.heap.size:=(by have h9:=hb3.size;(try simp at h9);omega)))
  go_ret
  exact⟨af (aa HE).symm,(ak)⟩
 cases hi:aP x.n x.sfn 900
 ·skip
  have HE:Hid (dh s t k z p l e v r x=false):=ab (by unfold dh;rw[hj,hc,hu,hi];rfl)
  go_enter Tryz.func74,Tryz.ntmps74
  go_wp2_with (first
    |(go_at_call 123;refine(aX _ _ _ _ _ _ _ _ _ _ _).mono ?_;rw[hj];rintro e' y1 ⟨rfl,hb1⟩;obtain⟨hc1,hf1,hs1⟩:=ac hb1;have hz10:w.heap.size<y1.heap.size:=(by have h9:=hb1.size;(try simp at h9);omega);have hz11:w.heap.size+1<y1.heap.size:=(by have h9:=hb1.size;(try simp at h9);omega))
    |(go_at_call 124;refine(cR s t k z p l e b v r ⟨x.sfn,x.at_,x.ssn⟩ a6 l6 c6 a7 l7 c7 B _ (h.at_.below (ak)) (h.ssn.below (ak))).mono ?_;rw[hc];rintro e' y2 ⟨rfl,hb2⟩;obtain⟨hc2,hf2,hs2⟩:=ac hb2;have hz20:w.heap.size<y2.heap.size:=(by have h9:=hb2.size;(try simp at h9);omega);have hz21:w.heap.size+1<y2.heap.size:=(by have h9:=hb2.size;(try simp at h9);omega))
    |(go_at_call 125;refine(dF s t k z p l e b v r x a2 l2 c2 a3 l3 c3 a4 l4 c4 a6 l6 c6 a7 l7 c7 B _ (h.below (ak)) hs3 ht2).mono ?_;rw[hu];rintro e' y3 ⟨rfl,hb3⟩;obtain⟨hc3,hf3,hs3'⟩:=ac hb3;have hz30:w.heap.size<y3.heap.size:=(by have h9:=hb3.size;(try simp at h9);omega);have hz31:w.heap.size+1<y3.heap.size:=(by have h9:=hb3.size;(try simp at h9);omega))
    |(go_at_call 126;refine(ah _ _ _ _).mono ?_;rw[hi];rintro e' w5 ⟨rfl,hw⟩;obtain rfl:=hw.symm;clear hw))
  go_ret
  exact⟨af (aa HE).symm,(ak)⟩
 obtain⟨xn,xop,xsrc,xtsk,xsn,xsfn,xat,xssn⟩:=x
 dsimp only at*
 cases xop
 ·skip
  have HE:Hid (dh s t k z p l e v r ⟨xn,false,xsrc,xtsk,xsn,xsfn,xat,xssn⟩=true):=ab (by unfold dh;dsimp only;rw[hj,hc,hu,hi];rfl)
  go_enter Tryz.func74,Tryz.ntmps74
  go_wp2_with (first
    |(go_at_call 123;refine(aX _ _ _ _ _ _ _ _ _ _ _).mono ?_;rw[hj];rintro e' y1 ⟨rfl,hb1⟩;obtain⟨hc1,hf1,hs1⟩:=ac hb1;have hz10:w.heap.size<y1.heap.size:=(by have h9:=hb1.size;(try simp at h9);omega);have hz11:w.heap.size+1<y1.heap.size:=(by have h9:=hb1.size;(try simp at h9);omega))
    |(go_at_call 124;refine(cR s t k z p l e b v r ⟨xsfn,xat,xssn⟩ a6 l6 c6 a7 l7 c7 B _ (h.at_.below (ak)) (h.ssn.below (ak))).mono ?_;rw[hc];rintro e' y2 ⟨rfl,hb2⟩;obtain⟨hc2,hf2,hs2⟩:=ac hb2;have hz20:w.heap.size<y2.heap.size:=(by have h9:=hb2.size;(try simp at h9);omega);have hz21:w.heap.size+1<y2.heap.size:=(by have h9:=hb2.size;(try simp at h9);omega))
    |(go_at_call 125;refine(dF s t k z p l e b v r ⟨xn,false,xsrc,xtsk,xsn,xsfn,xat,xssn⟩ a2 l2 c2 a3 l3 c3 a4 l4 c4 a6 l6 c6 a7 l7 c7 B _ (h.below (ak)) hs3 ht2).mono ?_;rw[hu];rintro e' y3 ⟨rfl,hb3⟩;obtain⟨hc3,hf3,hs3'⟩:=ac hb3;have hz30:w.heap.size<y3.heap.size:=(by have h9:=hb3.size;(try simp at h9);omega);have hz31:w.heap.size+1<y3.heap.size:=(by have h9:=hb3.size;(try simp at h9);omega))
    |(go_at_call 126;refine(ah _ _ _ _).mono ?_;rw[hi];rintro e' w5 ⟨rfl,hw⟩;obtain rfl:=hw.symm;clear hw))
  go_ret
  exact⟨af (aa HE).symm,(ak)⟩
 ·by_cases hg:xsfn<xn
  ·skip
   have HE:Hid (dh s t k z p l e v r ⟨xn,true,xsrc,xtsk,xsn,xsfn,xat,xssn⟩=true):=ab (by unfold dh;dsimp only;rw[hj,hc,hu,hi,decide_eq_true hg];rfl)
   go_enter Tryz.func74,Tryz.ntmps74
   go_wp2_with (first
     |(go_at_call 123;refine(aX _ _ _ _ _ _ _ _ _ _ _).mono ?_;rw[hj];rintro e' y1 ⟨rfl,hb1⟩;obtain⟨hc1,hf1,hs1⟩:=ac hb1;have hz10:w.heap.size<y1.heap.size:=(by have h9:=hb1.size;(try simp at h9);omega);have hz11:w.heap.size+1<y1.heap.size:=(by have h9:=hb1.size;(try simp at h9);omega))
     |(go_at_call 124;refine(cR s t k z p l e b v r ⟨xsfn,xat,xssn⟩ a6 l6 c6 a7 l7 c7 B _ (h.at_.below (ak)) (h.ssn.below (ak))).mono ?_;rw[hc];rintro e' y2 ⟨rfl,hb2⟩;obtain⟨hc2,hf2,hs2⟩:=ac hb2;have hz20:w.heap.size<y2.heap.size:=(by have h9:=hb2.size;(try simp at h9);omega);have hz21:w.heap.size+1<y2.heap.size:=(by have h9:=hb2.size;(try simp at h9);omega))
     |(go_at_call 125;refine(dF s t k z p l e b v r ⟨xn,true,xsrc,xtsk,xsn,xsfn,xat,xssn⟩ a2 l2 c2 a3 l3 c3 a4 l4 c4 a6 l6 c6 a7 l7 c7 B _ (h.below (ak)) hs3 ht2).mono ?_;rw[hu];rintro e' y3 ⟨rfl,hb3⟩;obtain⟨hc3,hf3,hs3'⟩:=ac hb3;have hz30:w.heap.size<y3.heap.size:=(by have h9:=hb3.size;(try simp at h9);omega);have hz31:w.heap.size+1<y3.heap.size:=(by have h9:=hb3.size;(try simp at h9);omega))
     |(go_at_call 126;refine(ah _ _ _ _).mono ?_;rw[hi];rintro e' w5 ⟨rfl,hw⟩;obtain rfl:=hw.symm;clear hw))
   go_ret
   exact⟨af (aa HE).symm,(ak)⟩
  ·have hg':decide (xsfn<xn)=false:=decide_eq_false hg
   have HE:Hid (dh s t k z p l e v r ⟨xn,true,xsrc,xtsk,xsn,xsfn,xat,xssn⟩=false):=ab (by unfold dh;dsimp only;rw[hj,hc,hu,hi,hg'];rfl)
   go_enter Tryz.func74,Tryz.ntmps74
   go_wp2_with (first
     |(go_at_call 123;refine(aX _ _ _ _ _ _ _ _ _ _ _).mono ?_;rw[hj];rintro e' y1 ⟨rfl,hb1⟩;obtain⟨hc1,hf1,hs1⟩:=ac hb1;have hz10:w.heap.size<y1.heap.size:=(by have h9:=hb1.size;(try simp at h9);omega);have hz11:w.heap.size+1<y1.heap.size:=(by have h9:=hb1.size;(try simp at h9);omega))
     |(go_at_call 124;refine(cR s t k z p l e b v r ⟨xsfn,xat,xssn⟩ a6 l6 c6 a7 l7 c7 B _ (h.at_.below (ak)) (h.ssn.below (ak))).mono ?_;rw[hc];rintro e' y2 ⟨rfl,hb2⟩;obtain⟨hc2,hf2,hs2⟩:=ac hb2;have hz20:w.heap.size<y2.heap.size:=(by have h9:=hb2.size;(try simp at h9);omega);have hz21:w.heap.size+1<y2.heap.size:=(by have h9:=hb2.size;(try simp at h9);omega))
     |(go_at_call 125;refine(dF s t k z p l e b v r ⟨xn,true,xsrc,xtsk,xsn,xsfn,xat,xssn⟩ a2 l2 c2 a3 l3 c3 a4 l4 c4 a6 l6 c6 a7 l7 c7 B _ (h.below (ak)) hs3 ht2).mono ?_;rw[hu];rintro e' y3 ⟨rfl,hb3⟩;obtain⟨hc3,hf3,hs3'⟩:=ac hb3;have hz30:w.heap.size<y3.heap.size:=(by have h9:=hb3.size;(try simp at h9);omega);have hz31:w.heap.size+1<y3.heap.size:=(by have h9:=hb3.size;(try simp at h9);omega))
     |(go_at_call 126;refine(ah _ _ _ _).mono ?_;rw[hi];rintro e' w5 ⟨rfl,hw⟩;obtain rfl:=hw.symm;clear hw))
   go_ret
   exact⟨af (aa HE).symm,(ak)⟩
set_option linter.unusedSimpArgs false
set_option maxRecDepth 20000 in
set_option maxHeartbeats 4000000 in
theorem dN(a:Option Addr)(len cap:Nat)(xs:List bZ)(B:Nat)(w:World)(h:eN w B a len xs):Calls Tryz.prog 170 #[.slice a len cap,.func (.func 169) #[] #[]] w fun e' w'=>e'= .returned (.bool (xs.all bZ.okB))∧Below w.heap.size w w':=by
 have hm:=h.2.1
 unfold maxLen at hm
 go_enter Tryz.func170,Tryz.ntmps170
 go_wp2
 go_loopw [9] (fun i wr=>∃ix:Nat,ix≤len∧i= .int .i64 ix∧Hid ((xs.take ix).all bZ.okB=true)∧Below w.heap.size w wr) (fun i _=>len - (intOf i).toNat)
 case atStart=>exact⟨0,Nat.zero_le _,rfl,ab (by simp),Below.refl _ _⟩
 case round=>
  obtain⟨ix,hk,rfl,hA,hbw⟩:=hrel
  by_cases hlt:ix<len
  ·obtain⟨hxl,_,hx⟩:=h
   obtain⟨g,o,rfl,_,hr⟩:=hx.resolve_left (by omega)
   obtain⟨x,hxk⟩:∃x,xs[ix]? =some x:=⟨_,List.getElem?_eq_getElem (by omega)⟩
   have hX:=ab hxk
   obtain⟨a1,l1,c1,a2,l2,c2,⟨d0,d1,d2⟩,k1,k2⟩:=(hr ix _ hxk).below hbw
   have hfold:bj x.n x.ps x.ls=x.okB:=rfl
   clear hx hxk hr
   cases hB:bZ.okB x
   ·have HE:Hid (xs.all bZ.okB=false):=ab (all_ff (aa hX) hB)
    go_wp2_with (go_at_call 169;refine(fe x.n a1 l1 c1 a2 l2 c2 x.ps x.ls _ (k1.1.below (ak)) (k2.1.below (ak))).mono ?_;rw[hfold,hB];rintro e' wf ⟨rfl,hbf⟩)
    go_ret
    exact⟨af (aa HE).symm,(ak)⟩
   ·have HE:Hid ((xs.take (ix+1)).all bZ.okB=true):=ab (all_tt (aa hA) (aa hX) hB)
    go_wp2_with (go_at_call 169;refine(fe x.n a1 l1 c1 a2 l2 c2 x.ps x.ls _ (k1.1.below (ak)) (k2.1.below (ak))).mono ?_;rw[hfold,hB];rintro e' wf ⟨rfl,hbf⟩)
    go_roundw
    case rel=>exact⟨ix+1,by omega,by go_num,HE,(ak)⟩
    case measure=>simp[intOf];omega
  ·have HE:Hid (xs.all bZ.okB=true):=ab (cj (aa hA) (by have:=h.1;omega))
   go_wp2
   go_ret
   exact⟨af (aa HE).symm,hbw⟩
set_option maxRecDepth 20000 in
set_option maxHeartbeats 4000000 in
theorem cS(x:bu)(a0:Option Addr)(l0 c0:Nat)(a2:Option Addr)(l2 c2:Nat)(a3:Option Addr)(l3 c3:Nat)(B:Nat)(w:World)(h:eN w B a0 l0 x.rd):Calls Tryz.prog 171 #[.agg #[.slice a0 l0 c0,.int .i64 x.n,.slice a2 l2 c2,.slice a3 l3 c3]] w fun e' w'=>e'= .returned (.bool (bv x.n x.rd))∧Below w.heap.size w w':=by
 have hm:=h.2.1
 unfold maxLen at hm
 have HH:=ab (h.below (ai w (.cells #[.slice a0 l0 c0,.int .i64 x.n,.slice a2 l2 c2,.slice a3 l3 c3] 74)))
 have HB0:=ab (ai w (.cells #[.slice a0 l0 c0,.int .i64 x.n,.slice a2 l2 c2,.slice a3 l3 c3] 74))
 have hxl:=h.1
 clear h
 go_enter Tryz.func171,Tryz.ntmps171
 go_wp2
 generalize hw0:w.alloc (.cells #[.slice a0 l0 c0,.int .i64 x.n,.slice a2 l2 c2,.slice a3 l3 c3] 74)=w0 at HH HB0 ⊢
 clear hw0
 go_loopw [3,11] (fun la i wr=>∃ix:Nat,ix≤l0∧i= .int .i64 ix∧la= .int .i64 (dD x.n (x.rd.take ix))∧Hid (bv x.n (x.rd.take ix)=true)∧Below w0.heap.size w0 wr) (fun _ i _=>l0 - (intOf i).toNat)
 case atStart=>exact⟨0,Nat.zero_le _,rfl,rfl,ab rfl,Below.refl _ _⟩
 case round=>
  obtain⟨ix,hk,rfl,rfl,hA,hbw⟩:=hrel
  by_cases hlt:ix<l0
  ·obtain⟨_,_,hx⟩:=aa HH
   obtain⟨g,o,rfl,_,hr⟩:=hx.resolve_left (by omega)
   obtain⟨y,hy⟩:∃y,x.rd[ix]? =some y:=⟨_,List.getElem?_eq_getElem (by omega)⟩
   have hX:=ab hy
   obtain⟨a1,l1,c1,b2,m2,n2,⟨d0,d1,d2⟩,k1,k2⟩:=(hr ix _ hy).below hbw
   clear hx hy hr
   by_cases hB:dD x.n (x.rd.take ix)<y.n
   ·have HE:=ab (fY (aa hA) (aa hX) hB)
    have HL:=ab (iG (n:=x.n) (aa hX))
    have hd:decide (y.n≤dD x.n (x.rd.take ix))=false:=decide_eq_false (by omega)
    generalize dD x.n (x.rd.take ix)=la at hB hd ⊢
    go_wp2
    go_roundw
    case rel=>exact⟨ix+1,by omega,by go_num,by rw[aa HL],HE,ae hbw (ak)⟩
    case measure=>simp[intOf];omega
   ·have HE:=ab (gP (aa hX) hB)
    have hd:decide (y.n≤dD x.n (x.rd.take ix))=true:=decide_eq_true (by omega)
    generalize dD x.n (x.rd.take ix)=la at hB hd ⊢
    go_wp2
    go_ret
    exact⟨af (aa HE).symm,ae (aa HB0) (ae hbw (ak))⟩
  ·have HE:Hid (bv x.n x.rd=true):=ab (by have h9:=aa hA;rwa [List.take_of_length_le (by omega)]at h9)
   go_wp2
   go_ret
   exact⟨af (aa HE).symm,ae (aa HB0) hbw⟩
set_option maxRecDepth 20000 in
set_option maxHeartbeats 8000000 in
theorem gU(x:bu)(a0:Option Addr)(l0 c0:Nat)(a2:Option Addr)(l2 c2:Nat)(a3:Option Addr)(l3 c3:Nat)(B:Nat)(w:World)(h0:eN w B a0 l0 x.rd)(h2:cK w B a2 l2 x.ps)(h3:cN w B a3 l3 x.ls):Calls Tryz.prog 133 #[.agg #[.slice a0 l0 c0,.int .i64 x.n,.slice a2 l2 c2,.slice a3 l3 c3]] w fun e' w'=>e'= .returned (.bool x.okB)∧Below w.heap.size w w':=by
 have hm0:=h0.len
 have hm2:=h2.len
 have hm3:=h3.len
 unfold maxLen at hm0 hm2 hm3
 cases q0:decide (x.rd.length≤12)
 ·have HE:Hid (x.okB=false):=ab (by unfold bu.okB;simp only[q0,Bool.and_false,Bool.false_and])
  have d0:¬ (l0:Int)≤12:=by have:=of_decide_eq_false q0;omega
  have D0:decide ((l0:Int)≤12)=false:=decide_eq_false d0
  clear d0
  go_enter Tryz.func133,Tryz.ntmps133
  go_wp2
  go_ret
  exact⟨af (aa HE).symm,(ak)⟩
 have D0:decide ((l0:Int)≤12)=true:=decide_eq_true (by have:=of_decide_eq_true q0;omega)
 cases q1:x.rd.all bZ.okB
 ·have HE:Hid (x.okB=false):=ab (by unfold bu.okB;simp only[q1,Bool.and_false,Bool.false_and])
  go_enter Tryz.func133,Tryz.ntmps133
  go_wp2_with (first
   |(go_at_call 170;refine(dN a0 l0 c0 x.rd B _ (h0.below (ak))).mono ?_;rw[q1];rintro e' y1 ⟨rfl,hb1⟩;obtain⟨hc1,hf1,hs1⟩:=ac hb1;have hz1:w.heap.size<y1.heap.size:=(by have h9:=hb1.size;(try simp at h9);omega)))
  go_ret
  exact⟨af (aa HE).symm,(ak)⟩
 cases q2:bv x.n x.rd
 ·have HE:Hid (x.okB=false):=ab (by unfold bu.okB;simp only[q2,Bool.and_false,Bool.false_and])
  go_enter Tryz.func133,Tryz.ntmps133
  go_wp2_with (first
   |(go_at_call 170;refine(dN a0 l0 c0 x.rd B _ (h0.below (ak))).mono ?_;rw[q1];rintro e' y1 ⟨rfl,hb1⟩;obtain⟨hc1,hf1,hs1⟩:=ac hb1;have hz1:w.heap.size<y1.heap.size:=(by have h9:=hb1.size;(try simp at h9);omega))
   |(go_at_call 171;refine(cS x a0 l0 c0 a2 l2 c2 a3 l3 c3 B _ (h0.below (ak))).mono ?_;rw[q2];rintro e' y2 ⟨rfl,hb2⟩;obtain⟨hc2,hf2,hs2⟩:=ac hb2;have hz2:w.heap.size<y2.heap.size:=(by have h9:=hb2.size;(try simp at h9);omega)))
  go_ret
  exact⟨af (aa HE).symm,(ak)⟩
 cases q3:aP x.n 0 900
 ·have HE:Hid (x.okB=false):=ab (by unfold bu.okB;simp only[q3,Bool.and_false,Bool.false_and])
  go_enter Tryz.func133,Tryz.ntmps133
  go_wp2_with (first
   |(go_at_call 170;refine(dN a0 l0 c0 x.rd B _ (h0.below (ak))).mono ?_;rw[q1];rintro e' y1 ⟨rfl,hb1⟩;obtain⟨hc1,hf1,hs1⟩:=ac hb1;have hz1:w.heap.size<y1.heap.size:=(by have h9:=hb1.size;(try simp at h9);omega))
   |(go_at_call 171;refine(cS x a0 l0 c0 a2 l2 c2 a3 l3 c3 B _ (h0.below (ak))).mono ?_;rw[q2];rintro e' y2 ⟨rfl,hb2⟩;obtain⟨hc2,hf2,hs2⟩:=ac hb2;have hz2:w.heap.size<y2.heap.size:=(by have h9:=hb2.size;(try simp at h9);omega))
   |(go_at_call 126;refine(ah _ _ _ _).mono ?_;rw[q3];rintro e' w5 ⟨rfl,hw⟩;obtain rfl:=hw.symm;clear hw))
  go_ret
  exact⟨af (aa HE).symm,(ak)⟩
 cases q4:decide (x.ps.length≤1500)
 ·have HE:Hid (x.okB=false):=ab (by unfold bu.okB;simp only[q4,Bool.and_false,Bool.false_and])
  have d4:¬ (l2:Int)≤1500:=by have:=of_decide_eq_false q4;omega
  have D4:decide ((l2:Int)≤1500)=false:=decide_eq_false d4
  clear d4
  go_enter Tryz.func133,Tryz.ntmps133
  go_wp2_with (first
   |(go_at_call 170;refine(dN a0 l0 c0 x.rd B _ (h0.below (ak))).mono ?_;rw[q1];rintro e' y1 ⟨rfl,hb1⟩;obtain⟨hc1,hf1,hs1⟩:=ac hb1;have hz1:w.heap.size<y1.heap.size:=(by have h9:=hb1.size;(try simp at h9);omega))
   |(go_at_call 171;refine(cS x a0 l0 c0 a2 l2 c2 a3 l3 c3 B _ (h0.below (ak))).mono ?_;rw[q2];rintro e' y2 ⟨rfl,hb2⟩;obtain⟨hc2,hf2,hs2⟩:=ac hb2;have hz2:w.heap.size<y2.heap.size:=(by have h9:=hb2.size;(try simp at h9);omega))
   |(go_at_call 126;refine(ah _ _ _ _).mono ?_;rw[q3];rintro e' w5 ⟨rfl,hw⟩;obtain rfl:=hw.symm;clear hw))
  go_ret
  exact⟨af (aa HE).symm,(ak)⟩
 have D4:decide ((l2:Int)≤1500)=true:=decide_eq_true (by have:=of_decide_eq_true q4;omega)
 cases q5:decide (x.ls.length≤1500)
 ·have HE:Hid (x.okB=false):=ab (by unfold bu.okB;simp only[q5,Bool.and_false,Bool.false_and])
  have d5:¬ (l3:Int)≤1500:=by have:=of_decide_eq_false q5;omega
  have D5:decide ((l3:Int)≤1500)=false:=decide_eq_false d5
  clear d5
  go_enter Tryz.func133,Tryz.ntmps133
  go_wp2_with (first
   |(go_at_call 170;refine(dN a0 l0 c0 x.rd B _ (h0.below (ak))).mono ?_;rw[q1];rintro e' y1 ⟨rfl,hb1⟩;obtain⟨hc1,hf1,hs1⟩:=ac hb1;have hz1:w.heap.size<y1.heap.size:=(by have h9:=hb1.size;(try simp at h9);omega))
   |(go_at_call 171;refine(cS x a0 l0 c0 a2 l2 c2 a3 l3 c3 B _ (h0.below (ak))).mono ?_;rw[q2];rintro e' y2 ⟨rfl,hb2⟩;obtain⟨hc2,hf2,hs2⟩:=ac hb2;have hz2:w.heap.size<y2.heap.size:=(by have h9:=hb2.size;(try simp at h9);omega))
   |(go_at_call 126;refine(ah _ _ _ _).mono ?_;rw[q3];rintro e' w5 ⟨rfl,hw⟩;obtain rfl:=hw.symm;clear hw))
  go_ret
  exact⟨af (aa HE).symm,(ak)⟩
 have D5:decide ((l3:Int)≤1500)=true:=decide_eq_true (by have:=of_decide_eq_true q5;omega)
 cases q6:x.ps.all co.okB
 ·have HE:Hid (x.okB=false):=ab (by unfold bu.okB;simp only[q6,Bool.and_false,Bool.false_and])
  go_enter Tryz.func133,Tryz.ntmps133
  go_wp2_with (first
   |(go_at_call 170;refine(dN a0 l0 c0 x.rd B _ (h0.below (ak))).mono ?_;rw[q1];rintro e' y1 ⟨rfl,hb1⟩;obtain⟨hc1,hf1,hs1⟩:=ac hb1;have hz1:w.heap.size<y1.heap.size:=(by have h9:=hb1.size;(try simp at h9);omega))
   |(go_at_call 171;refine(cS x a0 l0 c0 a2 l2 c2 a3 l3 c3 B _ (h0.below (ak))).mono ?_;rw[q2];rintro e' y2 ⟨rfl,hb2⟩;obtain⟨hc2,hf2,hs2⟩:=ac hb2;have hz2:w.heap.size<y2.heap.size:=(by have h9:=hb2.size;(try simp at h9);omega))
   |(go_at_call 126;refine(ah _ _ _ _).mono ?_;rw[q3];rintro e' w5 ⟨rfl,hw⟩;obtain rfl:=hw.symm;clear hw)
   |(go_at_call 172;refine(bw a2 l2 c2 x.ps _ (h2.1.below (ak))).mono ?_;rw[q6];rintro e' y6 ⟨rfl,hb6⟩;obtain⟨hc6,hf6,hs6⟩:=ac hb6;have hz6:w.heap.size<y6.heap.size:=(by have h9:=hb6.size;(try simp at h9);omega)))
  go_ret
  exact⟨af (aa HE).symm,(ak)⟩
 cases q7:x.ls.all bz.okB
 ·have HE:Hid (x.okB=false):=ab (by unfold bu.okB;simp only[q7,Bool.and_false,Bool.false_and])
  go_enter Tryz.func133,Tryz.ntmps133
  go_wp2_with (first
   |(go_at_call 170;refine(dN a0 l0 c0 x.rd B _ (h0.below (ak))).mono ?_;rw[q1];rintro e' y1 ⟨rfl,hb1⟩;obtain⟨hc1,hf1,hs1⟩:=ac hb1;have hz1:w.heap.size<y1.heap.size:=(by have h9:=hb1.size;(try simp at h9);omega))
   |(go_at_call 171;refine(cS x a0 l0 c0 a2 l2 c2 a3 l3 c3 B _ (h0.below (ak))).mono ?_;rw[q2];rintro e' y2 ⟨rfl,hb2⟩;obtain⟨hc2,hf2,hs2⟩:=ac hb2;have hz2:w.heap.size<y2.heap.size:=(by have h9:=hb2.size;(try simp at h9);omega))
   |(go_at_call 126;refine(ah _ _ _ _).mono ?_;rw[q3];rintro e' w5 ⟨rfl,hw⟩;obtain rfl:=hw.symm;clear hw)
   |(go_at_call 172;refine(bw a2 l2 c2 x.ps _ (h2.1.below (ak))).mono ?_;rw[q6];rintro e' y6 ⟨rfl,hb6⟩;obtain⟨hc6,hf6,hs6⟩:=ac hb6;have hz6:w.heap.size<y6.heap.size:=(by have h9:=hb6.size;(try simp at h9);omega))
   |(go_at_call 174;refine(bK a3 l3 c3 x.ls _ (h3.1.below (ak))).mono ?_;rw[q7];rintro e' y7 ⟨rfl,hb7⟩;obtain⟨hc7,hf7,hs7⟩:=ac hb7;have hz7:w.heap.size<y7.heap.size:=(by have h9:=hb7.size;(try simp at h9);omega)))
  go_ret
  exact⟨af (aa HE).symm,(ak)⟩
 have HE:Hid (x.okB=true):=ab (by unfold bu.okB;simp only[q0,q1,q2,q3,q4,q5,q6,q7,Bool.and_true])
 go_enter Tryz.func133,Tryz.ntmps133
 go_wp2_with (first
   |(go_at_call 170;refine(dN a0 l0 c0 x.rd B _ (h0.below (ak))).mono ?_;rw[q1];rintro e' y1 ⟨rfl,hb1⟩;obtain⟨hc1,hf1,hs1⟩:=ac hb1;have hz1:w.heap.size<y1.heap.size:=(by have h9:=hb1.size;(try simp at h9);omega))
   |(go_at_call 171;refine(cS x a0 l0 c0 a2 l2 c2 a3 l3 c3 B _ (h0.below (ak))).mono ?_;rw[q2];rintro e' y2 ⟨rfl,hb2⟩;obtain⟨hc2,hf2,hs2⟩:=ac hb2;have hz2:w.heap.size<y2.heap.size:=(by have h9:=hb2.size;(try simp at h9);omega))
   |(go_at_call 126;refine(ah _ _ _ _).mono ?_;rw[q3];rintro e' w5 ⟨rfl,hw⟩;obtain rfl:=hw.symm;clear hw)
   |(go_at_call 172;refine(bw a2 l2 c2 x.ps _ (h2.1.below (ak))).mono ?_;rw[q6];rintro e' y6 ⟨rfl,hb6⟩;obtain⟨hc6,hf6,hs6⟩:=ac hb6;have hz6:w.heap.size<y6.heap.size:=(by have h9:=hb6.size;(try simp at h9);omega))
   |(go_at_call 174;refine(bK a3 l3 c3 x.ls _ (h3.1.below (ak))).mono ?_;rw[q7];rintro e' y7 ⟨rfl,hb7⟩;obtain⟨hc7,hf7,hs7⟩:=ac hb7;have hz7:w.heap.size<y7.heap.size:=(by have h9:=hb7.size;(try simp at h9);omega)))
 go_ret
 exact⟨af (aa HE).symm,(ak)⟩
set_option maxRecDepth 20000 in
set_option maxHeartbeats 4000000 in
theorem everySk(a:Option Addr)(len cap:Nat)(xs:List bu)(B:Nat)(w:World)(h:eR w B a len xs):Calls Tryz.prog 132 #[.slice a len cap,.func (.func 133) #[] #[]] w fun e' w'=>e'= .returned (.bool (xs.all bu.okB))∧Below w.heap.size w w':=by
 have hm:=h.2.1
 unfold maxLen at hm
 go_enter Tryz.func132,Tryz.ntmps132
 go_wp2
 go_loopw [9] (fun i wr=>∃ix:Nat,ix≤len∧i= .int .i64 ix∧Hid ((xs.take ix).all bu.okB=true)∧Below w.heap.size w wr) (fun i _=>len - (intOf i).toNat)
 case atStart=>exact⟨0,Nat.zero_le _,rfl,ab (by simp),Below.refl _ _⟩
 case round=>
  obtain⟨ix,hk,rfl,hA,hbw⟩:=hrel
  by_cases hlt:ix<len
  ·obtain⟨hxl,_,hx⟩:=h
   obtain⟨g,o,rfl,_,hr⟩:=hx.resolve_left (by omega)
   obtain⟨x,hxk⟩:∃x,xs[ix]? =some x:=⟨_,List.getElem?_eq_getElem (by omega)⟩
   have hX:=ab hxk
   obtain⟨a0,l0,c0,a2,l2,c2,a3,l3,c3,⟨d0,d1,d2,d3⟩,k0,k2,k3⟩:=(hr ix _ hxk).below hbw
   clear hx hxk hr
   cases hB:bu.okB x
   ·have HE:Hid (xs.all bu.okB=false):=ab (all_ff (aa hX) hB)
    go_wp2_with (go_at_call 133;refine(gU x a0 l0 c0 a2 l2 c2 a3 l3 c3 B _ (k0.below (ak)) (k2.below (ak)) (k3.below (ak))).mono ?_;rw[hB];rintro e' wf ⟨rfl,hbf⟩)
    go_ret
    exact⟨af (aa HE).symm,(ak)⟩
   ·have HE:Hid ((xs.take (ix+1)).all bu.okB=true):=ab (all_tt (aa hA) (aa hX) hB)
    go_wp2_with (go_at_call 133;refine(gU x a0 l0 c0 a2 l2 c2 a3 l3 c3 B _ (k0.below (ak)) (k2.below (ak)) (k3.below (ak))).mono ?_;rw[hB];rintro e' wf ⟨rfl,hbf⟩)
    go_roundw
    case rel=>exact⟨ix+1,by omega,by go_num,HE,(ak)⟩
    case measure=>simp[intOf];omega
  ·have HE:Hid (xs.all bu.okB=true):=ab (cj (aa hA) (by have:=h.1;omega))
   go_wp2
   go_ret
   exact⟨af (aa HE).symm,hbw⟩
end Go.Proofs.YtealpjmannopeaaGreat
namespace Go.Proofs.YtealpjmannopeaaGreat
open Go.ChangeShapes Go.WideShapes Go.ChangeAt Go.RowKit
/-- Whether an item may follow in a log behind a mark; the mark behind it. -/
def cx(q t k v n m:Int):Bool:=if q=1 then bI t k v n else if q=2 then aS t k v n&&decide (m<t)else false
def dO(q t m:Int):Int:=if q=2 then hiI m t else m
theorem gV(q t k v n m:Int)(w:World):Calls Tryz.prog 163 #[cu q t k v n,.int .i64 m] w fun e w'=>e= .returned (.bool (cx q t k v n m))∧Below w.heap.size w w':=by
 by_cases h1:q=1
 ·subst h1
  rw[i1]
  have rR:=taRR
  have mR:=taRM
  have hq:Hid (cx 1 t k v n m=bI t k v n):=ab rfl
  go_enter Tryz.func163,Tryz.ntmps163
  go_wp2_with (go_at_call 185;refine(iC _ _ _ _ _ _).mono ?_;rintro e w' ⟨rfl,hb⟩)
  go_ret
  exact⟨af (aa hq).symm,(aL)⟩
 by_cases h2:q=2
 ·subst h2
  rw[i4]
  have rM:=taMR
  have mM:=taMM
  cases ho:aS t k v n
  ·have hq:Hid (cx 2 t k v n m=false):=ab (by show(aS t k v n&&decide (m<t))=false;rw[ho];rfl)
   go_enter Tryz.func163,Tryz.ntmps163
   go_wp2_with (first
    |(go_at_call 186;refine(fC _ _ _ _ _ _).mono ?_;rintro e w' ⟨rfl,hb⟩;obtain⟨hc,hf,hs⟩:=ac hb;(try have hz0:=zA hb w.heap.size)))
   go_ret
   exact⟨af (aa hq).symm,(aL)⟩
  ·have hq:Hid (cx 2 t k v n m=decide (m<t)):=ab (by show(aS t k v n&&decide (m<t))=_;rw[ho];rfl)
   go_enter Tryz.func163,Tryz.ntmps163
   go_wp2_with (first
    |(go_at_call 186;refine(fC _ _ _ _ _ _).mono ?_;rintro e w' ⟨rfl,hb⟩;obtain⟨hc,hf,hs⟩:=ac hb;(try have hz0:=zA hb w.heap.size)))
   go_ret
   exact⟨af (aa hq).symm,(aL)⟩
 have hq:Hid (cx q t k v n m=false):=ab (by unfold cx;rw[if_neg h1,if_neg h2])
 by_cases h3:q=3
 ·subst h3
  rw[i5]
  have rW:=taWR
  have mW:=taWM
  go_enter Tryz.func163,Tryz.ntmps163
  go_wp2
  go_ret
  exact⟨af (aa hq).symm,(aL)⟩
 ·rw[i6 h1 h2 h3]
  have rN:=taNR
  have mN:=taNM
  clear h1 h2 h3
  go_enter Tryz.func163,Tryz.ntmps163
  go_wp2
  go_ret
  exact⟨af (aa hq).symm,(aL)⟩
theorem lbehind_any(q t k v n m:Int)(w:World):Calls Tryz.prog 164 #[cu q t k v n,.int .i64 m] w fun e w'=>e= .returned (.int .i64 (dO q t m))∧Below w.heap.size w w':=by
 by_cases h2:q=2
 ·subst h2
  rw[i4]
  have rM:=taMR
  have mM:=taMM
  by_cases h4:m<t
  ·have hq:Hid (dO 2 t m=t):=ab (hiI_d h4)
   go_enter Tryz.func164,Tryz.ntmps164
   go_wp2
   go_ret
   exact⟨cW (aa hq).symm,(aL)⟩
  ·have hq:Hid (dO 2 t m=m):=ab (hiI_b h4)
   go_enter Tryz.func164,Tryz.ntmps164
   go_wp2
   go_ret
   exact⟨cW (aa hq).symm,(aL)⟩
 have hq:Hid (dO q t m=m):=ab (if_neg h2)
 by_cases h1:q=1
 ·subst h1
  rw[i1]
  have rR:=taRR
  have mR:=taRM
  go_enter Tryz.func164,Tryz.ntmps164
  go_wp2
  go_ret
  exact⟨cW (aa hq).symm,(aL)⟩
 by_cases h3:q=3
 ·subst h3
  rw[i5]
  have rW:=taWR
  have mW:=taWM
  go_enter Tryz.func164,Tryz.ntmps164
  go_wp2
  go_ret
  exact⟨cW (aa hq).symm,(aL)⟩
 ·rw[i6 h1 h2 h3]
  have rN:=taNR
  have mN:=taNM
  clear h1 h2 h3
  go_enter Tryz.func164,Tryz.ntmps164
  go_wp2
  go_ret
  exact⟨cW (aa hq).symm,(aL)⟩
end Go.Proofs.YtealpjmannopeaaGreat
namespace Go.Proofs.YtealpjmannopeaaGreat
open Go.RowKit Go.Shelf
attribute [local go_sem] Oper.semAt_some
theorem iK{W W':World}(h:Below W.heap.size W W'):W.grownBy W' none:=⟨h.os,h.tape,h.output,h.size,fun k hk _=>h.block k hk⟩
theorem iL{xs:List It}{k:Nat}{x:It}(h:xs[k]? =some x):xs.take (k+1)=xs.take k++[x]:=by
 obtain⟨hk,rfl⟩:=List.getElem?_eq_some_iff.1 h
 exact List.take_succ_eq_append_getElem hk
set_option maxRecDepth 100000 in
set_option maxHeartbeats 2000000 in
theorem parts1_in(n:Nat)(hn:2≤n)(l Bs n₀ len cap:Nat)(a:Option Addr)(xs:List It)(J Jx:List It→World→Prop)
  (hY:∀pre x W,J pre W→pre.length<len→YieldAt Fence.wide (n - 1) Tryz.prog l #[cu x.q x.t x.k x.v x.n] W fun e W'=>
   (e= .returned (.bool true)∧J (pre++[x]) W'∧Below n₀ W W')∨(e= .returned (.bool false)∧Jx (pre++[x]) W'))
  (W:World) (hJ:AbidesFrom W.heap.size J) (hnW:n₀≤W.heap.size) (hBs:W.cell? ⟨Bs,0,none⟩=some (.slice a len cap)) (hI:Its W a len xs) (hlow:∀g o,0<len→a=some ⟨g,o,none⟩→g<n₀) (h0:J [] W):
  CallsIn Fence.wide n Tryz.prog 139 #[.func (.yield l) #[] #[],.pointer (some ⟨Bs,0,none⟩)] W fun e W'=>(∃v,e= .returned v)∧
   ((∃ys,ys=xs∧J ys W')∨(∃pre,pre <+: xs∧Jx pre W')):=by
 have hm:=hI.2.1
 unfold maxLen at hm
 refine callsIn_of_wp Tryz.func139 rfl trivial ?_ rfl
 simp only[Tryz.ntmps139,List.size_toArray,List.length_cons,List.length_nil,Nat.reduceAdd,Nat.reduceSub,Array.replicate_succ,Array.replicate_zero,List.push_toArray,List.append_toArray,List.nil_append,List.cons_append]
 gi_wp2
 gi_loopw [7] (fun i wr=>∃k:Nat,k≤len∧i= .int .i64 k∧J (xs.take k) wr∧Below n₀ W wr)
  (fun i _=>len - (intOf i).toNat)
 case atStart=>exact⟨0,Nat.zero_le _,rfl,by simpa using h0,Below.refl _ _⟩
 case round=>
  obtain⟨k,hk,rfl,hJs,hnx⟩:=hrel
  by_cases hlt:k<len
  ·obtain⟨hxl,_,hx⟩:=hI
   obtain⟨g,o,rfl,hr⟩:=hx.resolve_left (by omega)
   obtain⟨x,hxk⟩:∃x,xs[k]? =some x:=⟨_,List.getElem?_eq_getElem (by omega)⟩
   have hX:=ab hxk
   have hg:g<n₀:=hlow g o (by omega) rfl
   obtain⟨c0,c1,c2,c3,c4⟩:=(hr k _ hxk).below hnx hg
   clear hx hxk
   gi_wp2_with (refine⟨trivial,fun _=>(by omega),?_⟩;gi_at_call 140;refine(callsIn_wide.2 (cB _ _ _ _ _ _)).mono ?_;rintro e w' ⟨rfl,hb⟩;obtain⟨fn,tmps,assign,body,hy,hR⟩:=hY (xs.take k) x w' (hJ _ wr w' none hJs (iK (ae (ai wr _) hb)) (fun r e=>by cases e)) (jk))
   refine⟨fun _=>(by omega),hR.mono ?_⟩
   rintro e W3 (⟨rfl,hJ3,hk3⟩|⟨rfl,hJx3⟩)
   ·gi_wp2
    go_roundw
    case rel=>exact⟨k+1,by omega,by go_num,by rw[iL (aa hX)];exact hJ3,(hnx.trans ((ae (ai wr _) hb).mono (Nat.le_trans hnW hnx.size))).trans hk3⟩
    case measure=>simp[intOf];omega
   ·gi_wp2
    refine bodyPost_ret (results_none rfl _ _ _) rfl ?_
    exact⟨⟨_,rfl⟩,.inr ⟨_,by rw[←iL (aa hX)];exact List.take_prefix _ _,hJx3⟩⟩
  ·gi_wp2
   go_end0
   exact⟨⟨_,rfl⟩,.inl ⟨_,by rw[List.take_of_length_le (by have:=hI.1;omega)],hJs⟩⟩
set_option maxHeartbeats 1000000 in
theorem jd(a:Option Addr)(len cap:Nat)(w:World):Calls Tryz.prog 95 #[.slice a len cap] w fun e w'=>e= .returned (.func (.func 139) #[] #[.pointer (some ⟨w.heap.size,0,none⟩)])∧w'=w.alloc (.cells #[.slice a len cap] 62):=by
 go_enter Tryz.func95,Tryz.ntmps95
 go_wp2
 go_ret
 exact⟨rfl,rfl⟩
theorem parts_stops(n:Nat)(hn:2≤n)(Bs n₀ len cap:Nat)(a:Option Addr)(xs:List It)(w:World)(hBs:Bs<w.heap.size)(hn₀:n₀≤w.heap.size)
  (hc:w.cell? ⟨Bs,0,none⟩=some (.slice a len cap)) (hI:Its w a len xs) (hlow:∀g o,0<len→a=some ⟨g,o,none⟩→g<n₀):
  SeqStopsK Fence.wide n Tryz.prog 139 #[.pointer (some ⟨Bs,0,none⟩)] (fun x:It=>#[cu x.q x.t x.k x.v x.n]) (Below n₀) (fun ys=>ys=xs) (fun pre=>pre <+: xs) len w:=fun l J Jx W hW hJ _ hY h0=>by
 have hc':=(hW.cell (p:=⟨Bs,0,none⟩) hBs).trans hc
 exact parts1_in n hn l Bs n₀ len cap a xs J Jx hY W hJ (Nat.le_trans hn₀ hW.size) hc' (hI.below hW) hlow h0
end Go.Proofs.YtealpjmannopeaaGreat
