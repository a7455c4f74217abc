/- Laid together: what the claim needs of the texts that were built one by one. -/
import Derived.Test.YtiilbnjjhgcjdaaGreatX21
import Derived.Test.YtiilbnjjhgcjdaaGreatX12
import Derived.Test.YtiilbnjjhgcjdaaGreatX0
import Derived.Test.YtiilbnjjhgcjdaaGreatX15
import Derived.Test.YtiilbnjjhgcjdaaGreatX4
import Derived.Test.YtiilbnjjhgcjdaaGreatX20
import Derived.Test.YtiilbnjjhgcjdaaGreatX14
import Derived.RangeFuncNested
import Derived.RangeFuncBound
import Derived.RangeFuncCalls
import Derived.RangeFuncLeaves
import Derived.RangeFuncBox
import Derived.Shelf.Abstract
import Derived.Shelf.RegionOpen
import Derived.WalkKit
import Derived.OwnWalkIn
import Derived.TacticsInMore
import Derived.LoopNIn
import Derived.LoopIn
set_option linter.unusedVariables false
namespace Go.Proofs.YtiilbnjjhgcjdaaGreat
open Go.ChangeShapes Go.WideShapes Go.ChangeAt Go.RowKit Go.Deep
theorem noth_any(x:cz)(a1:Option Addr)(l1 c1:Nat)(a2:Option Addr)(l2 c2:Nat)(w:World)(h1:x.rows.length=l1)(h2:x.marks.length=l2):Calls Tryz.prog 160 #[.agg #[.int .i64 x.ma,.slice a1 l1 c1,.slice a2 l2 c2]] w fun e' w'=>e'= .returned (.bool (bb x))∧Below w.heap.size w w':=by
 by_cases hm:x.ma=0
 rotate_left
 ·have hm1:(x.ma==0)=false:=beq_eq_false_iff_ne.2 hm
  have HE:Hid (bb x=false):=ab (by unfold bb;rw[hm1];rfl)
  go_enter Tryz.func160,Tryz.ntmps160
  go_wp2
  go_ret
  exact⟨ae (aa HE).symm,(aj)⟩
 have hm1:(x.ma==0)=true:=by simp[hm]
 by_cases hr:l1=0
 rotate_left
 ·have hr1:((l1:Int)==0)=false:=beq_eq_false_iff_ne.2 (by omega)
  have HE:Hid (bb x=false):=ab (by unfold bb;rw[decide_eq_false (by omega)];simp)
  go_enter Tryz.func160,Tryz.ntmps160
  go_wp2
  go_ret
  exact⟨ae (aa HE).symm,(aj)⟩
 subst hr
 by_cases hk:l2=0
 rotate_left
 ·have hr1:((l2:Int)==0)=false:=beq_eq_false_iff_ne.2 (by omega)
  have HE:Hid (bb x=false):=ab (by unfold bb;rw[decide_eq_false (by omega)];simp)
  go_enter Tryz.func160,Tryz.ntmps160
  go_wp2
  go_ret
  exact⟨ae (aa HE).symm,(aj)⟩
 subst hk
 have HE:Hid (bb x=true):=ab (by unfold bb;rw[hm1,decide_eq_true (by omega)];rfl)
 go_enter Tryz.func160,Tryz.ntmps160
 go_wp2
 go_ret
 exact⟨ae (aa HE).symm,(aj)⟩
/-- Whether a task may have told that, if one is under way. -/
def fN(s t k z p l e v r:Int)(q:Bool×cz):Bool:=match q.1 with
 |true=>bv s t k z p l e v r q.2
 |false=>bb q.2
def cX(s t k z p l e v r:Int)(x:gP):Bool:=decide ((x.src.length:Int)=s)&&decide ((x.tsk.length:Int)=t)&&decide ((x.sn.length:Int)=t)&&x.src.all cy&&(x.tsk.zip x.sn).all (fN s t k z p l e v r)&&(x.op||decide (fB x.src x.tsk=0))
theorem eZ{s t k z p l e v r:Int}{x:gP}(h:cX s t k z p l e v r x=true):(x.src.length:Int)=s∧(x.tsk.length:Int)=t∧(x.sn.length:Int)=t∧x.src.all cy=true∧(x.tsk.zip x.sn).all (fN s t k z p l e v r)=true:=by
 unfold cX at h
 simp only[Bool.and_eq_true,decide_eq_true_eq]at h
 exact⟨h.1.1.1.1.1,h.1.1.1.1.2,h.1.1.1.2,h.1.1.2,h.1.2⟩
theorem toldB_val{s t k z p l e v r:Int}{x:gP}(h1:(x.src.length:Int)=s)(h2:(x.tsk.length:Int)=t)(h3:(x.sn.length:Int)=t)(h4:x.src.all cy=true):cX s t k z p l e v r x=((x.tsk.zip x.sn).all (fN s t k z p l e v r)&&(x.op||decide (fB x.src x.tsk=0))):=by
 unfold cX
 rw[decide_eq_true h1,decide_eq_true h2,decide_eq_true h3,h4]
 rfl
set_option linter.unusedSimpArgs false in
set_option maxRecDepth 20000 in
set_option maxHeartbeats 8000000 in
theorem dy(s t k z p l e:Int)(b:Bool)(v r:Int)(x:gP)(a2:Option Addr)(l2 c2:Nat)(a3:Option Addr)(l3 c3:Nat)(a4:Option Addr)(l4 c4:Nat)(a6:Option Addr)(l6 c6:Nat)(a7:Option Addr)(l7 c7:Nat)(B:Nat)(w:World)(h:gC w B a2 l2 a3 l3 a4 l4 a6 l6 a7 l7 x)(hs3:s≤3)(ht2:t≤2):Calls Tryz.prog 101 #[.agg #[.int .i64 x.n,.bool x.op,.slice a2 l2 c2,.slice a3 l3 c3,.slice a4 l4 c4,.int .i64 x.sfn,.slice a6 l6 c6,.slice a7 l7 c7],.agg #[.int .i64 s,.int .i64 t,.int .i64 k,.int .i64 z,.int .i64 p,.int .i64 l,.int .i64 e,.bool b,.int .i64 v,.int .i64 r]] w fun e' w'=>e'= .returned (.bool (cX s t k z p l e v r x))∧Below w.heap.size w w':=by
 have le2:=h.src.len.1
 have hm2:=h.src.len.2
 have le3:=h.tsk.len.1
 have hm3:=h.tsk.len.2
 have le4:=h.sn.len.1
 have hm4:=h.sn.len.2
 unfold maxLen at hm2 hm3 hm4
 by_cases hl:(l2:Int)=s
 rotate_left
 ·skip
  have hl1:((l2:Int)==s)=false:=beq_eq_false_iff_ne.2 hl
  have hl2:((l2:Int) != s)=true:=by simp[hl]
  have HE:Hid (cX s t k z p l e v r x=false):=ab (Bool.eq_false_iff.2 (fun hc=>hl (by rw[←le2];exact(eZ hc).1)))
  go_enter Tryz.func101,Tryz.ntmps101
  go_wp2
  go_ret
  exact⟨ae (aa HE).symm,(aj)⟩
 subst hl
 by_cases ht:(l3:Int)=t
 rotate_left
 ·skip
  have ht1:((l3:Int)==t)=false:=beq_eq_false_iff_ne.2 ht
  have ht2:((l3:Int) != t)=true:=by simp[ht]
  have HE:Hid (cX (l2:Int) t k z p l e v r x=false):=ab (Bool.eq_false_iff.2 (fun hc=>ht (by rw[←le3];exact(eZ hc).2.1)))
  go_enter Tryz.func101,Tryz.ntmps101
  go_wp2
  go_ret
  exact⟨ae (aa HE).symm,(aj)⟩
 subst ht
 by_cases hu:(l4:Int)=(l3:Int)
 rotate_left
 ·skip
  have hu1:((l4:Int)==(l3:Int))=false:=beq_eq_false_iff_ne.2 hu
  have hu2:((l4:Int) != (l3:Int))=true:=by simp[hu]
  have HE:Hid (cX (l2:Int) (l3:Int) k z p l e v r x=false):=ab (Bool.eq_false_iff.2 (fun hc=>hu (by rw[←le4];exact(eZ hc).2.2.1)))
  go_enter Tryz.func101,Tryz.ntmps101
  go_wp2
  go_ret
  exact⟨ae (aa HE).symm,(aj)⟩
 obtain rfl:l3=l4:=by omega
 clear hu
 cases ha:x.src.all cy
 ·skip
  have HE:Hid (cX (l2:Int) (l3:Int) k z p l e v r x=false):=ab (Bool.eq_false_iff.2 (fun hc=>by have h9:=(eZ hc).2.2.2.1;rw[ha]at h9;cases h9))
  go_enter Tryz.func101,Tryz.ntmps101
  go_wp2_with (go_at_call 151;refine(everyRng a2 l2 c2 x.src _ (h.src.1.below (aj))).mono ?_;rw[ha];rintro e' y2 ⟨rfl,hb2⟩;obtain⟨hc2,hf2,hs2⟩:=ac hb2;have hz20:w.heap.size<y2.heap.size:=(by have h9:=hb2.size;(try simp at h9);omega);have hz21:w.heap.size+1<y2.heap.size:=(by have h9:=hb2.size;(try simp at h9);omega))
  go_ret
  exact⟨ae (aa HE).symm,(aj)⟩
 have HV:Hid (cX (l2:Int) (l3:Int) k z p l e v r x=((x.tsk.zip x.sn).all (fN (l2:Int) (l3:Int) k z p l e v r)&&(x.op||decide (fB x.src x.tsk=0)))):=ab (toldB_val (by rw[le2]) (by rw[le3]) (by rw[le4]) ha)
 obtain⟨tn,HT⟩:∃tn,Hid (tn=fB x.src x.tsk):=⟨_,ab rfl⟩
 have ht32:tn<32:=by rw[aa HT];exact bB_lt _ _ (iT) (by omega)
 have HAT:Hid (∀(i:Nat) (q:Bool),x.tsk[i]? =some q→decide (tn&&&2 ^ (3+i)=2 ^ (3+i))=q):=ab (fun i q hq=>by rw[aa HT];exact told_at (by omega) (by omega) hq)
 go_enter Tryz.func101,Tryz.ntmps101
 go_wp2_with (first
  |(go_at_call 151;refine(everyRng a2 l2 c2 x.src _ (h.src.1.below (aj))).mono ?_;rw[ha];rintro e' y2 ⟨rfl,hb2⟩;obtain⟨hc2,hf2,hs2⟩:=ac hb2;have hz20:w.heap.size<y2.heap.size:=(by have h9:=hb2.size;(try simp at h9);omega);have hz21:w.heap.size+1<y2.heap.size:=(by have h9:=hb2.size;(try simp at h9);omega))
  |(go_at_call 157;refine(told_any x a2 l2 c2 a3 l3 c3 a4 l3 c4 a6 l6 c6 a7 l7 c7 B _ (h.src.below (aj)) (h.tsk.below (aj)) (by omega) (by omega)).mono ?_;rw[←aa HT];rintro e' y3 ⟨rfl,hb3⟩;obtain⟨hc3,hf3,hs3⟩:=ac hb3;have hz30:w.heap.size<y3.heap.size:=(by have h9:=hb3.size;(try simp at h9);omega);have hz31:w.heap.size+1<y3.heap.size:=(by have h9:=hb3.size;(try simp at h9);omega)))
 have hQ:Below ((w.alloc (.cells #[.int .i64 x.n,.bool x.op,.slice a2 l2 c2,.slice a3 l3 c3,.slice a4 l3 c4,.int .i64 x.sfn,.slice a6 l6 c6,.slice a7 l7 c7] 48)).alloc (.cells #[.int .i64 (l2:Int),.int .i64 (l3:Int),.int .i64 k,.int .i64 z,.int .i64 p,.int .i64 l,.int .i64 e,.bool b,.int .i64 v,.int .i64 r] 39)).heap.size ((w.alloc (.cells #[.int .i64 x.n,.bool x.op,.slice a2 l2 c2,.slice a3 l3 c3,.slice a4 l3 c4,.int .i64 x.sfn,.slice a6 l6 c6,.slice a7 l7 c7] 48)).alloc (.cells #[.int .i64 (l2:Int),.int .i64 (l3:Int),.int .i64 k,.int .i64 z,.int .i64 p,.int .i64 l,.int .i64 e,.bool b,.int .i64 v,.int .i64 r] 39)) y3:=ad hb2 hb3
 have hW:Below w.heap.size w y3:=ad (aI (ai _ _) _) hQ
 have H3:=h.tsk.1.below hW
 have H4:=h.sn.below hW
 have kb0:y3.cell? ⟨w.heap.size,0,none⟩=some (.int .i64 x.n):=(hQ.cell (p:=⟨w.heap.size,0,none⟩) (iR)).trans (iS)
 have kb1:y3.cell? ⟨w.heap.size,1,none⟩=some (.bool x.op):=(hQ.cell (p:=⟨w.heap.size,1,none⟩) (iR)).trans (iS)
 have kb2:y3.cell? ⟨w.heap.size,2,none⟩=some (.slice a2 l2 c2):=(hQ.cell (p:=⟨w.heap.size,2,none⟩) (iR)).trans (iS)
 have kb3:y3.cell? ⟨w.heap.size,3,none⟩=some (.slice a3 l3 c3):=(hQ.cell (p:=⟨w.heap.size,3,none⟩) (iR)).trans (iS)
 have kb4:y3.cell? ⟨w.heap.size,4,none⟩=some (.slice a4 l3 c4):=(hQ.cell (p:=⟨w.heap.size,4,none⟩) (iR)).trans (iS)
 have kb5:y3.cell? ⟨w.heap.size,5,none⟩=some (.int .i64 x.sfn):=(hQ.cell (p:=⟨w.heap.size,5,none⟩) (iR)).trans (iS)
 have kb6:y3.cell? ⟨w.heap.size,6,none⟩=some (.slice a6 l6 c6):=(hQ.cell (p:=⟨w.heap.size,6,none⟩) (iR)).trans (iS)
 have kb7:y3.cell? ⟨w.heap.size,7,none⟩=some (.slice a7 l7 c7):=(hQ.cell (p:=⟨w.heap.size,7,none⟩) (iR)).trans (iS)
 have jb0:y3.cell? ⟨w.heap.size+1,0,none⟩=some (.int .i64 (l2:Int)):=(hQ.cell (p:=⟨w.heap.size+1,0,none⟩) (iR)).trans (iS)
 have jb1:y3.cell? ⟨w.heap.size+1,1,none⟩=some (.int .i64 (l3:Int)):=(hQ.cell (p:=⟨w.heap.size+1,1,none⟩) (iR)).trans (iS)
 have jb2:y3.cell? ⟨w.heap.size+1,2,none⟩=some (.int .i64 k):=(hQ.cell (p:=⟨w.heap.size+1,2,none⟩) (iR)).trans (iS)
 have jb3:y3.cell? ⟨w.heap.size+1,3,none⟩=some (.int .i64 z):=(hQ.cell (p:=⟨w.heap.size+1,3,none⟩) (iR)).trans (iS)
 have jb4:y3.cell? ⟨w.heap.size+1,4,none⟩=some (.int .i64 p):=(hQ.cell (p:=⟨w.heap.size+1,4,none⟩) (iR)).trans (iS)
 have jb5:y3.cell? ⟨w.heap.size+1,5,none⟩=some (.int .i64 l):=(hQ.cell (p:=⟨w.heap.size+1,5,none⟩) (iR)).trans (iS)
 have jb6:y3.cell? ⟨w.heap.size+1,6,none⟩=some (.int .i64 e):=(hQ.cell (p:=⟨w.heap.size+1,6,none⟩) (iR)).trans (iS)
 have jb7:y3.cell? ⟨w.heap.size+1,7,none⟩=some (.bool b):=(hQ.cell (p:=⟨w.heap.size+1,7,none⟩) (iR)).trans (iS)
 have jb8:y3.cell? ⟨w.heap.size+1,8,none⟩=some (.int .i64 v):=(hQ.cell (p:=⟨w.heap.size+1,8,none⟩) (iR)).trans (iS)
 have jb9:y3.cell? ⟨w.heap.size+1,9,none⟩=some (.int .i64 r):=(hQ.cell (p:=⟨w.heap.size+1,9,none⟩) (iR)).trans (iS)
 clear hc2 hf2 hs2 hb2 hc3 hf3 hs3 hb3 hQ hz20 hz21 ha
 go_loopw [39] (fun i wr=>∃ix:Nat,ix≤l3∧i= .int .i64 ix∧Hid (((x.tsk.zip x.sn).take ix).all (fN (l2:Int) (l3:Int) k z p l e v r)=true)∧Below y3.heap.size y3 wr) (fun i _=>l3 - (intOf i).toNat)
 case atStart=>exact⟨0,Nat.zero_le _,rfl,ab (by simp),Below.refl _ _⟩
 case round=>
  obtain⟨ix,hk,rfl,hA,hbq⟩:=hrel
  have tc0:wr.cell? ⟨w.heap.size,0,none⟩=some (.int .i64 x.n):=(hbq.cell (p:=⟨w.heap.size,0,none⟩) (iR)).trans kb0
  have tc1:wr.cell? ⟨w.heap.size,1,none⟩=some (.bool x.op):=(hbq.cell (p:=⟨w.heap.size,1,none⟩) (iR)).trans kb1
  have tc2:wr.cell? ⟨w.heap.size,2,none⟩=some (.slice a2 l2 c2):=(hbq.cell (p:=⟨w.heap.size,2,none⟩) (iR)).trans kb2
  have tc3:wr.cell? ⟨w.heap.size,3,none⟩=some (.slice a3 l3 c3):=(hbq.cell (p:=⟨w.heap.size,3,none⟩) (iR)).trans kb3
  have tc4:wr.cell? ⟨w.heap.size,4,none⟩=some (.slice a4 l3 c4):=(hbq.cell (p:=⟨w.heap.size,4,none⟩) (iR)).trans kb4
  have tc5:wr.cell? ⟨w.heap.size,5,none⟩=some (.int .i64 x.sfn):=(hbq.cell (p:=⟨w.heap.size,5,none⟩) (iR)).trans kb5
  have tc6:wr.cell? ⟨w.heap.size,6,none⟩=some (.slice a6 l6 c6):=(hbq.cell (p:=⟨w.heap.size,6,none⟩) (iR)).trans kb6
  have tc7:wr.cell? ⟨w.heap.size,7,none⟩=some (.slice a7 l7 c7):=(hbq.cell (p:=⟨w.heap.size,7,none⟩) (iR)).trans kb7
  have jc0:wr.cell? ⟨w.heap.size+1,0,none⟩=some (.int .i64 (l2:Int)):=(hbq.cell (p:=⟨w.heap.size+1,0,none⟩) (iR)).trans jb0
  have jc1:wr.cell? ⟨w.heap.size+1,1,none⟩=some (.int .i64 (l3:Int)):=(hbq.cell (p:=⟨w.heap.size+1,1,none⟩) (iR)).trans jb1
  have jc2:wr.cell? ⟨w.heap.size+1,2,none⟩=some (.int .i64 k):=(hbq.cell (p:=⟨w.heap.size+1,2,none⟩) (iR)).trans jb2
  have jc3:wr.cell? ⟨w.heap.size+1,3,none⟩=some (.int .i64 z):=(hbq.cell (p:=⟨w.heap.size+1,3,none⟩) (iR)).trans jb3
  have jc4:wr.cell? ⟨w.heap.size+1,4,none⟩=some (.int .i64 p):=(hbq.cell (p:=⟨w.heap.size+1,4,none⟩) (iR)).trans jb4
  have jc5:wr.cell? ⟨w.heap.size+1,5,none⟩=some (.int .i64 l):=(hbq.cell (p:=⟨w.heap.size+1,5,none⟩) (iR)).trans jb5
  have jc6:wr.cell? ⟨w.heap.size+1,6,none⟩=some (.int .i64 e):=(hbq.cell (p:=⟨w.heap.size+1,6,none⟩) (iR)).trans jb6
  have jc7:wr.cell? ⟨w.heap.size+1,7,none⟩=some (.bool b):=(hbq.cell (p:=⟨w.heap.size+1,7,none⟩) (iR)).trans jb7
  have jc8:wr.cell? ⟨w.heap.size+1,8,none⟩=some (.int .i64 v):=(hbq.cell (p:=⟨w.heap.size+1,8,none⟩) (iR)).trans jb8
  have jc9:wr.cell? ⟨w.heap.size+1,9,none⟩=some (.int .i64 r):=(hbq.cell (p:=⟨w.heap.size+1,9,none⟩) (iR)).trans jb9
  have hz2:w.heap.size+1<wr.heap.size:=by have h9:=hbq.size;omega
  have hz1:w.heap.size<wr.heap.size:=by omega
  by_cases hlt:ix<l3
  ·obtain⟨hxl,_,hx⟩:=H3
   obtain⟨hxl4,_,hx4⟩:=H4
   obtain⟨g2,o2,rfl,_,hrr4⟩:=hx4.resolve_left (by omega)
   obtain⟨qb,hqk⟩:∃y,x.tsk[ix]? =some y:=⟨_,List.getElem?_eq_getElem (by omega)⟩
   obtain⟨y,hyk⟩:∃y,x.sn[ix]? =some y:=⟨_,List.getElem?_eq_getElem (by omega)⟩
   have t1:=(hrr4 ix _ hyk).below hbq
   have hg2:=t1.lt
   have hX:=ab (zip_at hqk hyk)
   obtain⟨qa1,ql1,qc1,qa2,ql2,qc2,⟨d0,d1,d2⟩,k1,k2⟩:=t1
   obtain⟨pb,hpb⟩:∃pb:Nat,Hid (pb=2 ^ (3+ix)):=⟨_,ab rfl⟩
   have hp32:pb<32:=by
    rw[aa hpb]
    have:ix=0∨ix=1:=by omega
    rcases this with rfl|rfl<;>decide
   have HD:Hid (decide (tn&&&pb=pb)=qb):=ab (by rw[aa hpb];exact aa HAT ix qb hqk)
   clear hx hyk hx4 hqk hrr4
   cases qb
   ·cases hB:bb y
    ·have HE:Hid ((x.tsk.zip x.sn).all (fN (l2:Int) (l3:Int) k z p l e v r)=false):=ab (all_ff (aa hX) hB)
     go_wp2_with (first
      |(go_at_call 159;refine(eU ix (by omega) pb hpb _).mono ?_;rintro e' w5 ⟨rfl,hw⟩;obtain rfl:=hw.symm;clear hw)
      |(go_at_call 158;refine(fA tn pb ht32 hp32 _).mono ?_;rw[aa HD];rintro e' w6 ⟨rfl,hw⟩;obtain rfl:=hw.symm;clear hw)
      |(go_at_call 160;refine(noth_any y qa1 ql1 qc1 qa2 ql2 qc2 _ k1.len.1 k2.len.1).mono ?_;rw[hB];rintro e' w7 ⟨rfl,hb7⟩;obtain⟨hc7,hf7,hs7⟩:=ac hb7))
     go_ret
     exact⟨ae (by rw[aa HV,aa HE];rfl),(aj)⟩
    ·have HE:Hid (((x.tsk.zip x.sn).take (ix+1)).all (fN (l2:Int) (l3:Int) k z p l e v r)=true):=ab (all_tt (aa hA) (aa hX) hB)
     go_wp2_with (first
      |(go_at_call 159;refine(eU ix (by omega) pb hpb _).mono ?_;rintro e' w5 ⟨rfl,hw⟩;obtain rfl:=hw.symm;clear hw)
      |(go_at_call 158;refine(fA tn pb ht32 hp32 _).mono ?_;rw[aa HD];rintro e' w6 ⟨rfl,hw⟩;obtain rfl:=hw.symm;clear hw)
      |(go_at_call 160;refine(noth_any y qa1 ql1 qc1 qa2 ql2 qc2 _ k1.len.1 k2.len.1).mono ?_;rw[hB];rintro e' w7 ⟨rfl,hb7⟩;obtain⟨hc7,hf7,hs7⟩:=ac hb7))
     go_roundw
     case rel=>exact⟨ix+1,by omega,by go_num,HE,(aj)⟩
     case measure=>simp[intOf];omega
   ·cases hB:bv (l2:Int) (l3:Int) k z p l e v r y
    ·have HE:Hid ((x.tsk.zip x.sn).all (fN (l2:Int) (l3:Int) k z p l e v r)=false):=ab (all_ff (aa hX) hB)
     go_wp2_with (first
      |(go_at_call 159;refine(eU ix (by omega) pb hpb _).mono ?_;rintro e' w5 ⟨rfl,hw⟩;obtain rfl:=hw.symm;clear hw)
      |(go_at_call 158;refine(fA tn pb ht32 hp32 _).mono ?_;rw[aa HD];rintro e' w6 ⟨rfl,hw⟩;obtain rfl:=hw.symm;clear hw)
      |(go_at_call 155;refine(fq (l2:Int) (l3:Int) k z p l e b v r y qa1 ql1 qc1 qa2 ql2 qc2 B _ (k1.below (aj)) (k2.below (aj))).mono ?_;rw[hB];rintro e' w7 ⟨rfl,hb7⟩;obtain⟨hc7,hf7,hs7⟩:=ac hb7))
     go_ret
     exact⟨ae (by rw[aa HV,aa HE];rfl),(aj)⟩
    ·have HE:Hid (((x.tsk.zip x.sn).take (ix+1)).all (fN (l2:Int) (l3:Int) k z p l e v r)=true):=ab (all_tt (aa hA) (aa hX) hB)
     go_wp2_with (first
      |(go_at_call 159;refine(eU ix (by omega) pb hpb _).mono ?_;rintro e' w5 ⟨rfl,hw⟩;obtain rfl:=hw.symm;clear hw)
      |(go_at_call 158;refine(fA tn pb ht32 hp32 _).mono ?_;rw[aa HD];rintro e' w6 ⟨rfl,hw⟩;obtain rfl:=hw.symm;clear hw)
      |(go_at_call 155;refine(fq (l2:Int) (l3:Int) k z p l e b v r y qa1 ql1 qc1 qa2 ql2 qc2 B _ (k1.below (aj)) (k2.below (aj))).mono ?_;rw[hB];rintro e' w7 ⟨rfl,hb7⟩;obtain⟨hc7,hf7,hs7⟩:=ac hb7))
     go_roundw
     case rel=>exact⟨ix+1,by omega,by go_num,HE,(aj)⟩
     case measure=>simp[intOf];omega
  ·have HE:Hid (cX (l2:Int) (l3:Int) k z p l e v r x=(x.op||decide (tn=0))):=ab (by rw[aa HV,bV (aa hA) (iT),aa HT];rfl)
   cases hop:x.op
   ·rw[hop]at HE tc1
    by_cases hz:tn=0
    ·have HE2:Hid (cX (l2:Int) (l3:Int) k z p l e v r x=true):=ab (by rw[aa HE,decide_eq_true hz];rfl)
     have hz9:((tn:Int)==0)=true:=by simp[hz]
     clear hz
     go_wp2
     go_ret
     exact⟨ae (aa HE2).symm,(aj)⟩
    ·have HE2:Hid (cX (l2:Int) (l3:Int) k z p l e v r x=false):=ab (by rw[aa HE,decide_eq_false hz];rfl)
     have hz9:((tn:Int)==0)=false:=beq_eq_false_iff_ne.2 (by omega)
     go_wp2
     go_ret
     exact⟨ae (aa HE2).symm,(aj)⟩
   ·rw[hop]at HE tc1
    have HE2:Hid (cX (l2:Int) (l3:Int) k z p l e v r x=true):=ab (by rw[aa HE];rfl)
    go_wp2
    go_ret
    exact⟨ae (aa HE2).symm,(aj)⟩
/-- What the program asks is what the specification asks. -/
def db(s t k z p l e v r:Int)(x:gP):Bool:=aD s t k z p l e v r&&cn s t k z p l e v r ⟨x.sfn,x.at_,x.ssn⟩&&cX s t k z p l e v r x&&aO x.n x.sfn 900&&(!x.op||decide (x.sfn<x.n))
theorem hU{s t k z p l e v r:Int}:∀(tk:List Bool) (sn:List cz),tk.length=sn.length→(tk.zip sn).all (dR s t k z p l e v r false)=((tk.zip sn).all (fN s t k z p l e v r)&&tk.all (!·))
 | [],[],_=>rfl
 |q :: tk,y :: sn,h=>by
  have ih:=hU (s:=s) (t:=t) (k:=k) (z:=z) (p:=p) (l:=l) (e:=e) (v:=v) (r:=r) tk sn (by simpa using h)
  simp only[List.zip_cons_cons,List.all_cons,ih]
  cases q
  ·show(bb y&&_)=((bb y&&_)&&(true&&_))
   cases bb y<;>simp
  ·show(false&&_)=((bv s t k z p l e v r y&&_)&&(false&&_))
   simp
 | [],_ :: _,h=>by simp at h
 |_ :: _,[],h=>by simp at h
theorem zip_all_t{s t k z p l e v r:Int}(l9:List (Bool×cz)):l9.all (dR s t k z p l e v r true)=l9.all (fN s t k z p l e v r):=by
 have e9:dR s t k z p l e v r true=fN s t k z p l e v r:=by
  funext q
  obtain⟨q1,y⟩:=q
  cases q1
  ·rfl
  ·show(true&&bv s t k z p l e v r y)=bv s t k z p l e v r y
   simp
 rw[e9]
theorem src_f:∀(l:List Int),l.all (cB false)=(l.all cy&&(l.map ez).all (!·))
 | []=>rfl
 |m :: r=>by
  simp only[List.all_cons,List.map_cons,src_f r]
  show((aO m (-1) 40&&(false||m== -1))&&_)=((aO m (-1) 40&&_)&&((!(!(m== -1)))&&_))
  cases aO m (-1) 40<;>cases (m== -1)<;>simp
theorem src_t(l:List Int):l.all (cB true)=l.all cy:=by
 have e9:cB true=cy:=by
  funext m
  show(aO m (-1) 40&&(true||m== -1))=aO m (-1) 40
  simp
 rw[e9]
theorem okCkI_eq(s t k z p l e v r:Int)(x:gP):db s t k z p l e v r x=bC s t k z p l e v r x:=by
 unfold db bC
 cases hj:aD s t k z p l e v r
 ·simp
 have hb:s≤3∧t≤2:=by unfold aD at hj;simp only[Bool.and_eq_true]at hj;exact⟨(aX.1 hj.1.1.1.1.1.1.1.1).2,(aX.1 hj.1.1.1.1.1.1.1.2).2⟩
 cases hi:aO x.n x.sfn 900
 ·simp
 have hq:(!x.op||decide (x.sfn<x.n))= !(x.op&&x.n==x.sfn):=by
  have h9:=(aX.1 hi).1
  cases x.op
  ·rfl
  ·by_cases he:x.n=x.sfn
   ·rw[decide_eq_false (by omega)];simp[he]
   ·rw[decide_eq_true (by omega)];simp[he]
 rw[hq]
 cases hn: !(x.op&&x.n==x.sfn)
 ·simp
 cases hc:cn s t k z p l e v r ⟨x.sfn,x.at_,x.ssn⟩
 ·simp
 unfold cX
 by_cases h1:(x.src.length:Int)=s
 rotate_left
 ·simp[h1]
 by_cases h2:(x.tsk.length:Int)=t
 rotate_left
 ·simp[h2]
 by_cases h3:(x.sn.length:Int)=t
 rotate_left
 ·simp[h3]
 rw[decide_eq_true h1,decide_eq_true h2,decide_eq_true h3]
 simp only[Bool.true_and,Bool.and_true]
 cases hop:x.op
 ·rw[src_f,hU x.tsk x.sn (by omega),told_zero (by omega) (by omega)]
  cases x.src.all cy<;>cases (x.tsk.zip x.sn).all (fN s t k z p l e v r)<;>cases (x.src.map ez).all (!·)<;>cases x.tsk.all (!·)<;>rfl
 ·rw[src_t,zip_all_t]
  simp
set_option maxRecDepth 20000 in
set_option maxHeartbeats 4000000 in
theorem gG(s t k z p l e:Int)(b:Bool)(v r:Int)(x:gP)(a2:Option Addr)(l2 c2:Nat)(a3:Option Addr)(l3 c3:Nat)(a4:Option Addr)(l4 c4:Nat)(a6:Option Addr)(l6 c6:Nat)(a7:Option Addr)(l7 c7:Nat)(B:Nat)(w:World)(h:gC w B a2 l2 a3 l3 a4 l4 a6 l6 a7 l7 x):Calls Tryz.prog 50 #[.agg #[.int .i64 s,.int .i64 t,.int .i64 k,.int .i64 z,.int .i64 p,.int .i64 l,.int .i64 e,.bool b,.int .i64 v,.int .i64 r],.agg #[.int .i64 x.n,.bool x.op,.slice a2 l2 c2,.slice a3 l3 c3,.slice a4 l4 c4,.int .i64 x.sfn,.slice a6 l6 c6,.slice a7 l7 c7]] w fun e' w'=>e'= .returned (.bool (bC s t k z p l e v r x))∧Below w.heap.size w w':=by
 rw[←okCkI_eq]
 cases hj:aD s t k z p l e v r
 ·skip
  have HE:Hid (db s t k z p l e v r x=false):=ab (by unfold db;rw[hj];rfl)
  go_enter Tryz.func50,Tryz.ntmps50
  go_wp2_with (first
    |(go_at_call 99;refine(aW _ _ _ _ _ _ _ _ _ _ _).mono ?_;rw[hj];rintro e' y1 ⟨rfl,hb1⟩;obtain⟨hc1,hf1,hs1⟩:=ac hb1;have hz10:w.heap.size<y1.heap.size:=(by have h9:=hb1.size;(try simp at h9);omega);have hz11:w.heap.size+1<y1.heap.size:=(by have h9:=hb1.size;(try simp at h9);omega)))
  go_ret
  exact⟨ae (aa HE).symm,(aj)⟩
 obtain⟨hs3,ht2⟩:s≤3∧t≤2:=by have h9:=hj;unfold aD at h9;simp only[Bool.and_eq_true]at h9;exact⟨(aX.1 h9.1.1.1.1.1.1.1.1).2,(aX.1 h9.1.1.1.1.1.1.1.2).2⟩
 cases hc:cn s t k z p l e v r ⟨x.sfn,x.at_,x.ssn⟩
 ·skip
  have HE:Hid (db s t k z p l e v r x=false):=ab (by unfold db;rw[hj,hc];rfl)
  go_enter Tryz.func50,Tryz.ntmps50
  go_wp2_with (first
    |(go_at_call 99;refine(aW _ _ _ _ _ _ _ _ _ _ _).mono ?_;rw[hj];rintro e' y1 ⟨rfl,hb1⟩;obtain⟨hc1,hf1,hs1⟩:=ac hb1;have hz10:w.heap.size<y1.heap.size:=(by have h9:=hb1.size;(try simp at h9);omega);have hz11:w.heap.size+1<y1.heap.size:=(by have h9:=hb1.size;(try simp at h9);omega))
    |(go_at_call 100;refine(cN s t k z p l e b v r ⟨x.sfn,x.at_,x.ssn⟩ a6 l6 c6 a7 l7 c7 B _ (h.at_.below (aj)) (h.ssn.below (aj))).mono ?_;rw[hc];rintro e' y2 ⟨rfl,hb2⟩;obtain⟨hc2,hf2,hs2⟩:=ac hb2;have hz20:w.heap.size<y2.heap.size:=(by have h9:=hb2.size;(try simp at h9);omega);have hz21:w.heap.size+1<y2.heap.size:=(by have h9:=hb2.size;(try simp at h9);omega)))
  go_ret
  exact⟨ae (aa HE).symm,(aj)⟩
 cases hu:cX s t k z p l e v r x
 ·skip
  have HE:Hid (db s t k z p l e v r x=false):=ab (by unfold db;rw[hj,hc,hu];rfl)
  go_enter Tryz.func50,Tryz.ntmps50
  go_wp2_with (first
    |(go_at_call 99;refine(aW _ _ _ _ _ _ _ _ _ _ _).mono ?_;rw[hj];rintro e' y1 ⟨rfl,hb1⟩;obtain⟨hc1,hf1,hs1⟩:=ac hb1;have hz10:w.heap.size<y1.heap.size:=(by have h9:=hb1.size;(try simp at h9);omega);have hz11:w.heap.size+1<y1.heap.size:=(by have h9:=hb1.size;(try simp at h9);omega))
    |(go_at_call 100;refine(cN s t k z p l e b v r ⟨x.sfn,x.at_,x.ssn⟩ a6 l6 c6 a7 l7 c7 B _ (h.at_.below (aj)) (h.ssn.below (aj))).mono ?_;rw[hc];rintro e' y2 ⟨rfl,hb2⟩;obtain⟨hc2,hf2,hs2⟩:=ac hb2;have hz20:w.heap.size<y2.heap.size:=(by have h9:=hb2.size;(try simp at h9);omega);have hz21:w.heap.size+1<y2.heap.size:=(by have h9:=hb2.size;(try simp at h9);omega))
    |(go_at_call 101;refine(dy s t k z p l e b v r x a2 l2 c2 a3 l3 c3 a4 l4 c4 a6 l6 c6 a7 l7 c7 B _ (h.below (aj)) hs3 ht2).mono ?_;rw[hu];rintro e' y3 ⟨rfl,hb3⟩;obtain⟨hc3,hf3,hs3'⟩:=ac hb3;have hz30:w.heap.size<y3.heap.size:=(by have h9:=hb3.size;(try simp at h9);omega);have hz31:w.heap.size+1<y3.heap.size:=(by have h9:=hb3.size;(try simp at h9);omega)))
  go_ret
  exact⟨ae (aa HE).symm,(aj)⟩
 cases hi:aO x.n x.sfn 900
 ·skip
  have HE:Hid (db s t k z p l e v r x=false):=ab (by unfold db;rw[hj,hc,hu,hi];rfl)
  go_enter Tryz.func50,Tryz.ntmps50
  go_wp2_with (first
    |(go_at_call 99;refine(aW _ _ _ _ _ _ _ _ _ _ _).mono ?_;rw[hj];rintro e' y1 ⟨rfl,hb1⟩;obtain⟨hc1,hf1,hs1⟩:=ac hb1;have hz10:w.heap.size<y1.heap.size:=(by have h9:=hb1.size;(try simp at h9);omega);have hz11:w.heap.size+1<y1.heap.size:=(by have h9:=hb1.size;(try simp at h9);omega))
    |(go_at_call 100;refine(cN s t k z p l e b v r ⟨x.sfn,x.at_,x.ssn⟩ a6 l6 c6 a7 l7 c7 B _ (h.at_.below (aj)) (h.ssn.below (aj))).mono ?_;rw[hc];rintro e' y2 ⟨rfl,hb2⟩;obtain⟨hc2,hf2,hs2⟩:=ac hb2;have hz20:w.heap.size<y2.heap.size:=(by have h9:=hb2.size;(try simp at h9);omega);have hz21:w.heap.size+1<y2.heap.size:=(by have h9:=hb2.size;(try simp at h9);omega))
    |(go_at_call 101;refine(dy s t k z p l e b v r x a2 l2 c2 a3 l3 c3 a4 l4 c4 a6 l6 c6 a7 l7 c7 B _ (h.below (aj)) hs3 ht2).mono ?_;rw[hu];rintro e' y3 ⟨rfl,hb3⟩;obtain⟨hc3,hf3,hs3'⟩:=ac hb3;have hz30:w.heap.size<y3.heap.size:=(by have h9:=hb3.size;(try simp at h9);omega);have hz31:w.heap.size+1<y3.heap.size:=(by have h9:=hb3.size;(try simp at h9);omega))
    |(go_at_call 102;refine(ah _ _ _ _).mono ?_;rw[hi];rintro e' w5 ⟨rfl,hw⟩;obtain rfl:=hw.symm;clear hw))
  go_ret
  exact⟨ae (aa HE).symm,(aj)⟩
 obtain⟨xn,xop,xsrc,xtsk,xsn,xsfn,xat,xssn⟩:=x
 dsimp only at*
 cases xop
 ·skip
  have HE:Hid (db s t k z p l e v r ⟨xn,false,xsrc,xtsk,xsn,xsfn,xat,xssn⟩=true):=ab (by unfold db;dsimp only;rw[hj,hc,hu,hi];rfl)
  go_enter Tryz.func50,Tryz.ntmps50
  go_wp2_with (first
    |(go_at_call 99;refine(aW _ _ _ _ _ _ _ _ _ _ _).mono ?_;rw[hj];rintro e' y1 ⟨rfl,hb1⟩;obtain⟨hc1,hf1,hs1⟩:=ac hb1;have hz10:w.heap.size<y1.heap.size:=(by have h9:=hb1.size;(try simp at h9);omega);have hz11:w.heap.size+1<y1.heap.size:=(by have h9:=hb1.size;(try simp at h9);omega))
    |(go_at_call 100;refine(cN s t k z p l e b v r ⟨xsfn,xat,xssn⟩ a6 l6 c6 a7 l7 c7 B _ (h.at_.below (aj)) (h.ssn.below (aj))).mono ?_;rw[hc];rintro e' y2 ⟨rfl,hb2⟩;obtain⟨hc2,hf2,hs2⟩:=ac hb2;have hz20:w.heap.size<y2.heap.size:=(by have h9:=hb2.size;(try simp at h9);omega);have hz21:w.heap.size+1<y2.heap.size:=(by have h9:=hb2.size;(try simp at h9);omega))
    |(go_at_call 101;refine(dy s t k z p l e b v r ⟨xn,false,xsrc,xtsk,xsn,xsfn,xat,xssn⟩ a2 l2 c2 a3 l3 c3 a4 l4 c4 a6 l6 c6 a7 l7 c7 B _ (h.below (aj)) hs3 ht2).mono ?_;rw[hu];rintro e' y3 ⟨rfl,hb3⟩;obtain⟨hc3,hf3,hs3'⟩:=ac hb3;have hz30:w.heap.size<y3.heap.size:=(by have h9:=hb3.size;(try simp at h9);omega);have hz31:w.heap.size+1<y3.heap.size:=(by have h9:=hb3.size;(try simp at h9);omega))
    |(go_at_call 102;refine(ah _ _ _ _).mono ?_;rw[hi];rintro e' w5 ⟨rfl,hw⟩;obtain rfl:=hw.symm;clear hw))
  go_ret
  exact⟨ae (aa HE).symm,(aj)⟩
 ·by_cases hg:xsfn<xn
  ·skip
   have HE:Hid (db s t k z p l e v r ⟨xn,true,xsrc,xtsk,xsn,xsfn,xat,xssn⟩=true):=ab (by unfold db;dsimp only;rw[hj,hc,hu,hi,decide_eq_true hg];rfl)
   go_enter Tryz.func50,Tryz.ntmps50
   go_wp2_with (first
     |(go_at_call 99;refine(aW _ _ _ _ _ _ _ _ _ _ _).mono ?_;rw[hj];rintro e' y1 ⟨rfl,hb1⟩;obtain⟨hc1,hf1,hs1⟩:=ac hb1;have hz10:w.heap.size<y1.heap.size:=(by have h9:=hb1.size;(try simp at h9);omega);have hz11:w.heap.size+1<y1.heap.size:=(by have h9:=hb1.size;(try simp at h9);omega))
     |(go_at_call 100;refine(cN s t k z p l e b v r ⟨xsfn,xat,xssn⟩ a6 l6 c6 a7 l7 c7 B _ (h.at_.below (aj)) (h.ssn.below (aj))).mono ?_;rw[hc];rintro e' y2 ⟨rfl,hb2⟩;obtain⟨hc2,hf2,hs2⟩:=ac hb2;have hz20:w.heap.size<y2.heap.size:=(by have h9:=hb2.size;(try simp at h9);omega);have hz21:w.heap.size+1<y2.heap.size:=(by have h9:=hb2.size;(try simp at h9);omega))
     |(go_at_call 101;refine(dy s t k z p l e b v r ⟨xn,true,xsrc,xtsk,xsn,xsfn,xat,xssn⟩ a2 l2 c2 a3 l3 c3 a4 l4 c4 a6 l6 c6 a7 l7 c7 B _ (h.below (aj)) hs3 ht2).mono ?_;rw[hu];rintro e' y3 ⟨rfl,hb3⟩;obtain⟨hc3,hf3,hs3'⟩:=ac hb3;have hz30:w.heap.size<y3.heap.size:=(by have h9:=hb3.size;(try simp at h9);omega);have hz31:w.heap.size+1<y3.heap.size:=(by have h9:=hb3.size;(try simp at h9);omega))
     |(go_at_call 102;refine(ah _ _ _ _).mono ?_;rw[hi];rintro e' w5 ⟨rfl,hw⟩;obtain rfl:=hw.symm;clear hw))
   go_ret
   exact⟨ae (aa HE).symm,(aj)⟩
  ·have hg':decide (xsfn<xn)=false:=decide_eq_false hg
   have HE:Hid (db s t k z p l e v r ⟨xn,true,xsrc,xtsk,xsn,xsfn,xat,xssn⟩=false):=ab (by unfold db;dsimp only;rw[hj,hc,hu,hi,hg'];rfl)
   go_enter Tryz.func50,Tryz.ntmps50
   go_wp2_with (first
     |(go_at_call 99;refine(aW _ _ _ _ _ _ _ _ _ _ _).mono ?_;rw[hj];rintro e' y1 ⟨rfl,hb1⟩;obtain⟨hc1,hf1,hs1⟩:=ac hb1;have hz10:w.heap.size<y1.heap.size:=(by have h9:=hb1.size;(try simp at h9);omega);have hz11:w.heap.size+1<y1.heap.size:=(by have h9:=hb1.size;(try simp at h9);omega))
     |(go_at_call 100;refine(cN s t k z p l e b v r ⟨xsfn,xat,xssn⟩ a6 l6 c6 a7 l7 c7 B _ (h.at_.below (aj)) (h.ssn.below (aj))).mono ?_;rw[hc];rintro e' y2 ⟨rfl,hb2⟩;obtain⟨hc2,hf2,hs2⟩:=ac hb2;have hz20:w.heap.size<y2.heap.size:=(by have h9:=hb2.size;(try simp at h9);omega);have hz21:w.heap.size+1<y2.heap.size:=(by have h9:=hb2.size;(try simp at h9);omega))
     |(go_at_call 101;refine(dy s t k z p l e b v r ⟨xn,true,xsrc,xtsk,xsn,xsfn,xat,xssn⟩ a2 l2 c2 a3 l3 c3 a4 l4 c4 a6 l6 c6 a7 l7 c7 B _ (h.below (aj)) hs3 ht2).mono ?_;rw[hu];rintro e' y3 ⟨rfl,hb3⟩;obtain⟨hc3,hf3,hs3'⟩:=ac hb3;have hz30:w.heap.size<y3.heap.size:=(by have h9:=hb3.size;(try simp at h9);omega);have hz31:w.heap.size+1<y3.heap.size:=(by have h9:=hb3.size;(try simp at h9);omega))
     |(go_at_call 102;refine(ah _ _ _ _).mono ?_;rw[hi];rintro e' w5 ⟨rfl,hw⟩;obtain rfl:=hw.symm;clear hw))
   go_ret
   exact⟨ae (aa HE).symm,(aj)⟩
set_option linter.unusedSimpArgs false
set_option maxRecDepth 20000 in
set_option maxHeartbeats 4000000 in
theorem dI(a:Option Addr)(len cap:Nat)(xs:List co)(B:Nat)(w:World)(h:eN w B a len xs):Calls Tryz.prog 168 #[.slice a len cap,.func (.func 167) #[] #[]] w fun e' w'=>e'= .returned (.bool (xs.all co.okB))∧Below w.heap.size w w':=by
 have hm:=h.2.1
 unfold maxLen at hm
 go_enter Tryz.func168,Tryz.ntmps168
 go_wp2
 go_loopw [9] (fun i wr=>∃ix:Nat,ix≤len∧i= .int .i64 ix∧Hid ((xs.take ix).all co.okB=true)∧Below w.heap.size w wr) (fun i _=>len - (intOf i).toNat)
 case atStart=>exact⟨0,Nat.zero_le _,rfl,ab (by simp),Below.refl _ _⟩
 case round=>
  obtain⟨ix,hk,rfl,hA,hbw⟩:=hrel
  by_cases hlt:ix<len
  ·obtain⟨hxl,_,hx⟩:=h
   obtain⟨g,o,rfl,_,hr⟩:=hx.resolve_left (by omega)
   obtain⟨x,hxk⟩:∃x,xs[ix]? =some x:=⟨_,List.getElem?_eq_getElem (by omega)⟩
   have hX:=ab hxk
   obtain⟨a1,l1,c1,a2,l2,c2,⟨d0,d1,d2⟩,k1,k2⟩:=(hr ix _ hxk).below hbw
   have hfold:bf x.n x.ps x.ls=x.okB:=rfl
   clear hx hxk hr
   cases hB:co.okB x
   ·have HE:Hid (xs.all co.okB=false):=ab (all_ff (aa hX) hB)
    go_wp2_with (go_at_call 167;refine(eT x.n a1 l1 c1 a2 l2 c2 x.ps x.ls _ (k1.1.below (aj)) (k2.1.below (aj))).mono ?_;rw[hfold,hB];rintro e' wf ⟨rfl,hbf⟩)
    go_ret
    exact⟨ae (aa HE).symm,(aj)⟩
   ·have HE:Hid ((xs.take (ix+1)).all co.okB=true):=ab (all_tt (aa hA) (aa hX) hB)
    go_wp2_with (go_at_call 167;refine(eT x.n a1 l1 c1 a2 l2 c2 x.ps x.ls _ (k1.1.below (aj)) (k2.1.below (aj))).mono ?_;rw[hfold,hB];rintro e' wf ⟨rfl,hbf⟩)
    go_roundw
    case rel=>exact⟨ix+1,by omega,by go_num,HE,(aj)⟩
    case measure=>simp[intOf];omega
  ·have HE:Hid (xs.all co.okB=true):=ab (bV (aa hA) (by have:=h.1;omega))
   go_wp2
   go_ret
   exact⟨ae (aa HE).symm,hbw⟩
set_option maxRecDepth 20000 in
set_option maxHeartbeats 4000000 in
theorem cO(x:bE)(a0:Option Addr)(l0 c0:Nat)(a2:Option Addr)(l2 c2:Nat)(a3:Option Addr)(l3 c3:Nat)(B:Nat)(w:World)(h:eN w B a0 l0 x.rd):Calls Tryz.prog 169 #[.agg #[.slice a0 l0 c0,.int .i64 x.n,.slice a2 l2 c2,.slice a3 l3 c3]] w fun e' w'=>e'= .returned (.bool (bp x.n x.rd))∧Below w.heap.size w w':=by
 have hm:=h.2.1
 unfold maxLen at hm
 have HH:=ab (h.below (ai w (.cells #[.slice a0 l0 c0,.int .i64 x.n,.slice a2 l2 c2,.slice a3 l3 c3] 90)))
 have HB0:=ab (ai w (.cells #[.slice a0 l0 c0,.int .i64 x.n,.slice a2 l2 c2,.slice a3 l3 c3] 90))
 have hxl:=h.1
 clear h
 go_enter Tryz.func169,Tryz.ntmps169
 go_wp2
 generalize hw0:w.alloc (.cells #[.slice a0 l0 c0,.int .i64 x.n,.slice a2 l2 c2,.slice a3 l3 c3] 90)=w0 at HH HB0 ⊢
 clear hw0
 go_loopw [3,11] (fun la i wr=>∃ix:Nat,ix≤l0∧i= .int .i64 ix∧la= .int .i64 (dw x.n (x.rd.take ix))∧Hid (bp x.n (x.rd.take ix)=true)∧Below w0.heap.size w0 wr) (fun _ i _=>l0 - (intOf i).toNat)
 case atStart=>exact⟨0,Nat.zero_le _,rfl,rfl,ab rfl,Below.refl _ _⟩
 case round=>
  obtain⟨ix,hk,rfl,rfl,hA,hbw⟩:=hrel
  by_cases hlt:ix<l0
  ·obtain⟨_,_,hx⟩:=aa HH
   obtain⟨g,o,rfl,_,hr⟩:=hx.resolve_left (by omega)
   obtain⟨y,hy⟩:∃y,x.rd[ix]? =some y:=⟨_,List.getElem?_eq_getElem (by omega)⟩
   have hX:=ab hy
   obtain⟨a1,l1,c1,b2,m2,n2,⟨d0,d1,d2⟩,k1,k2⟩:=(hr ix _ hy).below hbw
   clear hx hy hr
   by_cases hB:dw x.n (x.rd.take ix)<y.n
   ·have HE:=ab (fJ (aa hA) (aa hX) hB)
    have HL:=ab (hG (n:=x.n) (aa hX))
    have hd:decide (y.n≤dw x.n (x.rd.take ix))=false:=decide_eq_false (by omega)
    generalize dw x.n (x.rd.take ix)=la at hB hd ⊢
    go_wp2
    go_roundw
    case rel=>exact⟨ix+1,by omega,by go_num,by rw[aa HL],HE,ad hbw (aj)⟩
    case measure=>simp[intOf];omega
   ·have HE:=ab (gw (aa hX) hB)
    have hd:decide (y.n≤dw x.n (x.rd.take ix))=true:=decide_eq_true (by omega)
    generalize dw x.n (x.rd.take ix)=la at hB hd ⊢
    go_wp2
    go_ret
    exact⟨ae (aa HE).symm,ad (aa HB0) (ad hbw (aj))⟩
  ·have HE:Hid (bp x.n x.rd=true):=ab (by have h9:=aa hA;rwa [List.take_of_length_le (by omega)]at h9)
   go_wp2
   go_ret
   exact⟨ae (aa HE).symm,ad (aa HB0) hbw⟩
set_option maxRecDepth 20000 in
set_option maxHeartbeats 8000000 in
theorem gz(x:bE)(a0:Option Addr)(l0 c0:Nat)(a2:Option Addr)(l2 c2:Nat)(a3:Option Addr)(l3 c3:Nat)(B:Nat)(w:World)(h0:eN w B a0 l0 x.rd)(h2:cG w B a2 l2 x.ps)(h3:cJ w B a3 l3 x.ls):Calls Tryz.prog 109 #[.agg #[.slice a0 l0 c0,.int .i64 x.n,.slice a2 l2 c2,.slice a3 l3 c3]] w fun e' w'=>e'= .returned (.bool x.okB)∧Below w.heap.size w w':=by
 have hm0:=h0.len
 have hm2:=h2.len
 have hm3:=h3.len
 unfold maxLen at hm0 hm2 hm3
 cases q0:decide (x.rd.length≤12)
 ·have HE:Hid (x.okB=false):=ab (by unfold bE.okB;simp only[q0,Bool.and_false,Bool.false_and])
  have d0:¬ (l0:Int)≤12:=by have:=of_decide_eq_false q0;omega
  have D0:decide ((l0:Int)≤12)=false:=decide_eq_false d0
  clear d0
  go_enter Tryz.func109,Tryz.ntmps109
  go_wp2
  go_ret
  exact⟨ae (aa HE).symm,(aj)⟩
 have D0:decide ((l0:Int)≤12)=true:=decide_eq_true (by have:=of_decide_eq_true q0;omega)
 cases q1:x.rd.all co.okB
 ·have HE:Hid (x.okB=false):=ab (by unfold bE.okB;simp only[q1,Bool.and_false,Bool.false_and])
  go_enter Tryz.func109,Tryz.ntmps109
  go_wp2_with (first
   |(go_at_call 168;refine(dI a0 l0 c0 x.rd B _ (h0.below (aj))).mono ?_;rw[q1];rintro e' y1 ⟨rfl,hb1⟩;obtain⟨hc1,hf1,hs1⟩:=ac hb1;have hz1:w.heap.size<y1.heap.size:=(by have h9:=hb1.size;(try simp at h9);omega)))
  go_ret
  exact⟨ae (aa HE).symm,(aj)⟩
 cases q2:bp x.n x.rd
 ·have HE:Hid (x.okB=false):=ab (by unfold bE.okB;simp only[q2,Bool.and_false,Bool.false_and])
  go_enter Tryz.func109,Tryz.ntmps109
  go_wp2_with (first
   |(go_at_call 168;refine(dI a0 l0 c0 x.rd B _ (h0.below (aj))).mono ?_;rw[q1];rintro e' y1 ⟨rfl,hb1⟩;obtain⟨hc1,hf1,hs1⟩:=ac hb1;have hz1:w.heap.size<y1.heap.size:=(by have h9:=hb1.size;(try simp at h9);omega))
   |(go_at_call 169;refine(cO x a0 l0 c0 a2 l2 c2 a3 l3 c3 B _ (h0.below (aj))).mono ?_;rw[q2];rintro e' y2 ⟨rfl,hb2⟩;obtain⟨hc2,hf2,hs2⟩:=ac hb2;have hz2:w.heap.size<y2.heap.size:=(by have h9:=hb2.size;(try simp at h9);omega)))
  go_ret
  exact⟨ae (aa HE).symm,(aj)⟩
 cases q3:aO x.n 0 900
 ·have HE:Hid (x.okB=false):=ab (by unfold bE.okB;simp only[q3,Bool.and_false,Bool.false_and])
  go_enter Tryz.func109,Tryz.ntmps109
  go_wp2_with (first
   |(go_at_call 168;refine(dI a0 l0 c0 x.rd B _ (h0.below (aj))).mono ?_;rw[q1];rintro e' y1 ⟨rfl,hb1⟩;obtain⟨hc1,hf1,hs1⟩:=ac hb1;have hz1:w.heap.size<y1.heap.size:=(by have h9:=hb1.size;(try simp at h9);omega))
   |(go_at_call 169;refine(cO x a0 l0 c0 a2 l2 c2 a3 l3 c3 B _ (h0.below (aj))).mono ?_;rw[q2];rintro e' y2 ⟨rfl,hb2⟩;obtain⟨hc2,hf2,hs2⟩:=ac hb2;have hz2:w.heap.size<y2.heap.size:=(by have h9:=hb2.size;(try simp at h9);omega))
   |(go_at_call 102;refine(ah _ _ _ _).mono ?_;rw[q3];rintro e' w5 ⟨rfl,hw⟩;obtain rfl:=hw.symm;clear hw))
  go_ret
  exact⟨ae (aa HE).symm,(aj)⟩
 cases q4:decide (x.ps.length≤1500)
 ·have HE:Hid (x.okB=false):=ab (by unfold bE.okB;simp only[q4,Bool.and_false,Bool.false_and])
  have d4:¬ (l2:Int)≤1500:=by have:=of_decide_eq_false q4;omega
  have D4:decide ((l2:Int)≤1500)=false:=decide_eq_false d4
  clear d4
  go_enter Tryz.func109,Tryz.ntmps109
  go_wp2_with (first
   |(go_at_call 168;refine(dI a0 l0 c0 x.rd B _ (h0.below (aj))).mono ?_;rw[q1];rintro e' y1 ⟨rfl,hb1⟩;obtain⟨hc1,hf1,hs1⟩:=ac hb1;have hz1:w.heap.size<y1.heap.size:=(by have h9:=hb1.size;(try simp at h9);omega))
   |(go_at_call 169;refine(cO x a0 l0 c0 a2 l2 c2 a3 l3 c3 B _ (h0.below (aj))).mono ?_;rw[q2];rintro e' y2 ⟨rfl,hb2⟩;obtain⟨hc2,hf2,hs2⟩:=ac hb2;have hz2:w.heap.size<y2.heap.size:=(by have h9:=hb2.size;(try simp at h9);omega))
   |(go_at_call 102;refine(ah _ _ _ _).mono ?_;rw[q3];rintro e' w5 ⟨rfl,hw⟩;obtain rfl:=hw.symm;clear hw))
  go_ret
  exact⟨ae (aa HE).symm,(aj)⟩
 have D4:decide ((l2:Int)≤1500)=true:=decide_eq_true (by have:=of_decide_eq_true q4;omega)
 cases q5:decide (x.ls.length≤1500)
 ·have HE:Hid (x.okB=false):=ab (by unfold bE.okB;simp only[q5,Bool.and_false,Bool.false_and])
  have d5:¬ (l3:Int)≤1500:=by have:=of_decide_eq_false q5;omega
  have D5:decide ((l3:Int)≤1500)=false:=decide_eq_false d5
  clear d5
  go_enter Tryz.func109,Tryz.ntmps109
  go_wp2_with (first
   |(go_at_call 168;refine(dI a0 l0 c0 x.rd B _ (h0.below (aj))).mono ?_;rw[q1];rintro e' y1 ⟨rfl,hb1⟩;obtain⟨hc1,hf1,hs1⟩:=ac hb1;have hz1:w.heap.size<y1.heap.size:=(by have h9:=hb1.size;(try simp at h9);omega))
   |(go_at_call 169;refine(cO x a0 l0 c0 a2 l2 c2 a3 l3 c3 B _ (h0.below (aj))).mono ?_;rw[q2];rintro e' y2 ⟨rfl,hb2⟩;obtain⟨hc2,hf2,hs2⟩:=ac hb2;have hz2:w.heap.size<y2.heap.size:=(by have h9:=hb2.size;(try simp at h9);omega))
   |(go_at_call 102;refine(ah _ _ _ _).mono ?_;rw[q3];rintro e' w5 ⟨rfl,hw⟩;obtain rfl:=hw.symm;clear hw))
  go_ret
  exact⟨ae (aa HE).symm,(aj)⟩
 have D5:decide ((l3:Int)≤1500)=true:=decide_eq_true (by have:=of_decide_eq_true q5;omega)
 cases q6:x.ps.all cl.okB
 ·have HE:Hid (x.okB=false):=ab (by unfold bE.okB;simp only[q6,Bool.and_false,Bool.false_and])
  go_enter Tryz.func109,Tryz.ntmps109
  go_wp2_with (first
   |(go_at_call 168;refine(dI a0 l0 c0 x.rd B _ (h0.below (aj))).mono ?_;rw[q1];rintro e' y1 ⟨rfl,hb1⟩;obtain⟨hc1,hf1,hs1⟩:=ac hb1;have hz1:w.heap.size<y1.heap.size:=(by have h9:=hb1.size;(try simp at h9);omega))
   |(go_at_call 169;refine(cO x a0 l0 c0 a2 l2 c2 a3 l3 c3 B _ (h0.below (aj))).mono ?_;rw[q2];rintro e' y2 ⟨rfl,hb2⟩;obtain⟨hc2,hf2,hs2⟩:=ac hb2;have hz2:w.heap.size<y2.heap.size:=(by have h9:=hb2.size;(try simp at h9);omega))
   |(go_at_call 102;refine(ah _ _ _ _).mono ?_;rw[q3];rintro e' w5 ⟨rfl,hw⟩;obtain rfl:=hw.symm;clear hw)
   |(go_at_call 170;refine(bq a2 l2 c2 x.ps _ (h2.1.below (aj))).mono ?_;rw[q6];rintro e' y6 ⟨rfl,hb6⟩;obtain⟨hc6,hf6,hs6⟩:=ac hb6;have hz6:w.heap.size<y6.heap.size:=(by have h9:=hb6.size;(try simp at h9);omega)))
  go_ret
  exact⟨ae (aa HE).symm,(aj)⟩
 cases q7:x.ls.all ch.okB
 ·have HE:Hid (x.okB=false):=ab (by unfold bE.okB;simp only[q7,Bool.and_false,Bool.false_and])
  go_enter Tryz.func109,Tryz.ntmps109
  go_wp2_with (first
   |(go_at_call 168;refine(dI a0 l0 c0 x.rd B _ (h0.below (aj))).mono ?_;rw[q1];rintro e' y1 ⟨rfl,hb1⟩;obtain⟨hc1,hf1,hs1⟩:=ac hb1;have hz1:w.heap.size<y1.heap.size:=(by have h9:=hb1.size;(try simp at h9);omega))
   |(go_at_call 169;refine(cO x a0 l0 c0 a2 l2 c2 a3 l3 c3 B _ (h0.below (aj))).mono ?_;rw[q2];rintro e' y2 ⟨rfl,hb2⟩;obtain⟨hc2,hf2,hs2⟩:=ac hb2;have hz2:w.heap.size<y2.heap.size:=(by have h9:=hb2.size;(try simp at h9);omega))
   |(go_at_call 102;refine(ah _ _ _ _).mono ?_;rw[q3];rintro e' w5 ⟨rfl,hw⟩;obtain rfl:=hw.symm;clear hw)
   |(go_at_call 170;refine(bq a2 l2 c2 x.ps _ (h2.1.below (aj))).mono ?_;rw[q6];rintro e' y6 ⟨rfl,hb6⟩;obtain⟨hc6,hf6,hs6⟩:=ac hb6;have hz6:w.heap.size<y6.heap.size:=(by have h9:=hb6.size;(try simp at h9);omega))
   |(go_at_call 172;refine(bH a3 l3 c3 x.ls _ (h3.1.below (aj))).mono ?_;rw[q7];rintro e' y7 ⟨rfl,hb7⟩;obtain⟨hc7,hf7,hs7⟩:=ac hb7;have hz7:w.heap.size<y7.heap.size:=(by have h9:=hb7.size;(try simp at h9);omega)))
  go_ret
  exact⟨ae (aa HE).symm,(aj)⟩
 have HE:Hid (x.okB=true):=ab (by unfold bE.okB;simp only[q0,q1,q2,q3,q4,q5,q6,q7,Bool.and_true])
 go_enter Tryz.func109,Tryz.ntmps109
 go_wp2_with (first
   |(go_at_call 168;refine(dI a0 l0 c0 x.rd B _ (h0.below (aj))).mono ?_;rw[q1];rintro e' y1 ⟨rfl,hb1⟩;obtain⟨hc1,hf1,hs1⟩:=ac hb1;have hz1:w.heap.size<y1.heap.size:=(by have h9:=hb1.size;(try simp at h9);omega))
   |(go_at_call 169;refine(cO x a0 l0 c0 a2 l2 c2 a3 l3 c3 B _ (h0.below (aj))).mono ?_;rw[q2];rintro e' y2 ⟨rfl,hb2⟩;obtain⟨hc2,hf2,hs2⟩:=ac hb2;have hz2:w.heap.size<y2.heap.size:=(by have h9:=hb2.size;(try simp at h9);omega))
   |(go_at_call 102;refine(ah _ _ _ _).mono ?_;rw[q3];rintro e' w5 ⟨rfl,hw⟩;obtain rfl:=hw.symm;clear hw)
   |(go_at_call 170;refine(bq a2 l2 c2 x.ps _ (h2.1.below (aj))).mono ?_;rw[q6];rintro e' y6 ⟨rfl,hb6⟩;obtain⟨hc6,hf6,hs6⟩:=ac hb6;have hz6:w.heap.size<y6.heap.size:=(by have h9:=hb6.size;(try simp at h9);omega))
   |(go_at_call 172;refine(bH a3 l3 c3 x.ls _ (h3.1.below (aj))).mono ?_;rw[q7];rintro e' y7 ⟨rfl,hb7⟩;obtain⟨hc7,hf7,hs7⟩:=ac hb7;have hz7:w.heap.size<y7.heap.size:=(by have h9:=hb7.size;(try simp at h9);omega)))
 go_ret
 exact⟨ae (aa HE).symm,(aj)⟩
set_option maxRecDepth 20000 in
set_option maxHeartbeats 4000000 in
theorem everySk(a:Option Addr)(len cap:Nat)(xs:List bE)(B:Nat)(w:World)(h:eO w B a len xs):Calls Tryz.prog 108 #[.slice a len cap,.func (.func 109) #[] #[]] w fun e' w'=>e'= .returned (.bool (xs.all bE.okB))∧Below w.heap.size w w':=by
 have hm:=h.2.1
 unfold maxLen at hm
 go_enter Tryz.func108,Tryz.ntmps108
 go_wp2
 go_loopw [9] (fun i wr=>∃ix:Nat,ix≤len∧i= .int .i64 ix∧Hid ((xs.take ix).all bE.okB=true)∧Below w.heap.size w wr) (fun i _=>len - (intOf i).toNat)
 case atStart=>exact⟨0,Nat.zero_le _,rfl,ab (by simp),Below.refl _ _⟩
 case round=>
  obtain⟨ix,hk,rfl,hA,hbw⟩:=hrel
  by_cases hlt:ix<len
  ·obtain⟨hxl,_,hx⟩:=h
   obtain⟨g,o,rfl,_,hr⟩:=hx.resolve_left (by omega)
   obtain⟨x,hxk⟩:∃x,xs[ix]? =some x:=⟨_,List.getElem?_eq_getElem (by omega)⟩
   have hX:=ab hxk
   obtain⟨a0,l0,c0,a2,l2,c2,a3,l3,c3,⟨d0,d1,d2,d3⟩,k0,k2,k3⟩:=(hr ix _ hxk).below hbw
   clear hx hxk hr
   cases hB:bE.okB x
   ·have HE:Hid (xs.all bE.okB=false):=ab (all_ff (aa hX) hB)
    go_wp2_with (go_at_call 109;refine(gz x a0 l0 c0 a2 l2 c2 a3 l3 c3 B _ (k0.below (aj)) (k2.below (aj)) (k3.below (aj))).mono ?_;rw[hB];rintro e' wf ⟨rfl,hbf⟩)
    go_ret
    exact⟨ae (aa HE).symm,(aj)⟩
   ·have HE:Hid ((xs.take (ix+1)).all bE.okB=true):=ab (all_tt (aa hA) (aa hX) hB)
    go_wp2_with (go_at_call 109;refine(gz x a0 l0 c0 a2 l2 c2 a3 l3 c3 B _ (k0.below (aj)) (k2.below (aj)) (k3.below (aj))).mono ?_;rw[hB];rintro e' wf ⟨rfl,hbf⟩)
    go_roundw
    case rel=>exact⟨ix+1,by omega,by go_num,HE,(aj)⟩
    case measure=>simp[intOf];omega
  ·have HE:Hid (xs.all bE.okB=true):=ab (bV (aa hA) (by have:=h.1;omega))
   go_wp2
   go_ret
   exact⟨ae (aa HE).symm,hbw⟩
end Go.Proofs.YtiilbnjjhgcjdaaGreat
namespace Go.Proofs.YtiilbnjjhgcjdaaGreat
open Go.ChangeShapes Go.WideShapes Go.ChangeAt Go.RowKit
/-- Whether an item may follow in a log behind a mark; the mark behind it. -/
def cu(q t k v n m:Int):Bool:=if q=1 then bG t k v n else if q=2 then aR t k v n&&decide (m<t)else false
def dJ(q t m:Int):Int:=if q=2 then hiI m t else m
theorem gB(q t k v n m:Int)(w:World):Calls Tryz.prog 161 #[ct q t k v n,.int .i64 m] w fun e w'=>e= .returned (.bool (cu q t k v n m))∧Below w.heap.size w w':=by
 by_cases h1:q=1
 ·subst h1
  rw[iC]
  have rR:=taRR
  have mR:=taRM
  have hq:Hid (cu 1 t k v n m=bG t k v n):=ab rfl
  go_enter Tryz.func161,Tryz.ntmps161
  go_wp2_with (go_at_call 192;refine(gV _ _ _ _ _ _).mono ?_;rintro e w' ⟨rfl,hb⟩)
  go_ret
  exact⟨ae (aa hq).symm,(aK)⟩
 by_cases h2:q=2
 ·subst h2
  rw[iD]
  have rM:=taMR
  have mM:=taMM
  cases ho:aR t k v n
  ·have hq:Hid (cu 2 t k v n m=false):=ab (by show(aR t k v n&&decide (m<t))=false;rw[ho];rfl)
   go_enter Tryz.func161,Tryz.ntmps161
   go_wp2_with (first
    |(go_at_call 193;refine(fj _ _ _ _ _ _).mono ?_;rintro e w' ⟨rfl,hb⟩;obtain⟨hc,hf,hs⟩:=ac hb;(try have hz0:=zA hb w.heap.size)))
   go_ret
   exact⟨ae (aa hq).symm,(aK)⟩
  ·have hq:Hid (cu 2 t k v n m=decide (m<t)):=ab (by show(aR t k v n&&decide (m<t))=_;rw[ho];rfl)
   go_enter Tryz.func161,Tryz.ntmps161
   go_wp2_with (first
    |(go_at_call 193;refine(fj _ _ _ _ _ _).mono ?_;rintro e w' ⟨rfl,hb⟩;obtain⟨hc,hf,hs⟩:=ac hb;(try have hz0:=zA hb w.heap.size)))
   go_ret
   exact⟨ae (aa hq).symm,(aK)⟩
 have hq:Hid (cu q t k v n m=false):=ab (by unfold cu;rw[if_neg h1,if_neg h2])
 by_cases h3:q=3
 ·subst h3
  rw[iE]
  have rW:=taWR
  have mW:=taWM
  go_enter Tryz.func161,Tryz.ntmps161
  go_wp2
  go_ret
  exact⟨ae (aa hq).symm,(aK)⟩
 ·rw[iF h1 h2 h3]
  have rN:=taNR
  have mN:=taNM
  clear h1 h2 h3
  go_enter Tryz.func161,Tryz.ntmps161
  go_wp2
  go_ret
  exact⟨ae (aa hq).symm,(aK)⟩
theorem lbehind_any(q t k v n m:Int)(w:World):Calls Tryz.prog 162 #[ct q t k v n,.int .i64 m] w fun e w'=>e= .returned (.int .i64 (dJ q t m))∧Below w.heap.size w w':=by
 by_cases h2:q=2
 ·subst h2
  rw[iD]
  have rM:=taMR
  have mM:=taMM
  by_cases h4:m<t
  ·have hq:Hid (dJ 2 t m=t):=ab (hiI_d h4)
   go_enter Tryz.func162,Tryz.ntmps162
   go_wp2
   go_ret
   exact⟨cS (aa hq).symm,(aK)⟩
  ·have hq:Hid (dJ 2 t m=m):=ab (hiI_b h4)
   go_enter Tryz.func162,Tryz.ntmps162
   go_wp2
   go_ret
   exact⟨cS (aa hq).symm,(aK)⟩
 have hq:Hid (dJ q t m=m):=ab (if_neg h2)
 by_cases h1:q=1
 ·subst h1
  rw[iC]
  have rR:=taRR
  have mR:=taRM
  go_enter Tryz.func162,Tryz.ntmps162
  go_wp2
  go_ret
  exact⟨cS (aa hq).symm,(aK)⟩
 by_cases h3:q=3
 ·subst h3
  rw[iE]
  have rW:=taWR
  have mW:=taWM
  go_enter Tryz.func162,Tryz.ntmps162
  go_wp2
  go_ret
  exact⟨cS (aa hq).symm,(aK)⟩
 ·rw[iF h1 h2 h3]
  have rN:=taNR
  have mN:=taNM
  clear h1 h2 h3
  go_enter Tryz.func162,Tryz.ntmps162
  go_wp2
  go_ret
  exact⟨cS (aa hq).symm,(aK)⟩
end Go.Proofs.YtiilbnjjhgcjdaaGreat
namespace Go.Proofs.YtiilbnjjhgcjdaaGreat
open Go.RowKit Go.Shelf
attribute [local go_sem] Oper.semAt_some
theorem ib{W W':World}(h:Below W.heap.size W W'):W.grownBy W' none:=⟨h.os,h.tape,h.output,h.size,fun k hk _=>h.block k hk⟩
theorem ie{xs:List It}{k:Nat}{x:It}(h:xs[k]? =some x):xs.take (k+1)=xs.take k++[x]:=by
 obtain⟨hk,rfl⟩:=List.getElem?_eq_some_iff.1 h
 exact List.take_succ_eq_append_getElem hk
set_option maxRecDepth 100000 in
set_option maxHeartbeats 2000000 in
theorem parts1_in(n:Nat)(hn:2≤n)(l Bs n₀ len cap:Nat)(a:Option Addr)(xs:List It)(J Jx:List It→World→Prop)
  (hY:∀pre x W,J pre W→pre.length<len→YieldAt Fence.wide (n - 1) Tryz.prog l #[ct x.q x.t x.k x.v x.n] W fun e W'=>
   (e= .returned (.bool true)∧J (pre++[x]) W'∧Below n₀ W W')∨(e= .returned (.bool false)∧Jx (pre++[x]) W'))
  (W:World) (hJ:AbidesFrom W.heap.size J) (hnW:n₀≤W.heap.size) (hBs:W.cell? ⟨Bs,0,none⟩=some (.slice a len cap)) (hI:Its W a len xs) (hlow:∀g o,0<len→a=some ⟨g,o,none⟩→g<n₀) (h0:J [] W):
  CallsIn Fence.wide n Tryz.prog 179 #[.func (.yield l) #[] #[],.pointer (some ⟨Bs,0,none⟩)] W fun e W'=>(∃v,e= .returned v)∧
   ((∃ys,ys=xs∧J ys W')∨(∃pre,pre <+: xs∧Jx pre W')):=by
 have hm:=hI.2.1
 unfold maxLen at hm
 refine callsIn_of_wp Tryz.func179 rfl trivial ?_ rfl
 simp only[Tryz.ntmps179,List.size_toArray,List.length_cons,List.length_nil,Nat.reduceAdd,Nat.reduceSub,Array.replicate_succ,Array.replicate_zero,List.push_toArray,List.append_toArray,List.nil_append,List.cons_append]
 gi_wp2
 gi_loopw [7] (fun i wr=>∃k:Nat,k≤len∧i= .int .i64 k∧J (xs.take k) wr∧Below n₀ W wr)
  (fun i _=>len - (intOf i).toNat)
 case atStart=>exact⟨0,Nat.zero_le _,rfl,by simpa using h0,Below.refl _ _⟩
 case round=>
  obtain⟨k,hk,rfl,hJs,hnx⟩:=hrel
  by_cases hlt:k<len
  ·obtain⟨hxl,_,hx⟩:=hI
   obtain⟨g,o,rfl,hr⟩:=hx.resolve_left (by omega)
   obtain⟨x,hxk⟩:∃x,xs[k]? =some x:=⟨_,List.getElem?_eq_getElem (by omega)⟩
   have hX:=ab hxk
   have hg:g<n₀:=hlow g o (by omega) rfl
   obtain⟨c0,c1,c2,c3,c4⟩:=(hr k _ hxk).below hnx hg
   clear hx hxk
   gi_wp2_with (refine⟨trivial,fun _=>(by omega),?_⟩;gi_at_call 180;refine(callsIn_wide.2 (cx _ _ _ _ _ _)).mono ?_;rintro e w' ⟨rfl,hb⟩;obtain⟨fn,tmps,assign,body,hy,hR⟩:=hY (xs.take k) x w' (hJ _ wr w' none hJs (ib (ad (ai wr _) hb)) (fun r e=>by cases e)) (iT))
   refine⟨fun _=>(by omega),hR.mono ?_⟩
   rintro e W3 (⟨rfl,hJ3,hk3⟩|⟨rfl,hJx3⟩)
   ·gi_wp2
    go_roundw
    case rel=>exact⟨k+1,by omega,by go_num,by rw[ie (aa hX)];exact hJ3,(hnx.trans ((ad (ai wr _) hb).mono (Nat.le_trans hnW hnx.size))).trans hk3⟩
    case measure=>simp[intOf];omega
   ·gi_wp2
    refine bodyPost_ret (results_none rfl _ _ _) rfl ?_
    exact⟨⟨_,rfl⟩,.inr ⟨_,by rw[←ie (aa hX)];exact List.take_prefix _ _,hJx3⟩⟩
  ·gi_wp2
   go_end0
   exact⟨⟨_,rfl⟩,.inl ⟨_,by rw[List.take_of_length_le (by have:=hI.1;omega)],hJs⟩⟩
set_option maxHeartbeats 1000000 in
theorem iK(a:Option Addr)(len cap:Nat)(w:World):Calls Tryz.prog 126 #[.slice a len cap] w fun e w'=>e= .returned (.func (.func 179) #[] #[.pointer (some ⟨w.heap.size,0,none⟩)])∧w'=w.alloc (.cells #[.slice a len cap] 63):=by
 go_enter Tryz.func126,Tryz.ntmps126
 go_wp2
 go_ret
 exact⟨rfl,rfl⟩
theorem parts_stops(n:Nat)(hn:2≤n)(Bs n₀ len cap:Nat)(a:Option Addr)(xs:List It)(w:World)(hBs:Bs<w.heap.size)(hn₀:n₀≤w.heap.size)
  (hc:w.cell? ⟨Bs,0,none⟩=some (.slice a len cap)) (hI:Its w a len xs) (hlow:∀g o,0<len→a=some ⟨g,o,none⟩→g<n₀):
  SeqStopsK Fence.wide n Tryz.prog 179 #[.pointer (some ⟨Bs,0,none⟩)] (fun x:It=>#[ct x.q x.t x.k x.v x.n]) (Below n₀) (fun ys=>ys=xs) (fun pre=>pre <+: xs) len w:=fun l J Jx W hW hJ _ hY h0=>by
 have hc':=(hW.cell (p:=⟨Bs,0,none⟩) hBs).trans hc
 exact parts1_in n hn l Bs n₀ len cap a xs J Jx hY W hJ (Nat.le_trans hn₀ hW.size) hc' (hI.below hW) hlow h0
end Go.Proofs.YtiilbnjjhgcjdaaGreat
