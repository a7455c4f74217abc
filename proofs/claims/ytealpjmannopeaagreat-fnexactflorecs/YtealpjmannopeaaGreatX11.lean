/- Laid together: what the claim needs of the texts that were built one by one. -/
import Derived.Test.YtealpjmannopeaaGreatX5
import Derived.Test.YtealpjmannopeaaGreatX10
import Derived.Test.YtealpjmannopeaaGreatX6
import Derived.Test.YtealpjmannopeaaGreatX0
set_option linter.unusedVariables false
namespace Go.Proofs.YtealpjmannopeaaGreat
open Go.ChangeShapes Go.WideShapes Go.ChangeAt Go.RowKit Go.Deep
/-- The least of marks, and 1000. -/
def gn(ms:List Int):Int:=ms.foldl loI 1000
theorem lowM_take{ms:List Int}{k:Nat}{m:Int}(h:ms[k]? =some m):gn (ms.take (k+1))=loI (gn (ms.take k)) m:=by
 obtain⟨hk,he⟩:=List.getElem?_eq_some_iff.1 h
 rw[List.take_succ_eq_append_getElem hk,he]
 simp[gn,List.foldl_append]
def fN(m:Int):Bool:=aP m 0 1000
/-- Whether what is kept of a task is ok. -/
def bI(s t k z p l e v r:Int)(x:cD):Bool:=cl s t k z p l e v r x.ma x.rows&&decide ((x.marks.length:Int)=s)&&x.marks.all fN&&x.ma==gn x.marks
/-- Whether what is safe is ok. -/
def el(m:Int):Bool:=aP m 0 40
def cI(s t k z p l e v r:Int)(x:CsD):Bool:=aP x.sfn 0 900&&decide ((x.at_.length:Int)=s)&&decide ((x.ssn.length:Int)=t)&&x.at_.all el&&x.ssn.all (bI s t k z p l e v r)
theorem all_tt{α:Type}{xs:List α}{p:α→Bool}{k:Nat}{x:α}(h:(xs.take k).all p=true)(hx:xs[k]? =some x)(hp:p x=true):(xs.take (k+1)).all p=true:=by
 obtain⟨hk,he⟩:=List.getElem?_eq_some_iff.1 hx
 rw[List.take_succ_eq_append_getElem hk,List.all_append,h,he]
 simp[hp]
theorem all_ff{α:Type}{xs:List α}{p:α→Bool}{k:Nat}{x:α}(hx:xs[k]? =some x)(hp:p x=false):xs.all p=false:=by
 rw[List.all_eq_false]
 exact⟨x,List.mem_of_getElem? hx,by simp[hp]⟩
theorem cu{α:Type}{xs:List α}{p:α→Bool}{k:Nat}(h:(xs.take k).all p=true)(hk:xs.length≤k):xs.all p=true:=by rwa [List.take_of_length_le hk]at h
set_option maxRecDepth 20000 in
set_option maxHeartbeats 2000000 in
theorem eJ(s t k z p l e:Int)(b:Bool)(v r:Int)(x:cD)(a1:Option Addr)(l1 c1:Nat)(a2:Option Addr)(l2 c2:Nat)(B:Nat)(w:World)(h1:dN w B a1 l1 x.rows)(h2:bn w B a2 l2 x.marks):Calls Tryz.prog 106 #[.agg #[.int .i64 s,.int .i64 t,.int .i64 k,.int .i64 z,.int .i64 p,.int .i64 l,.int .i64 e,.bool b,.int .i64 v,.int .i64 r],.agg #[.int .i64 x.ma,.slice a1 l1 c1,.slice a2 l2 c2]] w fun e' w'=>e'= .returned (.bool (bI s t k z p l e v r x))∧Below w.heap.size w w':=by
 have le2:=h2.len.1
 have hm2:=h2.len.2
 unfold maxLen at hm2
 cases ho:cl s t k z p l e v r x.ma x.rows
 ·have HE:Hid (bI s t k z p l e v r x=false):=ab (by unfold bI;rw[ho];rfl)
  go_enter Tryz.func106,Tryz.ntmps106
  go_wp2_with (go_at_call 108;refine(bm s t k z p l e b v r x.ma a1 l1 c1 x.rows _ (h1.1.below (ar))).mono ?_;rw[ho];rintro e' w1 ⟨rfl,hb1⟩;obtain⟨hc1,hf1,hs1⟩:=ac hb1;have hz10:w.heap.size<w1.heap.size:=(by have h9:=hb1.size;(try simp at h9);omega);have hz11:w.heap.size+1<w1.heap.size:=(by have h9:=hb1.size;(try simp at h9);omega))
  go_ret
  exact⟨af (aa HE).symm,(ak)⟩
 by_cases hl:(l2:Int)=s
 rotate_left
 ·have HE:Hid (bI s t k z p l e v r x=false):=ab (by unfold bI;rw[ho,decide_eq_false (by rw[le2];exact hl)];rfl)
  have hl1:((l2:Int)==s)=false:=beq_eq_false_iff_ne.2 hl
  have hl2:((l2:Int) != s)=true:=by simp[hl]
  go_enter Tryz.func106,Tryz.ntmps106
  go_wp2_with (go_at_call 108;refine(bm s t k z p l e b v r x.ma a1 l1 c1 x.rows _ (h1.1.below (ar))).mono ?_;rw[ho];rintro e' w1 ⟨rfl,hb1⟩;obtain⟨hc1,hf1,hs1⟩:=ac hb1;have hz10:w.heap.size<w1.heap.size:=(by have h9:=hb1.size;(try simp at h9);omega);have hz11:w.heap.size+1<w1.heap.size:=(by have h9:=hb1.size;(try simp at h9);omega))
  go_ret
  exact⟨af (aa HE).symm,(ak)⟩
 subst hl
 have HV:Hid (bI (l2:Int) t k z p l e v r x=(x.marks.all fN&&x.ma==gn x.marks)):=ab (by unfold bI;rw[ho,decide_eq_true (by rw[le2])];rfl)
 go_enter Tryz.func106,Tryz.ntmps106
 go_wp2_with (go_at_call 108;refine(bm (l2:Int) t k z p l e b v r x.ma a1 l1 c1 x.rows _ (h1.1.below (ar))).mono ?_;rw[ho];rintro e' w1 ⟨rfl,hb1⟩;obtain⟨hc1,hf1,hs1⟩:=ac hb1;have hz10:w.heap.size<w1.heap.size:=(by have h9:=hb1.size;(try simp at h9);omega);have hz11:w.heap.size+1<w1.heap.size:=(by have h9:=hb1.size;(try simp at h9);omega))
 have hW:Below w.heap.size w w1:=(ak)
 have H2:=h2.1.below hW
 have hq:Below ((w.alloc (.cells #[.int .i64 (l2:Int),.int .i64 t,.int .i64 k,.int .i64 z,.int .i64 p,.int .i64 l,.int .i64 e,.bool b,.int .i64 v,.int .i64 r] 40)).alloc (.cells #[.int .i64 x.ma,.slice a1 l1 c1,.slice a2 l2 c2] 186)).heap.size ((w.alloc (.cells #[.int .i64 (l2:Int),.int .i64 t,.int .i64 k,.int .i64 z,.int .i64 p,.int .i64 l,.int .i64 e,.bool b,.int .i64 v,.int .i64 r] 40)).alloc (.cells #[.int .i64 x.ma,.slice a1 l1 c1,.slice a2 l2 c2] 186)) w1:=hb1
 have sb0:w1.cell? ⟨w.heap.size+1,0,none⟩=some (.int .i64 x.ma):=(hq.cell (p:=⟨w.heap.size+1,0,none⟩) (jH)).trans (jI)
 have sb1:w1.cell? ⟨w.heap.size+1,1,none⟩=some (.slice a1 l1 c1):=(hq.cell (p:=⟨w.heap.size+1,1,none⟩) (jH)).trans (jI)
 have sb2:w1.cell? ⟨w.heap.size+1,2,none⟩=some (.slice a2 l2 c2):=(hq.cell (p:=⟨w.heap.size+1,2,none⟩) (jH)).trans (jI)
 clear hc1 hf1 hs1 hb1 ho hq
 go_loopw [5,6] (fun lv i wr=>∃ix:Nat,ix≤l2∧i= .int .i64 ix∧lv= .int .i64 (gn (x.marks.take ix))∧Hid ((x.marks.take ix).all fN=true)∧Below w1.heap.size w1 wr) (fun _ i _=>l2 - (intOf i).toNat)
 case atStart=>exact⟨0,Nat.zero_le _,rfl,rfl,ab (by simp),Below.refl _ _⟩
 case round=>
  obtain⟨ix,hk,rfl,rfl,hA,hbw⟩:=hrel
  have tb0:wr.cell? ⟨w.heap.size+1,0,none⟩=some (.int .i64 x.ma):=(hbw.cell (p:=⟨w.heap.size+1,0,none⟩) (jH)).trans sb0
  have tb1:wr.cell? ⟨w.heap.size+1,1,none⟩=some (.slice a1 l1 c1):=(hbw.cell (p:=⟨w.heap.size+1,1,none⟩) (jH)).trans sb1
  have tb2:wr.cell? ⟨w.heap.size+1,2,none⟩=some (.slice a2 l2 c2):=(hbw.cell (p:=⟨w.heap.size+1,2,none⟩) (jH)).trans sb2
  by_cases hlt:ix<l2
  ·obtain⟨hxl,_,hx⟩:=H2
   obtain⟨g,o,rfl,hrr⟩:=hx.resolve_left (by omega)
   obtain⟨y,hyk⟩:∃y,x.marks[ix]? =some y:=⟨_,List.getElem?_eq_getElem (by omega)⟩
   have hg:=hrr.lt (by omega)
   have hX:=ab hyk
   have d0:=(hbw.cell (p:=⟨g,o+ix,none⟩) hg).trans (hrr ix _ hyk)
   have hlt':=lowM_take hyk
   generalize gn (x.marks.take ix)=lo at hlt'
   clear hx hyk hrr
   cases hB:aP y 0 1000
   ·have HE:Hid (x.marks.all fN=false):=ab (all_ff (aa hX) hB)
    clear hlt'
    go_wp2_with (go_at_call 63;refine(al _ _ _ _).mono ?_;rw[hB];rintro e' w5 ⟨rfl,hw⟩;obtain rfl:=hw.symm;clear hw)
    go_ret
    exact⟨af (by rw[aa HV,aa HE];rfl),(ak)⟩
   ·have HE:Hid ((x.marks.take (ix+1)).all fN=true):=ab (all_tt (aa hA) (aa hX) hB)
    by_cases hm:y<lo
    ·have HL:Hid (gn (x.marks.take (ix+1))=y):=ab (by rw[hlt',loI_c hm])
     clear hlt'
     go_wp2_with (go_at_call 63;refine(al _ _ _ _).mono ?_;rw[hB];rintro e' w5 ⟨rfl,hw⟩;obtain rfl:=hw.symm;clear hw)
     go_roundw
     case rel=>exact⟨ix+1,by omega,by go_num,by rw[aa HL],HE,(ak)⟩
     case measure=>simp[intOf];omega
    ·have HL:Hid (gn (x.marks.take (ix+1))=lo):=ab (by rw[hlt',loI_a hm])
     clear hlt'
     go_wp2_with (go_at_call 63;refine(al _ _ _ _).mono ?_;rw[hB];rintro e' w5 ⟨rfl,hw⟩;obtain rfl:=hw.symm;clear hw)
     go_roundw
     case rel=>exact⟨ix+1,by omega,by go_num,by rw[aa HL],HE,(ak)⟩
     case measure=>simp[intOf];omega
  ·have HE:Hid (bI (l2:Int) t k z p l e v r x=(x.ma==gn (x.marks.take ix))):=ab (by rw[aa HV,cu (aa hA) (by omega),List.take_of_length_le (by omega)];rfl)
   go_wp2
   go_ret
   exact⟨af (aa HE).symm,(ak)⟩
theorem du{b0 b1 b2 a0 a1 a2 a3 a4 a5 a6 a7 a8 a9 c0 c1 c2 e0 e1 e2:Nat}{k0 k1 k2 k3 k4 k5 k6 k7 k8 k9 l0 l1 l2 m0 m1 m2:Value}{W W':World}(h:((W.cell? ⟨b0,a0,none⟩=some k0∧W.cell? ⟨b0,a1,none⟩=some k1∧W.cell? ⟨b0,a2,none⟩=some k2∧W.cell? ⟨b0,a3,none⟩=some k3∧W.cell? ⟨b0,a4,none⟩=some k4∧W.cell? ⟨b0,a5,none⟩=some k5∧W.cell? ⟨b0,a6,none⟩=some k6∧W.cell? ⟨b0,a7,none⟩=some k7∧W.cell? ⟨b0,a8,none⟩=some k8∧W.cell? ⟨b0,a9,none⟩=some k9∧W.cell? ⟨b1,c0,none⟩=some l0∧W.cell? ⟨b1,c1,none⟩=some l1∧W.cell? ⟨b1,c2,none⟩=some l2∧W.cell? ⟨b2,e0,none⟩=some m0∧W.cell? ⟨b2,e1,none⟩=some m1∧W.cell? ⟨b2,e2,none⟩=some m2)∧b0<W.heap.size∧b1<W.heap.size∧b2<W.heap.size))(hb:Below W.heap.size W W'):((W'.cell? ⟨b0,a0,none⟩=some k0∧W'.cell? ⟨b0,a1,none⟩=some k1∧W'.cell? ⟨b0,a2,none⟩=some k2∧W'.cell? ⟨b0,a3,none⟩=some k3∧W'.cell? ⟨b0,a4,none⟩=some k4∧W'.cell? ⟨b0,a5,none⟩=some k5∧W'.cell? ⟨b0,a6,none⟩=some k6∧W'.cell? ⟨b0,a7,none⟩=some k7∧W'.cell? ⟨b0,a8,none⟩=some k8∧W'.cell? ⟨b0,a9,none⟩=some k9∧W'.cell? ⟨b1,c0,none⟩=some l0∧W'.cell? ⟨b1,c1,none⟩=some l1∧W'.cell? ⟨b1,c2,none⟩=some l2∧W'.cell? ⟨b2,e0,none⟩=some m0∧W'.cell? ⟨b2,e1,none⟩=some m1∧W'.cell? ⟨b2,e2,none⟩=some m2)∧b0<W'.heap.size∧b1<W'.heap.size∧b2<W'.heap.size):=by
 obtain⟨h99,s0,s1,s2⟩:=h
 have e0:∀z,W'.cell? ⟨b0,z,none⟩=W.cell? ⟨b0,z,none⟩:=fun z=>hb.cell s0
 have e1:∀z,W'.cell? ⟨b1,z,none⟩=W.cell? ⟨b1,z,none⟩:=fun z=>hb.cell s1
 have e2:∀z,W'.cell? ⟨b2,z,none⟩=W.cell? ⟨b2,z,none⟩:=fun z=>hb.cell s2
 refine⟨?_,Nat.lt_of_lt_of_le s0 hb.size,Nat.lt_of_lt_of_le s1 hb.size,Nat.lt_of_lt_of_le s2 hb.size⟩
 simp only[e0,e1,e2]
 exact h99
set_option maxRecDepth 20000 in
set_option maxHeartbeats 2000000 in
theorem eK(s t k z p l e:Int)(b:Bool)(v r:Int)(x:CsD)(a1:Option Addr)(l1 c1:Nat)(a2:Option Addr)(l2 c2:Nat)(B:Nat)(w:World)(h1:bn w B a1 l1 x.at_)(h2:bE w B a2 l2 x.ssn):Calls Tryz.prog 105 #[.agg #[.int .i64 s,.int .i64 t,.int .i64 k,.int .i64 z,.int .i64 p,.int .i64 l,.int .i64 e,.bool b,.int .i64 v,.int .i64 r],.agg #[.int .i64 x.sfn,.slice a1 l1 c1,.slice a2 l2 c2]] w fun e' w'=>e'= .returned (.bool (cI s t k z p l e v r x))∧Below w.heap.size w w':=by
 have le1:=h1.len.1
 have hm1:=h1.len.2
 have le2:=h2.len.1
 have hm2:=h2.len.2
 unfold maxLen at hm1 hm2
 cases hi:aP x.sfn 0 900
 ·skip
  have HE:Hid (cI s t k z p l e v r x=false):=ab (by unfold cI;rw[hi];rfl)
  go_enter Tryz.func105,Tryz.ntmps105
  go_wp2_with (go_at_call 63;refine(al _ _ _ _).mono ?_;rw[hi];rintro e' w5 ⟨rfl,hw⟩;obtain rfl:=hw.symm;clear hw)
  go_ret
  exact⟨af (aa HE).symm,(ak)⟩
 by_cases hl:(l1:Int)=s
 rotate_left
 ·have hl1:((l1:Int)==s)=false:=beq_eq_false_iff_ne.2 hl
  have hl2:((l1:Int) != s)=true:=by simp[hl]
  have HE:Hid (cI s t k z p l e v r x=false):=ab (by unfold cI;rw[hi,decide_eq_false (by rw[le1];exact hl)];rfl)
  go_enter Tryz.func105,Tryz.ntmps105
  go_wp2_with (go_at_call 63;refine(al _ _ _ _).mono ?_;rw[hi];rintro e' w5 ⟨rfl,hw⟩;obtain rfl:=hw.symm;clear hw)
  go_ret
  exact⟨af (aa HE).symm,(ak)⟩
 by_cases ht:(l2:Int)=t
 rotate_left
 ·subst hl
  have hl1:((l2:Int)==t)=false:=beq_eq_false_iff_ne.2 ht
  have hl2:((l2:Int) != t)=true:=by simp[ht]
  have HE:Hid (cI (l1:Int) t k z p l e v r x=false):=ab (by unfold cI;rw[hi,decide_eq_true (by rw[le1]),decide_eq_false (by rw[le2];exact ht)];rfl)
  go_enter Tryz.func105,Tryz.ntmps105
  go_wp2_with (go_at_call 63;refine(al _ _ _ _).mono ?_;rw[hi];rintro e' w5 ⟨rfl,hw⟩;obtain rfl:=hw.symm;clear hw)
  go_ret
  exact⟨af (aa HE).symm,(ak)⟩
 subst hl
 subst ht
 have HV:Hid (cI (l1:Int) (l2:Int) k z p l e v r x=(x.at_.all el&&x.ssn.all (bI (l1:Int) (l2:Int) k z p l e v r))):=ab (by unfold cI;rw[hi,decide_eq_true (by rw[le1]),decide_eq_true (by rw[le2])];rfl)
 go_enter Tryz.func105,Tryz.ntmps105
 go_wp2_with (go_at_call 63;refine(al _ _ _ _).mono ?_;rw[hi];rintro e' w5 ⟨rfl,hw⟩;obtain rfl:=hw.symm;clear hw)
 have hW:Below w.heap.size w ((w.alloc (.cells #[.int .i64 (l1:Int),.int .i64 (l2:Int),.int .i64 k,.int .i64 z,.int .i64 p,.int .i64 l,.int .i64 e,.bool b,.int .i64 v,.int .i64 r] 40)).alloc (.cells #[.int .i64 x.sfn,.slice a1 l1 c1,.slice a2 l2 c2] 47)):=aB (ai _ _) _
 have H1:=h1.1.below hW
 have H2:=h2.below hW
 clear hi
 go_loopw [5] (fun i wr=>∃ix:Nat,ix≤l1∧i= .int .i64 ix∧Hid ((x.at_.take ix).all el=true)∧Below ((w.alloc (.cells #[.int .i64 (l1:Int),.int .i64 (l2:Int),.int .i64 k,.int .i64 z,.int .i64 p,.int .i64 l,.int .i64 e,.bool b,.int .i64 v,.int .i64 r] 40)).alloc (.cells #[.int .i64 x.sfn,.slice a1 l1 c1,.slice a2 l2 c2] 47)).heap.size ((w.alloc (.cells #[.int .i64 (l1:Int),.int .i64 (l2:Int),.int .i64 k,.int .i64 z,.int .i64 p,.int .i64 l,.int .i64 e,.bool b,.int .i64 v,.int .i64 r] 40)).alloc (.cells #[.int .i64 x.sfn,.slice a1 l1 c1,.slice a2 l2 c2] 47)) wr) (fun i _=>l1 - (intOf i).toNat)
 case atStart=>exact⟨0,Nat.zero_le _,rfl,ab (by simp),Below.refl _ _⟩
 case round=>
  obtain⟨ix,hk,rfl,hA,hbw⟩:=hrel
  have tb0:wr.cell? ⟨w.heap.size+1,0,none⟩=some (.int .i64 x.sfn):=(hbw.cell (p:=⟨w.heap.size+1,0,none⟩) (jH)).trans (jI)
  have tb1:wr.cell? ⟨w.heap.size+1,1,none⟩=some (.slice a1 l1 c1):=(hbw.cell (p:=⟨w.heap.size+1,1,none⟩) (jH)).trans (jI)
  have tb2:wr.cell? ⟨w.heap.size+1,2,none⟩=some (.slice a2 l2 c2):=(hbw.cell (p:=⟨w.heap.size+1,2,none⟩) (jH)).trans (jI)
  by_cases hlt:ix<l1
  ·obtain⟨hxl,_,hx⟩:=H1
   obtain⟨g,o,rfl,hrr⟩:=hx.resolve_left (by omega)
   obtain⟨y,hyk⟩:∃y,x.at_[ix]? =some y:=⟨_,List.getElem?_eq_getElem (by omega)⟩
   have hg:=hrr.lt (by omega)
   have hX:=ab hyk
   have d0:=(hbw.cell (p:=⟨g,o+ix,none⟩) hg).trans (hrr ix _ hyk)
   clear hx hyk hrr
   cases hB:aP y 0 40
   ·have HE:Hid (x.at_.all el=false):=ab (all_ff (aa hX) hB)
    go_wp2_with (go_at_call 63;refine(al _ _ _ _).mono ?_;rw[hB];rintro e' w5 ⟨rfl,hw⟩;obtain rfl:=hw.symm;clear hw)
    go_ret
    exact⟨af (by rw[aa HV,aa HE];rfl),(ak)⟩
   ·have HE:Hid ((x.at_.take (ix+1)).all el=true):=ab (all_tt (aa hA) (aa hX) hB)
    go_wp2_with (go_at_call 63;refine(al _ _ _ _).mono ?_;rw[hB];rintro e' w5 ⟨rfl,hw⟩;obtain rfl:=hw.symm;clear hw)
    go_roundw
    case rel=>exact⟨ix+1,by omega,by go_num,HE,(ak)⟩
    case measure=>simp[intOf];omega
  ·have HV2:Hid (cI (l1:Int) (l2:Int) k z p l e v r x=x.ssn.all (bI (l1:Int) (l2:Int) k z p l e v r)):=ab (by rw[aa HV,cu (aa hA) (by omega)];rfl)
   clear HV hA
   obtain⟨wz,hwz⟩:∃wz,wz=wr:=⟨_,rfl⟩
   subst hwz
   have H3:=H2.below hbw
   have hWz:Below w.heap.size w wz:=(ak)
   have jb0:wz.cell? ⟨w.heap.size,0,none⟩=some (.int .i64 (l1:Int)):=(hbw.cell (p:=⟨w.heap.size,0,none⟩) (jH)).trans (jI)
   have jb1:wz.cell? ⟨w.heap.size,1,none⟩=some (.int .i64 (l2:Int)):=(hbw.cell (p:=⟨w.heap.size,1,none⟩) (jH)).trans (jI)
   have jb2:wz.cell? ⟨w.heap.size,2,none⟩=some (.int .i64 k):=(hbw.cell (p:=⟨w.heap.size,2,none⟩) (jH)).trans (jI)
   have jb3:wz.cell? ⟨w.heap.size,3,none⟩=some (.int .i64 z):=(hbw.cell (p:=⟨w.heap.size,3,none⟩) (jH)).trans (jI)
   have jb4:wz.cell? ⟨w.heap.size,4,none⟩=some (.int .i64 p):=(hbw.cell (p:=⟨w.heap.size,4,none⟩) (jH)).trans (jI)
   have jb5:wz.cell? ⟨w.heap.size,5,none⟩=some (.int .i64 l):=(hbw.cell (p:=⟨w.heap.size,5,none⟩) (jH)).trans (jI)
   have jb6:wz.cell? ⟨w.heap.size,6,none⟩=some (.int .i64 e):=(hbw.cell (p:=⟨w.heap.size,6,none⟩) (jH)).trans (jI)
   have jb7:wz.cell? ⟨w.heap.size,7,none⟩=some (.bool b):=(hbw.cell (p:=⟨w.heap.size,7,none⟩) (jH)).trans (jI)
   have jb8:wz.cell? ⟨w.heap.size,8,none⟩=some (.int .i64 v):=(hbw.cell (p:=⟨w.heap.size,8,none⟩) (jH)).trans (jI)
   have jb9:wz.cell? ⟨w.heap.size,9,none⟩=some (.int .i64 r):=(hbw.cell (p:=⟨w.heap.size,9,none⟩) (jH)).trans (jI)
   have hzz:w.heap.size+1<wz.heap.size:=by have h9:=hbw.size;simp at h9;omega
   go_wp2
   go_loopw [6] (fun i wr=>∃ix:Nat,ix≤l2∧i= .int .i64 ix∧Hid ((x.ssn.take ix).all (bI (l1:Int) (l2:Int) k z p l e v r)=true)∧Below wz.heap.size wz wr) (fun i _=>l2 - (intOf i).toNat)
   case atStart=>exact⟨0,Nat.zero_le _,rfl,ab (by simp),Below.refl _ _⟩
   case round=>
    obtain⟨ix,hk,rfl,hA,hbq⟩:=hrel
    have jc0:wr.cell? ⟨w.heap.size,0,none⟩=some (.int .i64 (l1:Int)):=(hbq.cell (p:=⟨w.heap.size,0,none⟩) (jH)).trans jb0
    have jc1:wr.cell? ⟨w.heap.size,1,none⟩=some (.int .i64 (l2:Int)):=(hbq.cell (p:=⟨w.heap.size,1,none⟩) (jH)).trans jb1
    have jc2:wr.cell? ⟨w.heap.size,2,none⟩=some (.int .i64 k):=(hbq.cell (p:=⟨w.heap.size,2,none⟩) (jH)).trans jb2
    have jc3:wr.cell? ⟨w.heap.size,3,none⟩=some (.int .i64 z):=(hbq.cell (p:=⟨w.heap.size,3,none⟩) (jH)).trans jb3
    have jc4:wr.cell? ⟨w.heap.size,4,none⟩=some (.int .i64 p):=(hbq.cell (p:=⟨w.heap.size,4,none⟩) (jH)).trans jb4
    have jc5:wr.cell? ⟨w.heap.size,5,none⟩=some (.int .i64 l):=(hbq.cell (p:=⟨w.heap.size,5,none⟩) (jH)).trans jb5
    have jc6:wr.cell? ⟨w.heap.size,6,none⟩=some (.int .i64 e):=(hbq.cell (p:=⟨w.heap.size,6,none⟩) (jH)).trans jb6
    have jc7:wr.cell? ⟨w.heap.size,7,none⟩=some (.bool b):=(hbq.cell (p:=⟨w.heap.size,7,none⟩) (jH)).trans jb7
    have jc8:wr.cell? ⟨w.heap.size,8,none⟩=some (.int .i64 v):=(hbq.cell (p:=⟨w.heap.size,8,none⟩) (jH)).trans jb8
    have jc9:wr.cell? ⟨w.heap.size,9,none⟩=some (.int .i64 r):=(hbq.cell (p:=⟨w.heap.size,9,none⟩) (jH)).trans jb9
    have tc0:wr.cell? ⟨w.heap.size+1,0,none⟩=some (.int .i64 x.sfn):=(hbq.cell (p:=⟨w.heap.size+1,0,none⟩) (jH)).trans tb0
    have tc1:wr.cell? ⟨w.heap.size+1,1,none⟩=some (.slice a1 l1 c1):=(hbq.cell (p:=⟨w.heap.size+1,1,none⟩) (jH)).trans tb1
    have tc2:wr.cell? ⟨w.heap.size+1,2,none⟩=some (.slice a2 l2 c2):=(hbq.cell (p:=⟨w.heap.size+1,2,none⟩) (jH)).trans tb2
    have hz2:w.heap.size+1<wr.heap.size:=by have h9:=hbq.size;omega
    by_cases hlt:ix<l2
    ·obtain⟨hxl,_,hx⟩:=H3
     obtain⟨g,o,rfl,_,hrr⟩:=hx.resolve_left (by omega)
     obtain⟨y,hyk⟩:∃y,x.ssn[ix]? =some y:=⟨_,List.getElem?_eq_getElem (by omega)⟩
     have hltI:(ix:Int)<(l2:Int):=by omega
     have t1:=(hrr ix _ hyk).below hbq
     have hg:=t1.lt
     have hX:=ab hyk
     obtain⟨qa1,ql1,qc1,qa2,ql2,qc2,⟨d0,d1,d2⟩,k1,k2⟩:=t1
     clear hx hyk hrr
     have hS:((wr.cell? ⟨w.heap.size,0,none⟩=some (.int .i64 (l1:Int))∧wr.cell? ⟨w.heap.size,1,none⟩=some (.int .i64 (l2:Int))∧wr.cell? ⟨w.heap.size,2,none⟩=some (.int .i64 k)∧wr.cell? ⟨w.heap.size,3,none⟩=some (.int .i64 z)∧wr.cell? ⟨w.heap.size,4,none⟩=some (.int .i64 p)∧wr.cell? ⟨w.heap.size,5,none⟩=some (.int .i64 l)∧wr.cell? ⟨w.heap.size,6,none⟩=some (.int .i64 e)∧wr.cell? ⟨w.heap.size,7,none⟩=some (.bool b)∧wr.cell? ⟨w.heap.size,8,none⟩=some (.int .i64 v)∧wr.cell? ⟨w.heap.size,9,none⟩=some (.int .i64 r)∧wr.cell? ⟨w.heap.size+1,0,none⟩=some (.int .i64 x.sfn)∧wr.cell? ⟨w.heap.size+1,1,none⟩=some (.slice a1 l1 c1)∧wr.cell? ⟨w.heap.size+1,2,none⟩=some (.slice (some ⟨g,o,none⟩) l2 c2)∧wr.cell? ⟨g,o+ix*3,none⟩=some (.int .i64 y.ma)∧wr.cell? ⟨g,o+ix*3+1,none⟩=some (.slice qa1 ql1 qc1)∧wr.cell? ⟨g,o+ix*3+2,none⟩=some (.slice qa2 ql2 qc2))∧w.heap.size<wr.heap.size∧w.heap.size+1<wr.heap.size∧g<wr.heap.size):=⟨⟨jc0,jc1,jc2,jc3,jc4,jc5,jc6,jc7,jc8,jc9,tc0,tc1,tc2,d0,d1,d2⟩,by omega,by omega,hg⟩
     cases hB:bI (l1:Int) (l2:Int) k z p l e v r y
     ·have HE:Hid (x.ssn.all (bI (l1:Int) (l2:Int) k z p l e v r)=false):=ab (all_ff (aa hX) hB)
      go_wp2_with fail
      go_region_held3 (fun W=>((W.cell? ⟨w.heap.size,0,none⟩=some (.int .i64 (l1:Int))∧W.cell? ⟨w.heap.size,1,none⟩=some (.int .i64 (l2:Int))∧W.cell? ⟨w.heap.size,2,none⟩=some (.int .i64 k)∧W.cell? ⟨w.heap.size,3,none⟩=some (.int .i64 z)∧W.cell? ⟨w.heap.size,4,none⟩=some (.int .i64 p)∧W.cell? ⟨w.heap.size,5,none⟩=some (.int .i64 l)∧W.cell? ⟨w.heap.size,6,none⟩=some (.int .i64 e)∧W.cell? ⟨w.heap.size,7,none⟩=some (.bool b)∧W.cell? ⟨w.heap.size,8,none⟩=some (.int .i64 v)∧W.cell? ⟨w.heap.size,9,none⟩=some (.int .i64 r)∧W.cell? ⟨w.heap.size+1,0,none⟩=some (.int .i64 x.sfn)∧W.cell? ⟨w.heap.size+1,1,none⟩=some (.slice a1 l1 c1)∧W.cell? ⟨w.heap.size+1,2,none⟩=some (.slice (some ⟨g,o,none⟩) l2 c2)∧W.cell? ⟨g,o+ix*3,none⟩=some (.int .i64 y.ma)∧W.cell? ⟨g,o+ix*3+1,none⟩=some (.slice qa1 ql1 qc1)∧W.cell? ⟨g,o+ix*3+2,none⟩=some (.slice qa2 ql2 qc2))∧w.heap.size<W.heap.size∧w.heap.size+1<W.heap.size∧g<W.heap.size)) ((first|((repeat(first|(with_reducible assumption)|(with_reducible refine du ?_ (jF))|(with_reducible refine du ?_ (aj (Below.refl _ _)))|(with_reducible refine du ?_ (ai _ _))));done)|(refine⟨⟨?_,?_,?_,?_,?_,?_,?_,?_,?_,?_,?_,?_,?_,?_,?_,?_⟩,?_,?_,?_⟩<;>first|(go_keep;done)|(simp;done)|(simp;omega)|omega)))
       (first
       |(go_at_call 106;refine(eJ (l1:Int) (l2:Int) k z p l e b v r y qa1 ql1 qc1 qa2 ql2 qc2 B _ (k1.below (ak)) (k2.below (ak))).mono ?_;rw[hB];rintro e' w' ⟨rfl,hb⟩;obtain⟨hc,hf,hs⟩:=ac hb))
      go_wp2
      go_ret
      exact⟨af (by rw[aa HV2,aa HE]),(ak)⟩
     ·have HE:Hid ((x.ssn.take (ix+1)).all (bI (l1:Int) (l2:Int) k z p l e v r)=true):=ab (all_tt (aa hA) (aa hX) hB)
      go_wp2_with fail
      go_region_held3 (fun W=>((W.cell? ⟨w.heap.size,0,none⟩=some (.int .i64 (l1:Int))∧W.cell? ⟨w.heap.size,1,none⟩=some (.int .i64 (l2:Int))∧W.cell? ⟨w.heap.size,2,none⟩=some (.int .i64 k)∧W.cell? ⟨w.heap.size,3,none⟩=some (.int .i64 z)∧W.cell? ⟨w.heap.size,4,none⟩=some (.int .i64 p)∧W.cell? ⟨w.heap.size,5,none⟩=some (.int .i64 l)∧W.cell? ⟨w.heap.size,6,none⟩=some (.int .i64 e)∧W.cell? ⟨w.heap.size,7,none⟩=some (.bool b)∧W.cell? ⟨w.heap.size,8,none⟩=some (.int .i64 v)∧W.cell? ⟨w.heap.size,9,none⟩=some (.int .i64 r)∧W.cell? ⟨w.heap.size+1,0,none⟩=some (.int .i64 x.sfn)∧W.cell? ⟨w.heap.size+1,1,none⟩=some (.slice a1 l1 c1)∧W.cell? ⟨w.heap.size+1,2,none⟩=some (.slice (some ⟨g,o,none⟩) l2 c2)∧W.cell? ⟨g,o+ix*3,none⟩=some (.int .i64 y.ma)∧W.cell? ⟨g,o+ix*3+1,none⟩=some (.slice qa1 ql1 qc1)∧W.cell? ⟨g,o+ix*3+2,none⟩=some (.slice qa2 ql2 qc2))∧w.heap.size<W.heap.size∧w.heap.size+1<W.heap.size∧g<W.heap.size)) ((first|((repeat(first|(with_reducible assumption)|(with_reducible refine du ?_ (jF))|(with_reducible refine du ?_ (aj (Below.refl _ _)))|(with_reducible refine du ?_ (ai _ _))));done)|(refine⟨⟨?_,?_,?_,?_,?_,?_,?_,?_,?_,?_,?_,?_,?_,?_,?_,?_⟩,?_,?_,?_⟩<;>first|(go_keep;done)|(simp;done)|(simp;omega)|omega)))
       (first
       |(go_at_call 106;refine(eJ (l1:Int) (l2:Int) k z p l e b v r y qa1 ql1 qc1 qa2 ql2 qc2 B _ (k1.below (ak)) (k2.below (ak))).mono ?_;rw[hB];rintro e' w' ⟨rfl,hb⟩;obtain⟨hc,hf,hs⟩:=ac hb))
      go_wp2
      go_roundw
      case rel=>exact⟨ix+1,by omega,by go_num,HE,(ak)⟩
      case measure=>simp[intOf];omega
    ·have HE:Hid (cI (l1:Int) (l2:Int) k z p l e v r x=true):=ab (by rw[aa HV2,cu (aa hA) (by omega)])
     go_wp2
     go_ret
     exact⟨af (aa HE).symm,(ak)⟩
end Go.Proofs.YtealpjmannopeaaGreat
