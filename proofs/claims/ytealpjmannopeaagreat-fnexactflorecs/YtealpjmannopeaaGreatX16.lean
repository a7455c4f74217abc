/- Laid together: what the claim needs of the texts that were built one by one. -/
import Derived.Test.YtealpjmannopeaaGreatX14
import Derived.Test.YtealpjmannopeaaGreatX10
import Derived.Deep.RegionHeld3
import Derived.Test.YtealpjmannopeaaGreatX0
set_option linter.unusedVariables false
namespace Go.Proofs.YtealpjmannopeaaGreat
open Go.ChangeShapes Go.WideShapes Go.ChangeAt Go.RowKit
theorem dv{b0 b1 b2 a0 a1 a2 a3 a4 a5 a6 a7 a8 a9 c0 c1 c2 c3 c4 c5 c6 e0 e1 e2:Nat}{k0 k1 k2 k3 k4 k5 k6 k7 k8 k9 l0 l1 l2 l3 l4 l5 l6 m0 m1 m2:Value}{W W':World}(h:((W.cell? ⟨b0,a0,none⟩=some k0∧W.cell? ⟨b0,a1,none⟩=some k1∧W.cell? ⟨b0,a2,none⟩=some k2∧W.cell? ⟨b0,a3,none⟩=some k3∧W.cell? ⟨b0,a4,none⟩=some k4∧W.cell? ⟨b0,a5,none⟩=some k5∧W.cell? ⟨b0,a6,none⟩=some k6∧W.cell? ⟨b0,a7,none⟩=some k7∧W.cell? ⟨b0,a8,none⟩=some k8∧W.cell? ⟨b0,a9,none⟩=some k9∧W.cell? ⟨b1,c0,none⟩=some l0∧W.cell? ⟨b1,c1,none⟩=some l1∧W.cell? ⟨b1,c2,none⟩=some l2∧W.cell? ⟨b1,c3,none⟩=some l3∧W.cell? ⟨b1,c4,none⟩=some l4∧W.cell? ⟨b1,c5,none⟩=some l5∧W.cell? ⟨b1,c6,none⟩=some l6∧W.cell? ⟨b2,e0,none⟩=some m0∧W.cell? ⟨b2,e1,none⟩=some m1∧W.cell? ⟨b2,e2,none⟩=some m2)∧b0<W.heap.size∧b1<W.heap.size∧b2<W.heap.size))(hb:Below W.heap.size W W'):((W'.cell? ⟨b0,a0,none⟩=some k0∧W'.cell? ⟨b0,a1,none⟩=some k1∧W'.cell? ⟨b0,a2,none⟩=some k2∧W'.cell? ⟨b0,a3,none⟩=some k3∧W'.cell? ⟨b0,a4,none⟩=some k4∧W'.cell? ⟨b0,a5,none⟩=some k5∧W'.cell? ⟨b0,a6,none⟩=some k6∧W'.cell? ⟨b0,a7,none⟩=some k7∧W'.cell? ⟨b0,a8,none⟩=some k8∧W'.cell? ⟨b0,a9,none⟩=some k9∧W'.cell? ⟨b1,c0,none⟩=some l0∧W'.cell? ⟨b1,c1,none⟩=some l1∧W'.cell? ⟨b1,c2,none⟩=some l2∧W'.cell? ⟨b1,c3,none⟩=some l3∧W'.cell? ⟨b1,c4,none⟩=some l4∧W'.cell? ⟨b1,c5,none⟩=some l5∧W'.cell? ⟨b1,c6,none⟩=some l6∧W'.cell? ⟨b2,e0,none⟩=some m0∧W'.cell? ⟨b2,e1,none⟩=some m1∧W'.cell? ⟨b2,e2,none⟩=some m2)∧b0<W'.heap.size∧b1<W'.heap.size∧b2<W'.heap.size):=by
 obtain⟨h99,s0,s1,s2⟩:=h
 have e0:∀z,W'.cell? ⟨b0,z,none⟩=W.cell? ⟨b0,z,none⟩:=fun z=>hb.cell s0
 have e1:∀z,W'.cell? ⟨b1,z,none⟩=W.cell? ⟨b1,z,none⟩:=fun z=>hb.cell s1
 have e2:∀z,W'.cell? ⟨b2,z,none⟩=W.cell? ⟨b2,z,none⟩:=fun z=>hb.cell s2
 refine⟨?_,Nat.lt_of_lt_of_le s0 hb.size,Nat.lt_of_lt_of_le s1 hb.size,Nat.lt_of_lt_of_le s2 hb.size⟩
 simp only[e0,e1,e2]
 exact h99
set_option maxRecDepth 20000 in
set_option maxHeartbeats 1000000 in
theorem l8In_any(s t k z p l e:Int)(b:Bool)(v r:Int)(x:bH)(qa:Option Addr)(ql qc:Nat)(w:World)(h:bG w qa ql x.q):Calls Tryz.prog 110 #[.agg #[.int .i64 s,.int .i64 t,.int .i64 k,.int .i64 z,.int .i64 p,.int .i64 l,.int .i64 e,.bool b,.int .i64 v,.int .i64 r],.agg #[.slice qa ql qc,.int .i64 x.ma,.bool x.hd]] w fun e' w'=>e'= .returned (.bool (x.okB r))∧Below w.heap.size w w':=by
 have hm:=h.2.1
 have hlen:=h.1
 unfold maxLen at hm
 have hbb:Below w.heap.size w ((w.alloc (.cells #[.int .i64 s,.int .i64 t,.int .i64 k,.int .i64 z,.int .i64 p,.int .i64 l,.int .i64 e,.bool b,.int .i64 v,.int .i64 r] 40)).alloc (.cells #[.slice qa ql qc,.int .i64 x.ma,.bool x.hd] 192)):=aB (ai _ _) _
 have h0:=h.below hbb
 by_cases hr:(ql:Int)≤r
 ·have hr':¬ r<(ql:Int):=by omega
  have hd1:decide ((x.q.length:Int)≤r)=true:=decide_eq_true (by omega)
  cases hi:aP x.ma 0 1000
  ·have HE:Hid (x.okB r=false):=ab (by unfold bH.okB;rw[hd1,hi];rfl)
   go_enter Tryz.func110,Tryz.ntmps110
   go_wp2_with (go_at_call 63;refine(al _ _ _ _).mono ?_;rintro e' w1 ⟨rfl,hw⟩;obtain rfl:=hw.symm)
   go_ret
   exact⟨af (aa HE).symm,(ak)⟩
  ·have HV:Hid (x.okB r=x.q.all bF.okB):=ab (by unfold bH.okB;rw[hd1,hi];rfl)
   go_enter Tryz.func110,Tryz.ntmps110
   go_wp2_with (go_at_call 63;refine(al _ _ _ _).mono ?_;rintro e' w1 ⟨rfl,hw⟩;obtain rfl:=hw.symm)
   go_loopw [5] (fun i wr=>∃ix:Nat,ix≤ql∧i= .int .i64 ix∧Hid ((x.q.take ix).all bF.okB=true)∧Below ((w.alloc (.cells #[.int .i64 s,.int .i64 t,.int .i64 k,.int .i64 z,.int .i64 p,.int .i64 l,.int .i64 e,.bool b,.int .i64 v,.int .i64 r] 40)).alloc (.cells #[.slice qa ql qc,.int .i64 x.ma,.bool x.hd] 192)).heap.size ((w.alloc (.cells #[.int .i64 s,.int .i64 t,.int .i64 k,.int .i64 z,.int .i64 p,.int .i64 l,.int .i64 e,.bool b,.int .i64 v,.int .i64 r] 40)).alloc (.cells #[.slice qa ql qc,.int .i64 x.ma,.bool x.hd] 192)) wr) (fun i _=>ql - (intOf i).toNat)
   case atStart=>exact⟨0,Nat.zero_le _,rfl,ab (by simp),Below.refl _ _⟩
   case round=>
    obtain⟨ix,hk,rfl,hA,hbw⟩:=hrel
    have xb0:wr.cell? ⟨w.heap.size+1,0,none⟩=some (.slice qa ql qc):=(hbw.cell (p:=⟨w.heap.size+1,0,none⟩) (jH)).trans (jI)
    have xb1:wr.cell? ⟨w.heap.size+1,1,none⟩=some (.int .i64 x.ma):=(hbw.cell (p:=⟨w.heap.size+1,1,none⟩) (jH)).trans (jI)
    have xb2:wr.cell? ⟨w.heap.size+1,2,none⟩=some (.bool x.hd):=(hbw.cell (p:=⟨w.heap.size+1,2,none⟩) (jH)).trans (jI)
    by_cases hlt:ix<ql
    ·obtain⟨hxl,_,hx⟩:=h0
     obtain⟨g,o,rfl,hrr⟩:=hx.resolve_left (by omega)
     obtain⟨y,hyk⟩:∃y,x.q[ix]? =some y:=⟨_,List.getElem?_eq_getElem (by omega)⟩
     have hg:=hrr.lt (by omega)
     have hX:=ab hyk
     obtain⟨d0,d1,d2,d3,d4⟩:=(hrr ix _ hyk).below hbw hg
     clear hx hyk hrr h hi hd1
     cases hB:cN y.kd y.tm y.ke y.va y.nn
     ·have HE:Hid (x.okB r=false):=ab ((aa HV).trans (all_ff (aa hX) hB))
      go_wp2_with (go_at_call 107;refine(bi _ _ _ _ _ _).mono ?_;rintro e' wf ⟨rfl,hb⟩)
      go_ret
      exact⟨af (aa HE).symm,(ak)⟩
     ·have HE:Hid ((x.q.take (ix+1)).all bF.okB=true):=ab (all_tt (aa hA) (aa hX) hB)
      go_wp2_with (go_at_call 107;refine(bi _ _ _ _ _ _).mono ?_;rintro e' wf ⟨rfl,hb⟩)
      go_roundw
      case rel=>exact⟨ix+1,by omega,by go_num,HE,(ak)⟩
      case measure=>simp[intOf];omega
    ·have HE:Hid (x.okB r=true):=ab ((aa HV).trans (by have h1:=aa hA;rwa [List.take_of_length_le (by omega)]at h1))
     clear hi hd1
     go_wp2
     go_ret
     exact⟨af (aa HE).symm,(ak)⟩
 ·have hr':r<(ql:Int):=by omega
  have HE:Hid (x.okB r=false):=ab (by unfold bH.okB;rw[decide_eq_false (by omega)];rfl)
  go_enter Tryz.func110,Tryz.ntmps110
  go_wp2_with (go_at_call 63;refine(al _ _ _ _).mono ?_;rintro e' w1 ⟨rfl,hw⟩;obtain rfl:=hw.symm)
  go_ret
  exact⟨af (aa HE).symm,(ak)⟩
set_option maxRecDepth 20000 in
set_option maxHeartbeats 2000000 in
theorem cV(n:Int)(pa:Option Addr)(pl pc:Nat)(la:Option Addr)(ll lc:Nat)(ps:List cx)(ls:List cq)(w:World)(h1:eS w pa pl ps)(h2:eT w la ll ls):Calls Tryz.prog 109 #[.agg #[.int .i64 n,.slice pa pl pc,.slice la ll lc]] w fun e' w'=>e'= .returned (.bool (bj n ps ls))∧Below w.heap.size w w':=by
 have hm1:=h1.2.1
 have hm2:=h2.2.1
 have le1:=h1.1
 have le2:=h2.1
 unfold maxLen at hm1 hm2
 have g1:=h1.below (ai w (.cells #[.int .i64 n,.slice pa pl pc,.slice la ll lc] 138))
 have g2:=h2.below (ai w (.cells #[.int .i64 n,.slice pa pl pc,.slice la ll lc] 138))
 cases hi:aP n 0 900
 ·have HE:Hid (bj n ps ls=false):=ab (by unfold bj;rw[hi];rfl)
  go_enter Tryz.func109,Tryz.ntmps109
  go_wp2_with (go_at_call 63;refine(al _ _ _ _).mono ?_;rintro e' w1 ⟨rfl,hw⟩;obtain rfl:=hw.symm;clear hw)
  go_ret
  exact⟨af (aa HE).symm,(ak)⟩
 ·by_cases hp:(1500:Int)<(pl:Int)
  ·have HE:Hid (bj n ps ls=false):=ab (by unfold bj;rw[hi,decide_eq_false (show ¬ ps.length≤1500 by omega)];rfl)
   go_enter Tryz.func109,Tryz.ntmps109
   go_wp2_with (go_at_call 63;refine(al _ _ _ _).mono ?_;rintro e' w1 ⟨rfl,hw⟩;obtain rfl:=hw.symm;clear hw)
   go_ret
   exact⟨af (aa HE).symm,(ak)⟩
  ·by_cases hq:(1500:Int)<(ll:Int)
   ·have HE:Hid (bj n ps ls=false):=ab (by unfold bj;rw[hi,decide_eq_true (show ps.length≤1500 by omega),decide_eq_false (show ¬ ls.length≤1500 by omega)];rfl)
    go_enter Tryz.func109,Tryz.ntmps109
    go_wp2_with (go_at_call 63;refine(al _ _ _ _).mono ?_;rintro e' w1 ⟨rfl,hw⟩;obtain rfl:=hw.symm;clear hw)
    go_ret
    exact⟨af (aa HE).symm,(ak)⟩
   ·have HV:Hid (bj n ps ls=(ps.all cx.okB&&ls.all cq.okB)):=ab (by unfold bj;rw[hi,decide_eq_true (show ps.length≤1500 by omega),decide_eq_true (show ls.length≤1500 by omega)];rfl)
    go_enter Tryz.func109,Tryz.ntmps109
    go_wp2_with (go_at_call 63;refine(al _ _ _ _).mono ?_;rintro e' w1 ⟨rfl,hw⟩;obtain rfl:=hw.symm;clear hw)
    clear hi
    go_loopw [3] (fun i wr=>∃ix:Nat,ix≤pl∧i= .int .i64 ix∧Hid ((ps.take ix).all cx.okB=true)∧Below (w.alloc (.cells #[.int .i64 n,.slice pa pl pc,.slice la ll lc] 138)).heap.size (w.alloc (.cells #[.int .i64 n,.slice pa pl pc,.slice la ll lc] 138)) wr) (fun i _=>pl - (intOf i).toNat)
    case atStart=>exact⟨0,Nat.zero_le _,rfl,ab (by simp),(ak)⟩
    case round=>
     obtain⟨ix,hk,rfl,hA,hbw⟩:=hrel
     have tb0:wr.cell? ⟨w.heap.size,0,none⟩=some (.int .i64 n):=(hbw.cell (p:=⟨w.heap.size,0,none⟩) (jH)).trans (jI)
     have tb1:wr.cell? ⟨w.heap.size,1,none⟩=some (.slice pa pl pc):=(hbw.cell (p:=⟨w.heap.size,1,none⟩) (jH)).trans (jI)
     have tb2:wr.cell? ⟨w.heap.size,2,none⟩=some (.slice la ll lc):=(hbw.cell (p:=⟨w.heap.size,2,none⟩) (jH)).trans (jI)
     by_cases hlt:ix<pl
     ·obtain⟨hxl,_,hx⟩:=g1
      obtain⟨g,o,rfl,hrr⟩:=hx.resolve_left (by omega)
      obtain⟨y,hyk⟩:∃y,ps[ix]? =some y:=⟨_,List.getElem?_eq_getElem (by omega)⟩
      have hg:=hrr.lt (by omega)
      have hX:=ab hyk
      obtain⟨d0,d1,d2,d3,d4,d5,d6,d7,d8⟩:=(hrr ix _ hyk).below hbw hg
      clear hx hyk hrr
      cases hB:bZ y.ky y.st y.en y.no y.kd y.n y.su y.le y.mo
      ·have HE:Hid (bj n ps ls=false):=ab ((aa HV).trans (by rw[all_ff (p:=cx.okB) (aa hX) hB];rfl))
       go_wp2_with (go_at_call 113;refine(dZ _ _ _ _ _ _ _ _ _ _).mono ?_;rintro e' wf ⟨rfl,hb⟩)
       go_ret
       exact⟨af (aa HE).symm,(ak)⟩
      ·have HE:Hid ((ps.take (ix+1)).all cx.okB=true):=ab (all_tt (aa hA) (aa hX) hB)
       go_wp2_with (go_at_call 113;refine(dZ _ _ _ _ _ _ _ _ _ _).mono ?_;rintro e' wf ⟨rfl,hb⟩)
       go_roundw
       case rel=>exact⟨ix+1,by omega,by go_num,HE,(ak)⟩
       case measure=>simp[intOf];omega
     ·have HPPn:Hid (ps.all cx.okB=true):=ab (by have h9:=aa hA;rwa [List.take_of_length_le (by omega)]at h9)
      clear hA
      go_wp2
      go_loopw [4] (fun i wr=>∃ix:Nat,ix≤ll∧i= .int .i64 ix∧Hid ((ls.take ix).all cq.okB=true)∧Below (w.alloc (.cells #[.int .i64 n,.slice pa pl pc,.slice la ll lc] 138)).heap.size (w.alloc (.cells #[.int .i64 n,.slice pa pl pc,.slice la ll lc] 138)) wr) (fun i _=>ll - (intOf i).toNat)
      case atStart=>exact⟨0,Nat.zero_le _,rfl,ab (by simp),(ak)⟩
      case round=>
       obtain⟨ix,hk,rfl,hA,hbw⟩:=hrel
       have tb0:wr.cell? ⟨w.heap.size,0,none⟩=some (.int .i64 n):=(hbw.cell (p:=⟨w.heap.size,0,none⟩) (jH)).trans (jI)
       have tb1:wr.cell? ⟨w.heap.size,1,none⟩=some (.slice pa pl pc):=(hbw.cell (p:=⟨w.heap.size,1,none⟩) (jH)).trans (jI)
       have tb2:wr.cell? ⟨w.heap.size,2,none⟩=some (.slice la ll lc):=(hbw.cell (p:=⟨w.heap.size,2,none⟩) (jH)).trans (jI)
       by_cases hlt:ix<ll
       ·obtain⟨hxl,_,hx⟩:=g2
        obtain⟨g,o,rfl,hrr⟩:=hx.resolve_left (by omega)
        obtain⟨y,hyk⟩:∃y,ls[ix]? =some y:=⟨_,List.getElem?_eq_getElem (by omega)⟩
        have hg:=hrr.lt (by omega)
        have hX:=ab hyk
        obtain⟨d0,d1,d2,d3,d4,d5,d6⟩:=(hrr ix _ hyk).below hbw hg
        clear hx hyk hrr
        cases hB:cR y.kd y.tm y.ke y.va y.nn y.st y.en
        ·have HE:Hid (bj n ps ls=false):=ab ((aa HV).trans (by rw[all_ff (p:=cq.okB) (aa hX) hB,Bool.and_false]))
         go_wp2_with (go_at_call 114;refine(ed _ _ _ _ _ _ _ _).mono ?_;rintro e' wf ⟨rfl,hb⟩)
         go_ret
         exact⟨af (aa HE).symm,(ak)⟩
        ·have HE:Hid ((ls.take (ix+1)).all cq.okB=true):=ab (all_tt (aa hA) (aa hX) hB)
         go_wp2_with (go_at_call 114;refine(ed _ _ _ _ _ _ _ _).mono ?_;rintro e' wf ⟨rfl,hb⟩)
         go_roundw
         case rel=>exact⟨ix+1,by omega,by go_num,HE,(ak)⟩
         case measure=>simp[intOf];omega
       ·have HPLp:Hid (ls.all cq.okB=true):=ab (by have h9:=aa hA;rwa [List.take_of_length_le (by omega)]at h9)
        clear hA
        have HE:Hid (bj n ps ls=true):=ab ((aa HV).trans (by rw[aa HPPn,aa HPLp];rfl))
        go_wp2
        go_ret
        exact⟨af (aa HE).symm,(ak)⟩
set_option linter.unusedSimpArgs false in
set_option maxRecDepth 20000 in
set_option maxHeartbeats 4000000 in
theorem iD(s t k z p l e:Int)(b:Bool)(v r:Int)(ia:Option Addr)(il ic:Nat)(om:Int)(oa:Option Addr)(ol oc:Nat)(wl pn:Int)(pa:Option Addr)(pl pc:Nat)(la:Option Addr)(ll lc:Nat)(d:TkD)(B:Nat)(w:World)(h:TkIs w B ia il oa ol pa pl la ll d):Calls Tryz.prog 64 #[.agg #[.int .i64 s,.int .i64 t,.int .i64 k,.int .i64 z,.int .i64 p,.int .i64 l,.int .i64 e,.bool b,.int .i64 v,.int .i64 r],.agg #[.slice ia il ic,.int .i64 om,.slice oa ol oc,.int .i64 wl,.int .i64 pn,.slice pa pl pc,.slice la ll lc]] w fun e' w'=>e'= .returned (.bool (bc s t k z p l e v r om wl pn d))∧Below w.heap.size w w':=by
 have hm:=h.ins.2.1
 have hle:=h.ins.1
 unfold maxLen at hm
 have hbb:Below w.heap.size w ((w.alloc (.cells #[.int .i64 s,.int .i64 t,.int .i64 k,.int .i64 z,.int .i64 p,.int .i64 l,.int .i64 e,.bool b,.int .i64 v,.int .i64 r] 40)).alloc (.cells #[.slice ia il ic,.int .i64 om,.slice oa ol oc,.int .i64 wl,.int .i64 pn,.slice pa pl pc,.slice la ll lc] 140)):=aB (ai _ _) _
 cases q1:cl s t k z p l e v r om d.rows
 ·have HE:Hid (bc s t k z p l e v r om wl pn d=false):=ab (by unfold bc;rw[q1];rfl)
  go_enter Tryz.func64,Tryz.ntmps64
  go_wp2_with (first
   |(go_at_call 108;refine(bm s t k z p l e b v r om oa ol oc d.rows _ (h.rows.1.below (ak))).mono ?_;rintro e' w1 ⟨rfl,hb1⟩;obtain⟨hc1,hf1,hs1⟩:=ac hb1;have hz10:w.heap.size<w1.heap.size:=(by have h9:=hb1.size;(try simp at h9);omega);have hz11:w.heap.size+1<w1.heap.size:=(by have h9:=hb1.size;(try simp at h9);omega))
   |(go_at_call 63;refine(al _ _ _ _).mono ?_;rintro e' w2 ⟨rfl,hw⟩;obtain rfl:=hw.symm;clear hw)
   |(go_at_call 109;refine(cV pn pa pl pc la ll lc d.panes d.lates _ (h.panes.1.below (ak)) (h.lates.1.below (ak))).mono ?_;rintro e' w3 ⟨rfl,hb3⟩;obtain⟨hc3,hf3,hs3⟩:=ac hb3;have hz30:w.heap.size<w3.heap.size:=(by have h9:=hb3.size;(try simp at h9);omega);have hz31:w.heap.size+1<w3.heap.size:=(by have h9:=hb3.size;(try simp at h9);omega)))
  go_ret
  exact⟨af (aa HE).symm,(ak)⟩
 by_cases q2:(il:Int)=s
 rotate_left
 ·have q2':((il:Int)==s)=false:=beq_eq_false_iff_ne.2 q2
  have q2n:((il:Int) != s)=true:=by simp[q2]
  have HE:Hid (bc s t k z p l e v r om wl pn d=false):=ab (by unfold bc;rw[q1,decide_eq_false (show ¬ (d.ins.length:Int)=s by omega)];rfl)
  go_enter Tryz.func64,Tryz.ntmps64
  go_wp2_with (first
   |(go_at_call 108;refine(bm s t k z p l e b v r om oa ol oc d.rows _ (h.rows.1.below (ak))).mono ?_;rintro e' w1 ⟨rfl,hb1⟩;obtain⟨hc1,hf1,hs1⟩:=ac hb1;have hz10:w.heap.size<w1.heap.size:=(by have h9:=hb1.size;(try simp at h9);omega);have hz11:w.heap.size+1<w1.heap.size:=(by have h9:=hb1.size;(try simp at h9);omega))
   |(go_at_call 63;refine(al _ _ _ _).mono ?_;rintro e' w2 ⟨rfl,hw⟩;obtain rfl:=hw.symm;clear hw)
   |(go_at_call 109;refine(cV pn pa pl pc la ll lc d.panes d.lates _ (h.panes.1.below (ak)) (h.lates.1.below (ak))).mono ?_;rintro e' w3 ⟨rfl,hb3⟩;obtain⟨hc3,hf3,hs3⟩:=ac hb3;have hz30:w.heap.size<w3.heap.size:=(by have h9:=hb3.size;(try simp at h9);omega);have hz31:w.heap.size+1<w3.heap.size:=(by have h9:=hb3.size;(try simp at h9);omega)))
  go_ret
  exact⟨af (aa HE).symm,(ak)⟩
 have q2':((il:Int)==s)=true:=beq_iff_eq.2 q2
 have q2n:((il:Int) != s)=false:=by simp[q2]
 have d2:decide ((d.ins.length:Int)=s)=true:=decide_eq_true (by omega)
 clear q2
 cases q3:aP wl 0 900
 ·have HE:Hid (bc s t k z p l e v r om wl pn d=false):=ab (by unfold bc;rw[q1,d2,q3];rfl)
  go_enter Tryz.func64,Tryz.ntmps64
  go_wp2_with (first
   |(go_at_call 108;refine(bm s t k z p l e b v r om oa ol oc d.rows _ (h.rows.1.below (ak))).mono ?_;rintro e' w1 ⟨rfl,hb1⟩;obtain⟨hc1,hf1,hs1⟩:=ac hb1;have hz10:w.heap.size<w1.heap.size:=(by have h9:=hb1.size;(try simp at h9);omega);have hz11:w.heap.size+1<w1.heap.size:=(by have h9:=hb1.size;(try simp at h9);omega))
   |(go_at_call 63;refine(al _ _ _ _).mono ?_;rintro e' w2 ⟨rfl,hw⟩;obtain rfl:=hw.symm;clear hw)
   |(go_at_call 109;refine(cV pn pa pl pc la ll lc d.panes d.lates _ (h.panes.1.below (ak)) (h.lates.1.below (ak))).mono ?_;rintro e' w3 ⟨rfl,hb3⟩;obtain⟨hc3,hf3,hs3⟩:=ac hb3;have hz30:w.heap.size<w3.heap.size:=(by have h9:=hb3.size;(try simp at h9);omega);have hz31:w.heap.size+1<w3.heap.size:=(by have h9:=hb3.size;(try simp at h9);omega)))
  go_ret
  exact⟨af (aa HE).symm,(ak)⟩
 cases q4:bj pn d.panes d.lates
 ·have HE:Hid (bc s t k z p l e v r om wl pn d=false):=ab (by unfold bc;rw[q1,d2,q3,q4];rfl)
  go_enter Tryz.func64,Tryz.ntmps64
  go_wp2_with (first
   |(go_at_call 108;refine(bm s t k z p l e b v r om oa ol oc d.rows _ (h.rows.1.below (ak))).mono ?_;rintro e' w1 ⟨rfl,hb1⟩;obtain⟨hc1,hf1,hs1⟩:=ac hb1;have hz10:w.heap.size<w1.heap.size:=(by have h9:=hb1.size;(try simp at h9);omega);have hz11:w.heap.size+1<w1.heap.size:=(by have h9:=hb1.size;(try simp at h9);omega))
   |(go_at_call 63;refine(al _ _ _ _).mono ?_;rintro e' w2 ⟨rfl,hw⟩;obtain rfl:=hw.symm;clear hw)
   |(go_at_call 109;refine(cV pn pa pl pc la ll lc d.panes d.lates _ (h.panes.1.below (ak)) (h.lates.1.below (ak))).mono ?_;rintro e' w3 ⟨rfl,hb3⟩;obtain⟨hc3,hf3,hs3⟩:=ac hb3;have hz30:w.heap.size<w3.heap.size:=(by have h9:=hb3.size;(try simp at h9);omega);have hz31:w.heap.size+1<w3.heap.size:=(by have h9:=hb3.size;(try simp at h9);omega)))
  go_ret
  exact⟨af (aa HE).symm,(ak)⟩
 by_cases q5:pn=0
 rotate_left
 ·have q5':(pn==0)=false:=beq_eq_false_iff_ne.2 q5
  have q5n:(pn != 0)=true:=by simp[q5]
  have HE:Hid (bc s t k z p l e v r om wl pn d=false):=ab (by unfold bc;rw[q1,d2,q3,q4,q5'];rfl)
  go_enter Tryz.func64,Tryz.ntmps64
  go_wp2_with (first
   |(go_at_call 108;refine(bm s t k z p l e b v r om oa ol oc d.rows _ (h.rows.1.below (ak))).mono ?_;rintro e' w1 ⟨rfl,hb1⟩;obtain⟨hc1,hf1,hs1⟩:=ac hb1;have hz10:w.heap.size<w1.heap.size:=(by have h9:=hb1.size;(try simp at h9);omega);have hz11:w.heap.size+1<w1.heap.size:=(by have h9:=hb1.size;(try simp at h9);omega))
   |(go_at_call 63;refine(al _ _ _ _).mono ?_;rintro e' w2 ⟨rfl,hw⟩;obtain rfl:=hw.symm;clear hw)
   |(go_at_call 109;refine(cV pn pa pl pc la ll lc d.panes d.lates _ (h.panes.1.below (ak)) (h.lates.1.below (ak))).mono ?_;rintro e' w3 ⟨rfl,hb3⟩;obtain⟨hc3,hf3,hs3⟩:=ac hb3;have hz30:w.heap.size<w3.heap.size:=(by have h9:=hb3.size;(try simp at h9);omega);have hz31:w.heap.size+1<w3.heap.size:=(by have h9:=hb3.size;(try simp at h9);omega)))
  go_ret
  exact⟨af (aa HE).symm,(ak)⟩
 have HV:Hid (bc s t k z p l e v r om wl pn d=(d.ins.all (bH.okB r)&&decide (aY d.ins<d.ins.length)&&(om==ci d.ins))):=ab (by unfold bc;rw[q1,d2,q3,q4,beq_iff_eq.2 q5];rfl)
 have q5':(pn==0)=true:=beq_iff_eq.2 q5
 have q5n:(pn != 0)=false:=by simp[q5]
 clear q5
 have hI0:=h.ins.below hbb
 go_enter Tryz.func64,Tryz.ntmps64
 go_wp2_with (first
  |(go_at_call 108;refine(bm s t k z p l e b v r om oa ol oc d.rows _ (h.rows.1.below (ak))).mono ?_;rintro e' w1 ⟨rfl,hb1⟩;obtain⟨hc1,hf1,hs1⟩:=ac hb1;have hz10:w.heap.size<w1.heap.size:=(by have h9:=hb1.size;(try simp at h9);omega);have hz11:w.heap.size+1<w1.heap.size:=(by have h9:=hb1.size;(try simp at h9);omega))
  |(go_at_call 63;refine(al _ _ _ _).mono ?_;rintro e' w2 ⟨rfl,hw⟩;obtain rfl:=hw.symm;clear hw)
  |(go_at_call 109;refine(cV pn pa pl pc la ll lc d.panes d.lates _ (h.panes.1.below (ak)) (h.lates.1.below (ak))).mono ?_;rintro e' w3 ⟨rfl,hb3⟩;obtain⟨hc3,hf3,hs3⟩:=ac hb3;have hz30:w.heap.size<w3.heap.size:=(by have h9:=hb3.size;(try simp at h9);omega);have hz31:w.heap.size+1<w3.heap.size:=(by have h9:=hb3.size;(try simp at h9);omega)))
 have hst:Below ((w.alloc (.cells #[.int .i64 s,.int .i64 t,.int .i64 k,.int .i64 z,.int .i64 p,.int .i64 l,.int .i64 e,.bool b,.int .i64 v,.int .i64 r] 40)).alloc (.cells #[.slice ia il ic,.int .i64 om,.slice oa ol oc,.int .i64 wl,.int .i64 pn,.slice pa pl pc,.slice la ll lc] 140)).heap.size ((w.alloc (.cells #[.int .i64 s,.int .i64 t,.int .i64 k,.int .i64 z,.int .i64 p,.int .i64 l,.int .i64 e,.bool b,.int .i64 v,.int .i64 r] 40)).alloc (.cells #[.slice ia il ic,.int .i64 om,.slice oa ol oc,.int .i64 wl,.int .i64 pn,.slice pa pl pc,.slice la ll lc] 140)) w3:=(ak)
 clear q1 q2' q2n d2 q3 q4 q5' hc1 hf1 hs1 hc3 hf3 hs3 hz10 hz11 hz30 hz31 hb1 hb3
 go_loopw [5] (fun i wr=>∃ix:Nat,ix≤il∧i= .int .i64 ix∧Hid ((d.ins.take ix).all (bH.okB r)=true)∧Below ((w.alloc (.cells #[.int .i64 s,.int .i64 t,.int .i64 k,.int .i64 z,.int .i64 p,.int .i64 l,.int .i64 e,.bool b,.int .i64 v,.int .i64 r] 40)).alloc (.cells #[.slice ia il ic,.int .i64 om,.slice oa ol oc,.int .i64 wl,.int .i64 pn,.slice pa pl pc,.slice la ll lc] 140)).heap.size ((w.alloc (.cells #[.int .i64 s,.int .i64 t,.int .i64 k,.int .i64 z,.int .i64 p,.int .i64 l,.int .i64 e,.bool b,.int .i64 v,.int .i64 r] 40)).alloc (.cells #[.slice ia il ic,.int .i64 om,.slice oa ol oc,.int .i64 wl,.int .i64 pn,.slice pa pl pc,.slice la ll lc] 140)) wr) (fun i _=>il - (intOf i).toNat)
 case atStart=>exact⟨0,Nat.zero_le _,rfl,ab (by simp),hst⟩
 case round=>
  clear hst
  obtain⟨ix,hk,rfl,hA,hbw⟩:=hrel
  have jb0:wr.cell? ⟨w.heap.size,0,none⟩=some (.int .i64 s):=(hbw.cell (p:=⟨w.heap.size,0,none⟩) (jH)).trans (jI)
  have jb1:wr.cell? ⟨w.heap.size,1,none⟩=some (.int .i64 t):=(hbw.cell (p:=⟨w.heap.size,1,none⟩) (jH)).trans (jI)
  have jb2:wr.cell? ⟨w.heap.size,2,none⟩=some (.int .i64 k):=(hbw.cell (p:=⟨w.heap.size,2,none⟩) (jH)).trans (jI)
  have jb3:wr.cell? ⟨w.heap.size,3,none⟩=some (.int .i64 z):=(hbw.cell (p:=⟨w.heap.size,3,none⟩) (jH)).trans (jI)
  have jb4:wr.cell? ⟨w.heap.size,4,none⟩=some (.int .i64 p):=(hbw.cell (p:=⟨w.heap.size,4,none⟩) (jH)).trans (jI)
  have jb5:wr.cell? ⟨w.heap.size,5,none⟩=some (.int .i64 l):=(hbw.cell (p:=⟨w.heap.size,5,none⟩) (jH)).trans (jI)
  have jb6:wr.cell? ⟨w.heap.size,6,none⟩=some (.int .i64 e):=(hbw.cell (p:=⟨w.heap.size,6,none⟩) (jH)).trans (jI)
  have jb7:wr.cell? ⟨w.heap.size,7,none⟩=some (.bool b):=(hbw.cell (p:=⟨w.heap.size,7,none⟩) (jH)).trans (jI)
  have jb8:wr.cell? ⟨w.heap.size,8,none⟩=some (.int .i64 v):=(hbw.cell (p:=⟨w.heap.size,8,none⟩) (jH)).trans (jI)
  have jb9:wr.cell? ⟨w.heap.size,9,none⟩=some (.int .i64 r):=(hbw.cell (p:=⟨w.heap.size,9,none⟩) (jH)).trans (jI)
  have tb0:wr.cell? ⟨w.heap.size+1,0,none⟩=some (.slice ia il ic):=(hbw.cell (p:=⟨w.heap.size+1,0,none⟩) (jH)).trans (jI)
  have tb1:wr.cell? ⟨w.heap.size+1,1,none⟩=some (.int .i64 om):=(hbw.cell (p:=⟨w.heap.size+1,1,none⟩) (jH)).trans (jI)
  have tb2:wr.cell? ⟨w.heap.size+1,2,none⟩=some (.slice oa ol oc):=(hbw.cell (p:=⟨w.heap.size+1,2,none⟩) (jH)).trans (jI)
  have tb3:wr.cell? ⟨w.heap.size+1,3,none⟩=some (.int .i64 wl):=(hbw.cell (p:=⟨w.heap.size+1,3,none⟩) (jH)).trans (jI)
  have tb4:wr.cell? ⟨w.heap.size+1,4,none⟩=some (.int .i64 pn):=(hbw.cell (p:=⟨w.heap.size+1,4,none⟩) (jH)).trans (jI)
  have tb5:wr.cell? ⟨w.heap.size+1,5,none⟩=some (.slice pa pl pc):=(hbw.cell (p:=⟨w.heap.size+1,5,none⟩) (jH)).trans (jI)
  have tb6:wr.cell? ⟨w.heap.size+1,6,none⟩=some (.slice la ll lc):=(hbw.cell (p:=⟨w.heap.size+1,6,none⟩) (jH)).trans (jI)
  have y0:w.heap.size<wr.heap.size:=by have h9:=hbw.size;simp at h9;omega
  have y1:w.heap.size+1<wr.heap.size:=by have h9:=hbw.size;simp at h9;omega
  by_cases hlt:ix<il
  ·obtain⟨hxl,_,hx⟩:=hI0
   obtain⟨g,o,rfl,_,hrr⟩:=hx.resolve_left (by omega)
   obtain⟨x,hxk⟩:∃x,d.ins[ix]? =some x:=⟨_,List.getElem?_eq_getElem (by omega)⟩
   have hX:=ab hxk
   have t1:=(hrr ix _ hxk).below hbw
   have hg:=t1.lt
   obtain⟨qa,ql,qc,c0,c1,c2,hqi,_⟩:=t1
   clear hx hxk hrr
   cases hB:x.okB r
   ·have HE:Hid (bc s t k z p l e v r om wl pn d=false):=ab ((aa HV).trans (by rw[all_ff (p:=bH.okB r) (aa hX) hB];rfl))
    go_wp2_with fail
    go_region_held3 (fun W=>((W.cell? ⟨w.heap.size,0,none⟩=some (.int .i64 s)∧W.cell? ⟨w.heap.size,1,none⟩=some (.int .i64 t)∧W.cell? ⟨w.heap.size,2,none⟩=some (.int .i64 k)∧W.cell? ⟨w.heap.size,3,none⟩=some (.int .i64 z)∧W.cell? ⟨w.heap.size,4,none⟩=some (.int .i64 p)∧W.cell? ⟨w.heap.size,5,none⟩=some (.int .i64 l)∧W.cell? ⟨w.heap.size,6,none⟩=some (.int .i64 e)∧W.cell? ⟨w.heap.size,7,none⟩=some (.bool b)∧W.cell? ⟨w.heap.size,8,none⟩=some (.int .i64 v)∧W.cell? ⟨w.heap.size,9,none⟩=some (.int .i64 r)∧W.cell? ⟨w.heap.size+1,0,none⟩=some (.slice (some ⟨g,o,none⟩) il ic)∧W.cell? ⟨w.heap.size+1,1,none⟩=some (.int .i64 om)∧W.cell? ⟨w.heap.size+1,2,none⟩=some (.slice oa ol oc)∧W.cell? ⟨w.heap.size+1,3,none⟩=some (.int .i64 wl)∧W.cell? ⟨w.heap.size+1,4,none⟩=some (.int .i64 pn)∧W.cell? ⟨w.heap.size+1,5,none⟩=some (.slice pa pl pc)∧W.cell? ⟨w.heap.size+1,6,none⟩=some (.slice la ll lc)∧W.cell? ⟨g,o+ix*3,none⟩=some (.slice qa ql qc)∧W.cell? ⟨g,o+ix*3+1,none⟩=some (.int .i64 x.ma)∧W.cell? ⟨g,o+ix*3+2,none⟩=some (.bool x.hd))∧w.heap.size<W.heap.size∧w.heap.size+1<W.heap.size∧g<W.heap.size)) ((first|((repeat(first|(with_reducible assumption)|(with_reducible refine dv ?_ (jF))|(with_reducible refine dv ?_ (aj (Below.refl _ _)))|(with_reducible refine dv ?_ (ai _ _))));done)|(refine⟨⟨?_,?_,?_,?_,?_,?_,?_,?_,?_,?_,?_,?_,?_,?_,?_,?_,?_,?_,?_,?_⟩,?_,?_,?_⟩<;>first|(go_keep;done)|(simp;done)|(simp;omega)|omega)))
     (first
     |(go_at_call 110;refine(l8In_any s t k z p l e b v r x qa ql qc _ (hqi.below (ak))).mono ?_;rintro e' wf ⟨rfl,hb⟩;obtain⟨hc,hf,hs⟩:=ac hb))
    go_wp2
    go_ret
    exact⟨af (aa HE).symm,(ak)⟩
   ·have HE:Hid ((d.ins.take (ix+1)).all (bH.okB r)=true):=ab (all_tt (aa hA) (aa hX) hB)
    go_wp2_with fail
    go_region_held3 (fun W=>((W.cell? ⟨w.heap.size,0,none⟩=some (.int .i64 s)∧W.cell? ⟨w.heap.size,1,none⟩=some (.int .i64 t)∧W.cell? ⟨w.heap.size,2,none⟩=some (.int .i64 k)∧W.cell? ⟨w.heap.size,3,none⟩=some (.int .i64 z)∧W.cell? ⟨w.heap.size,4,none⟩=some (.int .i64 p)∧W.cell? ⟨w.heap.size,5,none⟩=some (.int .i64 l)∧W.cell? ⟨w.heap.size,6,none⟩=some (.int .i64 e)∧W.cell? ⟨w.heap.size,7,none⟩=some (.bool b)∧W.cell? ⟨w.heap.size,8,none⟩=some (.int .i64 v)∧W.cell? ⟨w.heap.size,9,none⟩=some (.int .i64 r)∧W.cell? ⟨w.heap.size+1,0,none⟩=some (.slice (some ⟨g,o,none⟩) il ic)∧W.cell? ⟨w.heap.size+1,1,none⟩=some (.int .i64 om)∧W.cell? ⟨w.heap.size+1,2,none⟩=some (.slice oa ol oc)∧W.cell? ⟨w.heap.size+1,3,none⟩=some (.int .i64 wl)∧W.cell? ⟨w.heap.size+1,4,none⟩=some (.int .i64 pn)∧W.cell? ⟨w.heap.size+1,5,none⟩=some (.slice pa pl pc)∧W.cell? ⟨w.heap.size+1,6,none⟩=some (.slice la ll lc)∧W.cell? ⟨g,o+ix*3,none⟩=some (.slice qa ql qc)∧W.cell? ⟨g,o+ix*3+1,none⟩=some (.int .i64 x.ma)∧W.cell? ⟨g,o+ix*3+2,none⟩=some (.bool x.hd))∧w.heap.size<W.heap.size∧w.heap.size+1<W.heap.size∧g<W.heap.size)) ((first|((repeat(first|(with_reducible assumption)|(with_reducible refine dv ?_ (jF))|(with_reducible refine dv ?_ (aj (Below.refl _ _)))|(with_reducible refine dv ?_ (ai _ _))));done)|(refine⟨⟨?_,?_,?_,?_,?_,?_,?_,?_,?_,?_,?_,?_,?_,?_,?_,?_,?_,?_,?_,?_⟩,?_,?_,?_⟩<;>first|(go_keep;done)|(simp;done)|(simp;omega)|omega)))
     (first
     |(go_at_call 110;refine(l8In_any s t k z p l e b v r x qa ql qc _ (hqi.below (ak))).mono ?_;rintro e' wf ⟨rfl,hb⟩;obtain⟨hc,hf,hs⟩:=ac hb))
    go_wp2
    go_roundw
    case rel=>exact⟨ix+1,by omega,by go_num,HE,(ak)⟩
    case measure=>simp[intOf];omega
  ·have HA2:Hid (d.ins.all (bH.okB r)=true):=ab (by have h1:=aa hA;rwa [List.take_of_length_le (by omega)]at h1)
   clear hA
   have hI:=hI0.below hbw
   by_cases hh:aY d.ins<(il:Int)
   ·by_cases hl:om=ci d.ins
    ·have HE:Hid (bc s t k z p l e v r om wl pn d=true):=ab ((aa HV).trans (by rw[aa HA2,decide_eq_true (show aY d.ins<(d.ins.length:Int) by omega),beq_iff_eq.2 hl];rfl))
     have hl':(om==ci d.ins)=true:=beq_iff_eq.2 hl
     clear hl
     go_wp2_with fail
     refine wp_region_held_drew (S:=(fun W=>((W.cell? ⟨w.heap.size,0,none⟩=some (.int .i64 s)∧W.cell? ⟨w.heap.size,1,none⟩=some (.int .i64 t)∧W.cell? ⟨w.heap.size,2,none⟩=some (.int .i64 k)∧W.cell? ⟨w.heap.size,3,none⟩=some (.int .i64 z)∧W.cell? ⟨w.heap.size,4,none⟩=some (.int .i64 p)∧W.cell? ⟨w.heap.size,5,none⟩=some (.int .i64 l)∧W.cell? ⟨w.heap.size,6,none⟩=some (.int .i64 e)∧W.cell? ⟨w.heap.size,7,none⟩=some (.bool b)∧W.cell? ⟨w.heap.size,8,none⟩=some (.int .i64 v)∧W.cell? ⟨w.heap.size,9,none⟩=some (.int .i64 r)∧W.cell? ⟨w.heap.size+1,0,none⟩=some (.slice ia il ic)∧W.cell? ⟨w.heap.size+1,1,none⟩=some (.int .i64 om)∧W.cell? ⟨w.heap.size+1,2,none⟩=some (.slice oa ol oc)∧W.cell? ⟨w.heap.size+1,3,none⟩=some (.int .i64 wl)∧W.cell? ⟨w.heap.size+1,4,none⟩=some (.int .i64 pn)∧W.cell? ⟨w.heap.size+1,5,none⟩=some (.slice pa pl pc)∧W.cell? ⟨w.heap.size+1,6,none⟩=some (.slice la ll lc))∧w.heap.size<W.heap.size∧w.heap.size+1<W.heap.size))) (jK) ?_ (fun hHeld=>?_)
     ·(try dsimp only);((first|((repeat(first|(with_reducible assumption)|(with_reducible refine aq ?_ (jF))|(with_reducible refine aq ?_ (aj (Below.refl _ _)))|(with_reducible refine aq ?_ (ai _ _))));done)|(refine⟨⟨?_,?_,?_,?_,?_,?_,?_,?_,?_,?_,?_,?_,?_,?_,?_,?_,?_⟩,?_,?_⟩<;>first|(go_keep;done)|(simp;done)|(simp;omega)|omega)))
     refine kV 0 ?_
     refine kV 2 ?_
     refine kV 3 ?_
     refine kV 4 ?_
     refine rD 1 (fun K hK=>?_)
     go_simp
     (go_at_call 111;refine(ec ia il ic om oa ol oc wl pn pa pl pc la ll lc _ d.ins _ (hI.below (ak))).mono ?_;rintro e' w8 ⟨rfl,hb8⟩;obtain⟨hc8,hf8,hs8⟩:=ac hb8)
     (try go_wp2_with fail)
     refine hK.out _ _ ?_ (fun jB=>?_)
     ·(try dsimp only);((first|((repeat(first|(with_reducible assumption)|(with_reducible refine aq ?_ (jF))|(with_reducible refine aq ?_ (aj (Below.refl _ _)))|(with_reducible refine aq ?_ (ai _ _))));done)|(refine⟨⟨?_,?_,?_,?_,?_,?_,?_,?_,?_,?_,?_,?_,?_,?_,?_,?_,?_⟩,?_,?_⟩<;>first|(go_keep;done)|(simp;done)|(simp;omega)|omega)))
     clear hK K hHeld
     have hHeld:=jB
     clear jB
     try simp only[Act.put,tA,tZ,tS]
     refine kV 5 ?_
     refine kV 6 ?_
     refine kV 7 ?_
     refine kV 8 ?_
     refine kV 9 ?_
     refine kV 10 ?_
     refine rD 11 (fun K hK=>?_)
     go_simp
     (go_at_call 112;refine(gz ia il ic om oa ol oc wl pn pa pl pc la ll lc _ d.ins _ (hI.below (ak))).mono ?_;rintro e' w9 ⟨rfl,hb9⟩;obtain⟨hc9,hf9,hs9⟩:=ac hb9)
     (try go_wp2_with fail)
     refine hK.out _ _ ?_ (fun jB=>?_)
     ·(try dsimp only);((first|((repeat(first|(with_reducible assumption)|(with_reducible refine aq ?_ (jF))|(with_reducible refine aq ?_ (aj (Below.refl _ _)))|(with_reducible refine aq ?_ (ai _ _))));done)|(refine⟨⟨?_,?_,?_,?_,?_,?_,?_,?_,?_,?_,?_,?_,?_,?_,?_,?_,?_⟩,?_,?_⟩<;>first|(go_keep;done)|(simp;done)|(simp;omega)|omega)))
     clear hK K hHeld
     have hHeld:=jB
     clear jB
     try simp only[Act.put,tA,tZ,tS]
     refine kV 12 ?_
     refine kV 13 ?_
     refine kV 14 ?_
     refine wpAnyH_done (jK) ?_ _
     go_wp2
     go_ret
     exact⟨af (aa HE).symm,(ak)⟩
    ·have HE:Hid (bc s t k z p l e v r om wl pn d=false):=ab ((aa HV).trans (by rw[aa HA2,beq_eq_false_iff_ne.2 hl,Bool.and_false]))
     have hl':(om==ci d.ins)=false:=beq_eq_false_iff_ne.2 hl
     clear hl
     go_wp2_with fail
     refine wp_region_held_drew (S:=(fun W=>((W.cell? ⟨w.heap.size,0,none⟩=some (.int .i64 s)∧W.cell? ⟨w.heap.size,1,none⟩=some (.int .i64 t)∧W.cell? ⟨w.heap.size,2,none⟩=some (.int .i64 k)∧W.cell? ⟨w.heap.size,3,none⟩=some (.int .i64 z)∧W.cell? ⟨w.heap.size,4,none⟩=some (.int .i64 p)∧W.cell? ⟨w.heap.size,5,none⟩=some (.int .i64 l)∧W.cell? ⟨w.heap.size,6,none⟩=some (.int .i64 e)∧W.cell? ⟨w.heap.size,7,none⟩=some (.bool b)∧W.cell? ⟨w.heap.size,8,none⟩=some (.int .i64 v)∧W.cell? ⟨w.heap.size,9,none⟩=some (.int .i64 r)∧W.cell? ⟨w.heap.size+1,0,none⟩=some (.slice ia il ic)∧W.cell? ⟨w.heap.size+1,1,none⟩=some (.int .i64 om)∧W.cell? ⟨w.heap.size+1,2,none⟩=some (.slice oa ol oc)∧W.cell? ⟨w.heap.size+1,3,none⟩=some (.int .i64 wl)∧W.cell? ⟨w.heap.size+1,4,none⟩=some (.int .i64 pn)∧W.cell? ⟨w.heap.size+1,5,none⟩=some (.slice pa pl pc)∧W.cell? ⟨w.heap.size+1,6,none⟩=some (.slice la ll lc))∧w.heap.size<W.heap.size∧w.heap.size+1<W.heap.size))) (jK) ?_ (fun hHeld=>?_)
     ·(try dsimp only);((first|((repeat(first|(with_reducible assumption)|(with_reducible refine aq ?_ (jF))|(with_reducible refine aq ?_ (aj (Below.refl _ _)))|(with_reducible refine aq ?_ (ai _ _))));done)|(refine⟨⟨?_,?_,?_,?_,?_,?_,?_,?_,?_,?_,?_,?_,?_,?_,?_,?_,?_⟩,?_,?_⟩<;>first|(go_keep;done)|(simp;done)|(simp;omega)|omega)))
     refine kV 0 ?_
     refine kV 2 ?_
     refine kV 3 ?_
     refine kV 4 ?_
     refine rD 1 (fun K hK=>?_)
     go_simp
     (go_at_call 111;refine(ec ia il ic om oa ol oc wl pn pa pl pc la ll lc _ d.ins _ (hI.below (ak))).mono ?_;rintro e' w8 ⟨rfl,hb8⟩;obtain⟨hc8,hf8,hs8⟩:=ac hb8)
     (try go_wp2_with fail)
     refine hK.out _ _ ?_ (fun jB=>?_)
     ·(try dsimp only);((first|((repeat(first|(with_reducible assumption)|(with_reducible refine aq ?_ (jF))|(with_reducible refine aq ?_ (aj (Below.refl _ _)))|(with_reducible refine aq ?_ (ai _ _))));done)|(refine⟨⟨?_,?_,?_,?_,?_,?_,?_,?_,?_,?_,?_,?_,?_,?_,?_,?_,?_⟩,?_,?_⟩<;>first|(go_keep;done)|(simp;done)|(simp;omega)|omega)))
     clear hK K hHeld
     have hHeld:=jB
     clear jB
     try simp only[Act.put,tA,tZ,tS]
     refine kV 5 ?_
     refine kV 6 ?_
     refine kV 7 ?_
     refine kV 8 ?_
     refine kV 9 ?_
     refine kV 10 ?_
     refine rD 11 (fun K hK=>?_)
     go_simp
     (go_at_call 112;refine(gz ia il ic om oa ol oc wl pn pa pl pc la ll lc _ d.ins _ (hI.below (ak))).mono ?_;rintro e' w9 ⟨rfl,hb9⟩;obtain⟨hc9,hf9,hs9⟩:=ac hb9)
     (try go_wp2_with fail)
     refine hK.out _ _ ?_ (fun jB=>?_)
     ·(try dsimp only);((first|((repeat(first|(with_reducible assumption)|(with_reducible refine aq ?_ (jF))|(with_reducible refine aq ?_ (aj (Below.refl _ _)))|(with_reducible refine aq ?_ (ai _ _))));done)|(refine⟨⟨?_,?_,?_,?_,?_,?_,?_,?_,?_,?_,?_,?_,?_,?_,?_,?_,?_⟩,?_,?_⟩<;>first|(go_keep;done)|(simp;done)|(simp;omega)|omega)))
     clear hK K hHeld
     have hHeld:=jB
     clear jB
     try simp only[Act.put,tA,tZ,tS]
     refine kV 12 ?_
     refine kV 13 ?_
     refine kV 14 ?_
     refine wpAnyH_done (jK) ?_ _
     go_wp2
     go_ret
     exact⟨af (aa HE).symm,(ak)⟩
   ·have HE:Hid (bc s t k z p l e v r om wl pn d=false):=ab ((aa HV).trans (by rw[aa HA2,decide_eq_false (show ¬ aY d.ins<(d.ins.length:Int) by omega)];rfl))
    have hh':decide (aY d.ins<(il:Int))=false:=decide_eq_false hh
    go_wp2_with fail
    refine wp_region_held_drew (S:=(fun W=>((W.cell? ⟨w.heap.size,0,none⟩=some (.int .i64 s)∧W.cell? ⟨w.heap.size,1,none⟩=some (.int .i64 t)∧W.cell? ⟨w.heap.size,2,none⟩=some (.int .i64 k)∧W.cell? ⟨w.heap.size,3,none⟩=some (.int .i64 z)∧W.cell? ⟨w.heap.size,4,none⟩=some (.int .i64 p)∧W.cell? ⟨w.heap.size,5,none⟩=some (.int .i64 l)∧W.cell? ⟨w.heap.size,6,none⟩=some (.int .i64 e)∧W.cell? ⟨w.heap.size,7,none⟩=some (.bool b)∧W.cell? ⟨w.heap.size,8,none⟩=some (.int .i64 v)∧W.cell? ⟨w.heap.size,9,none⟩=some (.int .i64 r)∧W.cell? ⟨w.heap.size+1,0,none⟩=some (.slice ia il ic)∧W.cell? ⟨w.heap.size+1,1,none⟩=some (.int .i64 om)∧W.cell? ⟨w.heap.size+1,2,none⟩=some (.slice oa ol oc)∧W.cell? ⟨w.heap.size+1,3,none⟩=some (.int .i64 wl)∧W.cell? ⟨w.heap.size+1,4,none⟩=some (.int .i64 pn)∧W.cell? ⟨w.heap.size+1,5,none⟩=some (.slice pa pl pc)∧W.cell? ⟨w.heap.size+1,6,none⟩=some (.slice la ll lc))∧w.heap.size<W.heap.size∧w.heap.size+1<W.heap.size))) (jK) ?_ (fun hHeld=>?_)
    ·(try dsimp only);((first|((repeat(first|(with_reducible assumption)|(with_reducible refine aq ?_ (jF))|(with_reducible refine aq ?_ (aj (Below.refl _ _)))|(with_reducible refine aq ?_ (ai _ _))));done)|(refine⟨⟨?_,?_,?_,?_,?_,?_,?_,?_,?_,?_,?_,?_,?_,?_,?_,?_,?_⟩,?_,?_⟩<;>first|(go_keep;done)|(simp;done)|(simp;omega)|omega)))
    refine kV 0 ?_
    refine kV 2 ?_
    refine kV 3 ?_
    refine kV 4 ?_
    refine rD 1 (fun K hK=>?_)
    go_simp
    (go_at_call 111;refine(ec ia il ic om oa ol oc wl pn pa pl pc la ll lc _ d.ins _ (hI.below (ak))).mono ?_;rintro e' w8 ⟨rfl,hb8⟩;obtain⟨hc8,hf8,hs8⟩:=ac hb8)
    (try go_wp2_with fail)
    refine hK.out _ _ ?_ (fun jB=>?_)
    ·(try dsimp only);((first|((repeat(first|(with_reducible assumption)|(with_reducible refine aq ?_ (jF))|(with_reducible refine aq ?_ (aj (Below.refl _ _)))|(with_reducible refine aq ?_ (ai _ _))));done)|(refine⟨⟨?_,?_,?_,?_,?_,?_,?_,?_,?_,?_,?_,?_,?_,?_,?_,?_,?_⟩,?_,?_⟩<;>first|(go_keep;done)|(simp;done)|(simp;omega)|omega)))
    clear hK K hHeld
    have hHeld:=jB
    clear jB
    try simp only[Act.put,tA,tZ,tS]
    refine kV 5 ?_
    refine kV 6 ?_
    refine kU 7 ?_
    try simp only[Act.put,tA,tZ,tS]
    refine kU 8 ?_
    try simp only[Act.put,tA,tZ,tS]
    refine kU 9 ?_
    try simp only[Act.put,tA,tZ,tS]
    refine kU 10 ?_
    try simp only[Act.put,tA,tZ,tS]
    refine kU 11 ?_
    try simp only[Act.put,tA,tZ,tS]
    refine kU 12 ?_
    try simp only[Act.put,tA,tZ,tS]
    refine kV 13 ?_
    refine kV 14 ?_
    refine wpAnyH_done (jK) ?_ _
    go_wp2
    go_ret
    exact⟨af (aa HE).symm,(ak)⟩
end Go.Proofs.YtealpjmannopeaaGreat
