/- Laid together: what the claim needs of the texts that were built one by one. -/
import Derived.Test.YtealpjmannopeaaGreatX14
import Derived.Test.YtealpjmannopeaaGreatX21
import Derived.Deep.RegionHeld3
import Derived.Test.YtealpjmannopeaaGreatX0
set_option linter.unusedVariables false
namespace Go.Proofs.YtealpjmannopeaaGreat
open Go.ChangeShapes Go.WideShapes Go.ChangeAt Go.RowKit
theorem dV(n:Int)(w:World):Calls Tryz.prog 182 #[.int .i64 n] w fun e w'=>e= .returned (.bool (aP n 0 1000))∧w'=w:=by
 go_enter Tryz.func182,Tryz.ntmps182
 go_wp2_with (go_at_call 126;refine(ah _ _ _ _).mono ?_;rintro e' w1 ⟨rfl,hw⟩;obtain rfl:=hw.symm;clear hw)
 go_ret
 exact⟨rfl,rfl⟩
set_option maxRecDepth 20000 in
set_option maxHeartbeats 1000000 in
theorem inok_any(x:bH)(qa:Option Addr)(ql qc:Nat)(r:Int)(w:World)(h:bG w qa ql x.q):Calls Tryz.prog 167 #[.agg #[.slice qa ql qc,.int .i64 x.ma,.bool x.hd],.int .i64 r] w fun e' w'=>e'= .returned (.bool (x.okB r))∧Below w.heap.size w w':=by
 have hm:=h.2.1
 have hlen:=h.1
 unfold maxLen at hm
 by_cases hr:(ql:Int)≤r
 ·have hd1:decide ((x.q.length:Int)≤r)=true:=decide_eq_true (by omega)
  cases hA:x.q.all bF.okB
  ·have HE:Hid (x.okB r=false):=ab (by unfold bH.okB;rw[hA,Bool.and_false])
   go_enter Tryz.func167,Tryz.ntmps167
   go_wp2_with (first
    |(go_at_call 189;refine(dR qa ql qc x.q _ (h.below (ak))).mono ?_;rintro e' w2 ⟨rfl,hb2⟩;obtain⟨hc2,hf2,hs2⟩:=ac hb2;have hz2:w.heap.size<w2.heap.size:=(by have h9:=hb2.size;(try simp at h9);omega))
    |(go_at_call 182;refine(dV _ _).mono ?_;rintro e' w3 ⟨rfl,hw⟩;obtain rfl:=hw.symm;clear hw))
   go_ret
   exact⟨af (aa HE).symm,(ak)⟩
  ·cases hi:aP x.ma 0 1000
   ·have HE:Hid (x.okB r=false):=ab (by unfold bH.okB;rw[hd1,hi];rfl)
    go_enter Tryz.func167,Tryz.ntmps167
    go_wp2_with (first
     |(go_at_call 189;refine(dR qa ql qc x.q _ (h.below (ak))).mono ?_;rintro e' w2 ⟨rfl,hb2⟩;obtain⟨hc2,hf2,hs2⟩:=ac hb2;have hz2:w.heap.size<w2.heap.size:=(by have h9:=hb2.size;(try simp at h9);omega))
     |(go_at_call 182;refine(dV _ _).mono ?_;rintro e' w3 ⟨rfl,hw⟩;obtain rfl:=hw.symm;clear hw))
    go_ret
    exact⟨af (aa HE).symm,(ak)⟩
   ·have HE:Hid (x.okB r=true):=ab (by unfold bH.okB;rw[hd1,hi,hA];rfl)
    go_enter Tryz.func167,Tryz.ntmps167
    go_wp2_with (first
     |(go_at_call 189;refine(dR qa ql qc x.q _ (h.below (ak))).mono ?_;rintro e' w2 ⟨rfl,hb2⟩;obtain⟨hc2,hf2,hs2⟩:=ac hb2;have hz2:w.heap.size<w2.heap.size:=(by have h9:=hb2.size;(try simp at h9);omega))
     |(go_at_call 182;refine(dV _ _).mono ?_;rintro e' w3 ⟨rfl,hw⟩;obtain rfl:=hw.symm;clear hw))
    go_ret
    exact⟨af (aa HE).symm,(ak)⟩
 ·have hr':decide ((ql:Int)≤r)=false:=decide_eq_false hr
  have HE:Hid (x.okB r=false):=ab (by unfold bH.okB;rw[decide_eq_false (by omega)];rfl)
  go_enter Tryz.func167,Tryz.ntmps167
  go_wp2_with (first
   |(go_at_call 189;refine(dR qa ql qc x.q _ (h.below (ak))).mono ?_;rintro e' w2 ⟨rfl,hb2⟩;obtain⟨hc2,hf2,hs2⟩:=ac hb2;have hz2:w.heap.size<w2.heap.size:=(by have h9:=hb2.size;(try simp at h9);omega))
   |(go_at_call 182;refine(dV _ _).mono ?_;rintro e' w3 ⟨rfl,hw⟩;obtain rfl:=hw.symm;clear hw))
  go_ret
  exact⟨af (aa HE).symm,(ak)⟩
set_option maxRecDepth 20000 in
set_option maxHeartbeats 1000000 in
theorem fq(n:Int)(pa:Option Addr)(pl pc:Nat)(la:Option Addr)(ll lc:Nat)(ps:List cx)(ls:List cq)(w:World)(h1:eS w pa pl ps)(h2:eT w la ll ls):Calls Tryz.prog 169 #[.agg #[.int .i64 n,.slice pa pl pc,.slice la ll lc]] w fun e' w'=>e'= .returned (.bool (bj n ps ls))∧Below w.heap.size w w':=by
 have hm1:=h1.2.1
 have hm2:=h2.2.1
 have le1:=h1.1
 have le2:=h2.1
 unfold maxLen at hm1 hm2
 cases hi:aP n 0 900
 ·have HE:Hid (bj n ps ls=false):=ab (by unfold bj;rw[hi];rfl)
  go_enter Tryz.func169,Tryz.ntmps169
  go_wp2_with (first
   |(go_at_call 126;refine(ah _ _ _ _).mono ?_;rintro e' w1 ⟨rfl,hw⟩;obtain rfl:=hw.symm;clear hw)
   |(go_at_call 172;refine(bw pa pl pc ps _ (h1.below (ak))).mono ?_;rintro e' w2 ⟨rfl,hb2⟩;obtain⟨hc2,hf2,hs2⟩:=ac hb2;have hz2:w.heap.size<w2.heap.size:=(by have h9:=hb2.size;(try simp at h9);omega))
   |(go_at_call 174;refine(bQ la ll lc ls _ (h2.below (ak))).mono ?_;rintro e' w3 ⟨rfl,hb3⟩;obtain⟨hc3,hf3,hs3⟩:=ac hb3;have hz3:w.heap.size<w3.heap.size:=(by have h9:=hb3.size;(try simp at h9);omega)))
  go_ret
  exact⟨af (aa HE).symm,(ak)⟩
 by_cases hp:(pl:Int)≤1500
 rotate_left
 ·have hp':decide ((pl:Int)≤1500)=false:=decide_eq_false hp
  have HE:Hid (bj n ps ls=false):=ab (by unfold bj;rw[hi,decide_eq_false (show ¬ ps.length≤1500 by omega)];rfl)
  go_enter Tryz.func169,Tryz.ntmps169
  go_wp2_with (first
   |(go_at_call 126;refine(ah _ _ _ _).mono ?_;rintro e' w1 ⟨rfl,hw⟩;obtain rfl:=hw.symm;clear hw)
   |(go_at_call 172;refine(bw pa pl pc ps _ (h1.below (ak))).mono ?_;rintro e' w2 ⟨rfl,hb2⟩;obtain⟨hc2,hf2,hs2⟩:=ac hb2;have hz2:w.heap.size<w2.heap.size:=(by have h9:=hb2.size;(try simp at h9);omega))
   |(go_at_call 174;refine(bQ la ll lc ls _ (h2.below (ak))).mono ?_;rintro e' w3 ⟨rfl,hb3⟩;obtain⟨hc3,hf3,hs3⟩:=ac hb3;have hz3:w.heap.size<w3.heap.size:=(by have h9:=hb3.size;(try simp at h9);omega)))
  go_ret
  exact⟨af (aa HE).symm,(ak)⟩
 by_cases hq:(ll:Int)≤1500
 rotate_left
 ·have hq':decide ((ll:Int)≤1500)=false:=decide_eq_false hq
  have HE:Hid (bj n ps ls=false):=ab (by unfold bj;rw[hi,decide_eq_true (show ps.length≤1500 by omega),decide_eq_false (show ¬ ls.length≤1500 by omega)];rfl)
  go_enter Tryz.func169,Tryz.ntmps169
  go_wp2_with (first
   |(go_at_call 126;refine(ah _ _ _ _).mono ?_;rintro e' w1 ⟨rfl,hw⟩;obtain rfl:=hw.symm;clear hw)
   |(go_at_call 172;refine(bw pa pl pc ps _ (h1.below (ak))).mono ?_;rintro e' w2 ⟨rfl,hb2⟩;obtain⟨hc2,hf2,hs2⟩:=ac hb2;have hz2:w.heap.size<w2.heap.size:=(by have h9:=hb2.size;(try simp at h9);omega))
   |(go_at_call 174;refine(bQ la ll lc ls _ (h2.below (ak))).mono ?_;rintro e' w3 ⟨rfl,hb3⟩;obtain⟨hc3,hf3,hs3⟩:=ac hb3;have hz3:w.heap.size<w3.heap.size:=(by have h9:=hb3.size;(try simp at h9);omega)))
  go_ret
  exact⟨af (aa HE).symm,(ak)⟩
 have e1:decide (ps.length≤1500)=true:=decide_eq_true (by omega)
 have e2:decide (ls.length≤1500)=true:=decide_eq_true (by omega)
 cases hA:ps.all cx.okB
 ·have HE:Hid (bj n ps ls=false):=ab (by unfold bj;rw[hi,e1,e2,hA];rfl)
  go_enter Tryz.func169,Tryz.ntmps169
  go_wp2_with (first
   |(go_at_call 126;refine(ah _ _ _ _).mono ?_;rintro e' w1 ⟨rfl,hw⟩;obtain rfl:=hw.symm;clear hw)
   |(go_at_call 172;refine(bw pa pl pc ps _ (h1.below (ak))).mono ?_;rintro e' w2 ⟨rfl,hb2⟩;obtain⟨hc2,hf2,hs2⟩:=ac hb2;have hz2:w.heap.size<w2.heap.size:=(by have h9:=hb2.size;(try simp at h9);omega))
   |(go_at_call 174;refine(bQ la ll lc ls _ (h2.below (ak))).mono ?_;rintro e' w3 ⟨rfl,hb3⟩;obtain⟨hc3,hf3,hs3⟩:=ac hb3;have hz3:w.heap.size<w3.heap.size:=(by have h9:=hb3.size;(try simp at h9);omega)))
  go_ret
  exact⟨af (aa HE).symm,(ak)⟩
 cases hB:ls.all cq.okB
 ·have HE:Hid (bj n ps ls=false):=ab (by unfold bj;rw[hi,e1,e2,hA,hB];rfl)
  go_enter Tryz.func169,Tryz.ntmps169
  go_wp2_with (first
   |(go_at_call 126;refine(ah _ _ _ _).mono ?_;rintro e' w1 ⟨rfl,hw⟩;obtain rfl:=hw.symm;clear hw)
   |(go_at_call 172;refine(bw pa pl pc ps _ (h1.below (ak))).mono ?_;rintro e' w2 ⟨rfl,hb2⟩;obtain⟨hc2,hf2,hs2⟩:=ac hb2;have hz2:w.heap.size<w2.heap.size:=(by have h9:=hb2.size;(try simp at h9);omega))
   |(go_at_call 174;refine(bQ la ll lc ls _ (h2.below (ak))).mono ?_;rintro e' w3 ⟨rfl,hb3⟩;obtain⟨hc3,hf3,hs3⟩:=ac hb3;have hz3:w.heap.size<w3.heap.size:=(by have h9:=hb3.size;(try simp at h9);omega)))
  go_ret
  exact⟨af (aa HE).symm,(ak)⟩
 ·have HE:Hid (bj n ps ls=true):=ab (by unfold bj;rw[hi,e1,e2,hA,hB];rfl)
  go_enter Tryz.func169,Tryz.ntmps169
  go_wp2_with (first
   |(go_at_call 126;refine(ah _ _ _ _).mono ?_;rintro e' w1 ⟨rfl,hw⟩;obtain rfl:=hw.symm;clear hw)
   |(go_at_call 172;refine(bw pa pl pc ps _ (h1.below (ak))).mono ?_;rintro e' w2 ⟨rfl,hb2⟩;obtain⟨hc2,hf2,hs2⟩:=ac hb2;have hz2:w.heap.size<w2.heap.size:=(by have h9:=hb2.size;(try simp at h9);omega))
   |(go_at_call 174;refine(bQ la ll lc ls _ (h2.below (ak))).mono ?_;rintro e' w3 ⟨rfl,hb3⟩;obtain⟨hc3,hf3,hs3⟩:=ac hb3;have hz3:w.heap.size<w3.heap.size:=(by have h9:=hb3.size;(try simp at h9);omega)))
  go_ret
  exact⟨af (aa HE).symm,(ak)⟩
set_option linter.unusedSimpArgs false in
set_option maxRecDepth 20000 in
set_option maxHeartbeats 4000000 in
theorem fJ(s t k z p l e:Int)(b:Bool)(v r:Int)(ia:Option Addr)(il ic:Nat)(om:Int)(oa:Option Addr)(ol oc:Nat)(wl pn:Int)(pa:Option Addr)(pl pc:Nat)(la:Option Addr)(ll lc:Nat)(d:TkD)(B:Nat)(w:World)(h:TkIs w B ia il oa ol pa pl la ll d):Calls Tryz.prog 131 #[.agg #[.int .i64 s,.int .i64 t,.int .i64 k,.int .i64 z,.int .i64 p,.int .i64 l,.int .i64 e,.bool b,.int .i64 v,.int .i64 r],.agg #[.slice ia il ic,.int .i64 om,.slice oa ol oc,.int .i64 wl,.int .i64 pn,.slice pa pl pc,.slice la ll lc]] w fun e' w'=>e'= .returned (.bool (bc s t k z p l e v r om wl pn d))∧Below w.heap.size w w':=by
 have hm:=h.ins.2.1
 have hle:=h.ins.1
 have hbd:=ik d.ins
 unfold maxLen at hm
 have hbb:Below w.heap.size w ((w.alloc (.cells #[.int .i64 s,.int .i64 t,.int .i64 k,.int .i64 z,.int .i64 p,.int .i64 l,.int .i64 e,.bool b,.int .i64 v,.int .i64 r] 40)).alloc (.cells #[.slice ia il ic,.int .i64 om,.slice oa ol oc,.int .i64 wl,.int .i64 pn,.slice pa pl pc,.slice la ll lc] 140)):=aB (ai _ _) _
 cases q1:cl s t k z p l e v r om d.rows
 ·have HE:Hid (bc s t k z p l e v r om wl pn d=false):=ab (by unfold bc;rw[q1];rfl)
  go_enter Tryz.func131,Tryz.ntmps131
  go_wp2_with fail
  refine wp_region_held_drew (S:=(fun W=>((W.cell? ⟨w.heap.size,0,none⟩=some (.int .i64 s)∧W.cell? ⟨w.heap.size,1,none⟩=some (.int .i64 t)∧W.cell? ⟨w.heap.size,2,none⟩=some (.int .i64 k)∧W.cell? ⟨w.heap.size,3,none⟩=some (.int .i64 z)∧W.cell? ⟨w.heap.size,4,none⟩=some (.int .i64 p)∧W.cell? ⟨w.heap.size,5,none⟩=some (.int .i64 l)∧W.cell? ⟨w.heap.size,6,none⟩=some (.int .i64 e)∧W.cell? ⟨w.heap.size,7,none⟩=some (.bool b)∧W.cell? ⟨w.heap.size,8,none⟩=some (.int .i64 v)∧W.cell? ⟨w.heap.size,9,none⟩=some (.int .i64 r)∧W.cell? ⟨w.heap.size+1,0,none⟩=some (.slice ia il ic)∧W.cell? ⟨w.heap.size+1,1,none⟩=some (.int .i64 om)∧W.cell? ⟨w.heap.size+1,2,none⟩=some (.slice oa ol oc)∧W.cell? ⟨w.heap.size+1,3,none⟩=some (.int .i64 wl)∧W.cell? ⟨w.heap.size+1,4,none⟩=some (.int .i64 pn)∧W.cell? ⟨w.heap.size+1,5,none⟩=some (.slice pa pl pc)∧W.cell? ⟨w.heap.size+1,6,none⟩=some (.slice la ll lc))∧w.heap.size<W.heap.size∧w.heap.size+1<W.heap.size))) (jK) ?_ (fun hHeld=>?_)
  ·(try dsimp only);((first|((repeat(first|(with_reducible assumption)|(with_reducible refine aq ?_ (jF))|(with_reducible refine aq ?_ (aj (Below.refl _ _)))|(with_reducible refine aq ?_ (ai _ _))));done)|(refine⟨⟨?_,?_,?_,?_,?_,?_,?_,?_,?_,?_,?_,?_,?_,?_,?_,?_,?_⟩,?_,?_⟩<;>first|(go_keep;done)|(simp;done)|(simp;omega)|omega)))
  refine kV 0 ?_
  refine kV 1 ?_
  refine kV 2 ?_
  refine rD 3 (fun K hK=>?_)
  go_simp
  (go_at_call 165;refine(bx s t k z p l e b v r om oa ol oc d.rows _ (h.rows.1.below (ak))).mono ?_;rintro e' w1 ⟨rfl,hb1⟩;obtain⟨hc1,hf1,hs1⟩:=ac hb1)
  (try go_wp2_with fail)
  refine hK.out _ _ ?_ (fun jB=>?_)
  ·(try dsimp only);((first|((repeat(first|(with_reducible assumption)|(with_reducible refine aq ?_ (jF))|(with_reducible refine aq ?_ (aj (Below.refl _ _)))|(with_reducible refine aq ?_ (ai _ _))));done)|(refine⟨⟨?_,?_,?_,?_,?_,?_,?_,?_,?_,?_,?_,?_,?_,?_,?_,?_,?_⟩,?_,?_⟩<;>first|(go_keep;done)|(simp;done)|(simp;omega)|omega)))
  clear hK K hHeld
  have hHeld:=jB
  clear jB
  try simp only[Act.put,tA,tZ,tS]
  refine kV 4 ?_
  refine kV 5 ?_
  refine kU 6 ?_
  try simp only[Act.put,tA,tZ,tS]
  refine kU 7 ?_
  try simp only[Act.put,tA,tZ,tS]
  refine kU 8 ?_
  try simp only[Act.put,tA,tZ,tS]
  refine kU 9 ?_
  try simp only[Act.put,tA,tZ,tS]
  refine kU 10 ?_
  try simp only[Act.put,tA,tZ,tS]
  refine kU 11 ?_
  try simp only[Act.put,tA,tZ,tS]
  refine kV 12 ?_
  refine kV 13 ?_
  refine kU 14 ?_
  try simp only[Act.put,tA,tZ,tS]
  refine kU 15 ?_
  try simp only[Act.put,tA,tZ,tS]
  refine kU 16 ?_
  try simp only[Act.put,tA,tZ,tS]
  refine kU 17 ?_
  try simp only[Act.put,tA,tZ,tS]
  refine kU 18 ?_
  try simp only[Act.put,tA,tZ,tS]
  refine kU 19 ?_
  try simp only[Act.put,tA,tZ,tS]
  refine kV 20 ?_
  refine wpAnyH_done (jK) ?_ _
  go_wp2
  go_ret
  exact⟨af (aa HE).symm,(ak)⟩
 by_cases q2:(il:Int)=s
 rotate_left
 ·have q2':((il:Int)==s)=false:=beq_eq_false_iff_ne.2 q2
  have q2n:((il:Int) != s)=true:=by simp[q2]
  have HE:Hid (bc s t k z p l e v r om wl pn d=false):=ab (by unfold bc;rw[q1,decide_eq_false (show ¬ (d.ins.length:Int)=s by omega)];rfl)
  go_enter Tryz.func131,Tryz.ntmps131
  go_wp2_with fail
  refine wp_region_held_drew (S:=(fun W=>((W.cell? ⟨w.heap.size,0,none⟩=some (.int .i64 s)∧W.cell? ⟨w.heap.size,1,none⟩=some (.int .i64 t)∧W.cell? ⟨w.heap.size,2,none⟩=some (.int .i64 k)∧W.cell? ⟨w.heap.size,3,none⟩=some (.int .i64 z)∧W.cell? ⟨w.heap.size,4,none⟩=some (.int .i64 p)∧W.cell? ⟨w.heap.size,5,none⟩=some (.int .i64 l)∧W.cell? ⟨w.heap.size,6,none⟩=some (.int .i64 e)∧W.cell? ⟨w.heap.size,7,none⟩=some (.bool b)∧W.cell? ⟨w.heap.size,8,none⟩=some (.int .i64 v)∧W.cell? ⟨w.heap.size,9,none⟩=some (.int .i64 r)∧W.cell? ⟨w.heap.size+1,0,none⟩=some (.slice ia il ic)∧W.cell? ⟨w.heap.size+1,1,none⟩=some (.int .i64 om)∧W.cell? ⟨w.heap.size+1,2,none⟩=some (.slice oa ol oc)∧W.cell? ⟨w.heap.size+1,3,none⟩=some (.int .i64 wl)∧W.cell? ⟨w.heap.size+1,4,none⟩=some (.int .i64 pn)∧W.cell? ⟨w.heap.size+1,5,none⟩=some (.slice pa pl pc)∧W.cell? ⟨w.heap.size+1,6,none⟩=some (.slice la ll lc))∧w.heap.size<W.heap.size∧w.heap.size+1<W.heap.size))) (jK) ?_ (fun hHeld=>?_)
  ·(try dsimp only);((first|((repeat(first|(with_reducible assumption)|(with_reducible refine aq ?_ (jF))|(with_reducible refine aq ?_ (aj (Below.refl _ _)))|(with_reducible refine aq ?_ (ai _ _))));done)|(refine⟨⟨?_,?_,?_,?_,?_,?_,?_,?_,?_,?_,?_,?_,?_,?_,?_,?_,?_⟩,?_,?_⟩<;>first|(go_keep;done)|(simp;done)|(simp;omega)|omega)))
  refine kV 0 ?_
  refine kV 1 ?_
  refine kV 2 ?_
  refine rD 3 (fun K hK=>?_)
  go_simp
  (go_at_call 165;refine(bx s t k z p l e b v r om oa ol oc d.rows _ (h.rows.1.below (ak))).mono ?_;rintro e' w1 ⟨rfl,hb1⟩;obtain⟨hc1,hf1,hs1⟩:=ac hb1)
  (try go_wp2_with fail)
  refine hK.out _ _ ?_ (fun jB=>?_)
  ·(try dsimp only);((first|((repeat(first|(with_reducible assumption)|(with_reducible refine aq ?_ (jF))|(with_reducible refine aq ?_ (aj (Below.refl _ _)))|(with_reducible refine aq ?_ (ai _ _))));done)|(refine⟨⟨?_,?_,?_,?_,?_,?_,?_,?_,?_,?_,?_,?_,?_,?_,?_,?_,?_⟩,?_,?_⟩<;>first|(go_keep;done)|(simp;done)|(simp;omega)|omega)))
  clear hK K hHeld
  have hHeld:=jB
  clear jB
  try simp only[Act.put,tA,tZ,tS]
  refine kV 4 ?_
  refine kV 5 ?_
  refine kV 6 ?_
  refine kV 7 ?_
  refine kV 8 ?_
  refine kV 9 ?_
  refine kV 10 ?_
  refine kV 11 ?_
  refine kV 12 ?_
  refine kV 13 ?_
  refine kU 14 ?_
  try simp only[Act.put,tA,tZ,tS]
  refine kU 15 ?_
  try simp only[Act.put,tA,tZ,tS]
  refine kU 16 ?_
  try simp only[Act.put,tA,tZ,tS]
  refine kU 17 ?_
  try simp only[Act.put,tA,tZ,tS]
  refine kU 18 ?_
  try simp only[Act.put,tA,tZ,tS]
  refine kU 19 ?_
  try simp only[Act.put,tA,tZ,tS]
  refine kV 20 ?_
  refine wpAnyH_done (jK) ?_ _
  go_wp2
  go_ret
  exact⟨af (aa HE).symm,(ak)⟩
 have q2':((il:Int)==s)=true:=beq_iff_eq.2 q2
 have q2n:((il:Int) != s)=false:=by simp[q2]
 have d2:decide ((d.ins.length:Int)=s)=true:=decide_eq_true (by omega)
 clear q2
 by_cases q6:aY d.ins=(il:Int)
 ·have q6':(aY d.ins==(il:Int))=true:=beq_iff_eq.2 q6
  have HE:Hid (bc s t k z p l e v r om wl pn d=false):=ab (by unfold bc;rw[decide_eq_false (show ¬ aY d.ins<(d.ins.length:Int) by omega)];simp)
  go_enter Tryz.func131,Tryz.ntmps131
  go_wp2_with fail
  refine wp_region_held_drew (S:=(fun W=>((W.cell? ⟨w.heap.size,0,none⟩=some (.int .i64 s)∧W.cell? ⟨w.heap.size,1,none⟩=some (.int .i64 t)∧W.cell? ⟨w.heap.size,2,none⟩=some (.int .i64 k)∧W.cell? ⟨w.heap.size,3,none⟩=some (.int .i64 z)∧W.cell? ⟨w.heap.size,4,none⟩=some (.int .i64 p)∧W.cell? ⟨w.heap.size,5,none⟩=some (.int .i64 l)∧W.cell? ⟨w.heap.size,6,none⟩=some (.int .i64 e)∧W.cell? ⟨w.heap.size,7,none⟩=some (.bool b)∧W.cell? ⟨w.heap.size,8,none⟩=some (.int .i64 v)∧W.cell? ⟨w.heap.size,9,none⟩=some (.int .i64 r)∧W.cell? ⟨w.heap.size+1,0,none⟩=some (.slice ia il ic)∧W.cell? ⟨w.heap.size+1,1,none⟩=some (.int .i64 om)∧W.cell? ⟨w.heap.size+1,2,none⟩=some (.slice oa ol oc)∧W.cell? ⟨w.heap.size+1,3,none⟩=some (.int .i64 wl)∧W.cell? ⟨w.heap.size+1,4,none⟩=some (.int .i64 pn)∧W.cell? ⟨w.heap.size+1,5,none⟩=some (.slice pa pl pc)∧W.cell? ⟨w.heap.size+1,6,none⟩=some (.slice la ll lc))∧w.heap.size<W.heap.size∧w.heap.size+1<W.heap.size))) (jK) ?_ (fun hHeld=>?_)
  ·(try dsimp only);((first|((repeat(first|(with_reducible assumption)|(with_reducible refine aq ?_ (jF))|(with_reducible refine aq ?_ (aj (Below.refl _ _)))|(with_reducible refine aq ?_ (ai _ _))));done)|(refine⟨⟨?_,?_,?_,?_,?_,?_,?_,?_,?_,?_,?_,?_,?_,?_,?_,?_,?_⟩,?_,?_⟩<;>first|(go_keep;done)|(simp;done)|(simp;omega)|omega)))
  refine kV 0 ?_
  refine kV 1 ?_
  refine kV 2 ?_
  refine rD 3 (fun K hK=>?_)
  go_simp
  (go_at_call 165;refine(bx s t k z p l e b v r om oa ol oc d.rows _ (h.rows.1.below (ak))).mono ?_;rintro e' w1 ⟨rfl,hb1⟩;obtain⟨hc1,hf1,hs1⟩:=ac hb1)
  (try go_wp2_with fail)
  refine hK.out _ _ ?_ (fun jB=>?_)
  ·(try dsimp only);((first|((repeat(first|(with_reducible assumption)|(with_reducible refine aq ?_ (jF))|(with_reducible refine aq ?_ (aj (Below.refl _ _)))|(with_reducible refine aq ?_ (ai _ _))));done)|(refine⟨⟨?_,?_,?_,?_,?_,?_,?_,?_,?_,?_,?_,?_,?_,?_,?_,?_,?_⟩,?_,?_⟩<;>first|(go_keep;done)|(simp;done)|(simp;omega)|omega)))
  clear hK K hHeld
  have hHeld:=jB
  clear jB
  try simp only[Act.put,tA,tZ,tS]
  refine kV 4 ?_
  refine kV 5 ?_
  refine kV 6 ?_
  refine kV 7 ?_
  refine kV 8 ?_
  refine kV 9 ?_
  refine kV 10 ?_
  refine kV 11 ?_
  refine kV 12 ?_
  refine kV 13 ?_
  refine kV 14 ?_
  refine kV 16 ?_
  refine kV 17 ?_
  refine kV 18 ?_
  refine rD 15 (fun K hK=>?_)
  go_simp
  (go_at_call 166;refine(fH ia il ic om oa ol oc wl pn pa pl pc la ll lc _ d.ins _ (h.ins.below (ak))).mono ?_;rintro e' w2 ⟨rfl,hb2⟩;obtain⟨hc2,hf2,hs2⟩:=ac hb2)
  (try go_wp2_with fail)
  refine hK.out _ _ ?_ (fun jB=>?_)
  ·(try dsimp only);((first|((repeat(first|(with_reducible assumption)|(with_reducible refine aq ?_ (jF))|(with_reducible refine aq ?_ (aj (Below.refl _ _)))|(with_reducible refine aq ?_ (ai _ _))));done)|(refine⟨⟨?_,?_,?_,?_,?_,?_,?_,?_,?_,?_,?_,?_,?_,?_,?_,?_,?_⟩,?_,?_⟩<;>first|(go_keep;done)|(simp;done)|(simp;omega)|omega)))
  clear hK K hHeld
  have hHeld:=jB
  clear jB
  try simp only[Act.put,tA,tZ,tS]
  refine kV 19 ?_
  refine kV 20 ?_
  refine wpAnyH_done (jK) ?_ _
  go_wp2
  go_ret
  exact⟨af (aa HE).symm,(ak)⟩
 have q6':(aY d.ins==(il:Int))=false:=beq_eq_false_iff_ne.2 q6
 have HV:Hid (bc s t k z p l e v r om wl pn d=(aP wl 0 900&&bj pn d.panes d.lates&&(pn==0)&&(om==ci d.ins)&&d.ins.all (bH.okB r))):=ab (by unfold bc;rw[q1,d2,decide_eq_true (show aY d.ins<(d.ins.length:Int) by omega)];simp only[Bool.true_and,Bool.and_true];rw[Bool.and_right_comm])
 clear q6 hbd
 have hI0:=h.ins.below hbb
 have hP0:=h.panes.1.below hbb
 have hL0:=h.lates.1.below hbb
 go_enter Tryz.func131,Tryz.ntmps131
 go_wp2_with fail
 refine wp_region_held_drew (S:=(fun W=>((W.cell? ⟨w.heap.size,0,none⟩=some (.int .i64 s)∧W.cell? ⟨w.heap.size,1,none⟩=some (.int .i64 t)∧W.cell? ⟨w.heap.size,2,none⟩=some (.int .i64 k)∧W.cell? ⟨w.heap.size,3,none⟩=some (.int .i64 z)∧W.cell? ⟨w.heap.size,4,none⟩=some (.int .i64 p)∧W.cell? ⟨w.heap.size,5,none⟩=some (.int .i64 l)∧W.cell? ⟨w.heap.size,6,none⟩=some (.int .i64 e)∧W.cell? ⟨w.heap.size,7,none⟩=some (.bool b)∧W.cell? ⟨w.heap.size,8,none⟩=some (.int .i64 v)∧W.cell? ⟨w.heap.size,9,none⟩=some (.int .i64 r)∧W.cell? ⟨w.heap.size+1,0,none⟩=some (.slice ia il ic)∧W.cell? ⟨w.heap.size+1,1,none⟩=some (.int .i64 om)∧W.cell? ⟨w.heap.size+1,2,none⟩=some (.slice oa ol oc)∧W.cell? ⟨w.heap.size+1,3,none⟩=some (.int .i64 wl)∧W.cell? ⟨w.heap.size+1,4,none⟩=some (.int .i64 pn)∧W.cell? ⟨w.heap.size+1,5,none⟩=some (.slice pa pl pc)∧W.cell? ⟨w.heap.size+1,6,none⟩=some (.slice la ll lc))∧w.heap.size<W.heap.size∧w.heap.size+1<W.heap.size))) (jK) ?_ (fun hHeld=>?_)
 ·(try dsimp only);((first|((repeat(first|(with_reducible assumption)|(with_reducible refine aq ?_ (jF))|(with_reducible refine aq ?_ (aj (Below.refl _ _)))|(with_reducible refine aq ?_ (ai _ _))));done)|(refine⟨⟨?_,?_,?_,?_,?_,?_,?_,?_,?_,?_,?_,?_,?_,?_,?_,?_,?_⟩,?_,?_⟩<;>first|(go_keep;done)|(simp;done)|(simp;omega)|omega)))
 refine kV 0 ?_
 refine kV 1 ?_
 refine kV 2 ?_
 refine rD 3 (fun K hK=>?_)
 go_simp
 (go_at_call 165;refine(bx s t k z p l e b v r om oa ol oc d.rows _ (h.rows.1.below (ak))).mono ?_;rintro e' w1 ⟨rfl,hb1⟩;obtain⟨hc1,hf1,hs1⟩:=ac hb1)
 (try go_wp2_with fail)
 refine hK.out _ _ ?_ (fun jB=>?_)
 ·(try dsimp only);((first|((repeat(first|(with_reducible assumption)|(with_reducible refine aq ?_ (jF))|(with_reducible refine aq ?_ (aj (Below.refl _ _)))|(with_reducible refine aq ?_ (ai _ _))));done)|(refine⟨⟨?_,?_,?_,?_,?_,?_,?_,?_,?_,?_,?_,?_,?_,?_,?_,?_,?_⟩,?_,?_⟩<;>first|(go_keep;done)|(simp;done)|(simp;omega)|omega)))
 clear hK K hHeld
 have hHeld:=jB
 clear jB
 try simp only[Act.put,tA,tZ,tS]
 refine kV 4 ?_
 refine kV 5 ?_
 refine kV 6 ?_
 refine kV 7 ?_
 refine kV 8 ?_
 refine kV 9 ?_
 refine kV 10 ?_
 refine kV 11 ?_
 refine kV 12 ?_
 refine kV 13 ?_
 refine kV 14 ?_
 refine kV 16 ?_
 refine kV 17 ?_
 refine kV 18 ?_
 refine rD 15 (fun K hK=>?_)
 go_simp
 (go_at_call 166;refine(fH ia il ic om oa ol oc wl pn pa pl pc la ll lc _ d.ins _ (h.ins.below (ak))).mono ?_;rintro e' w2 ⟨rfl,hb2⟩;obtain⟨hc2,hf2,hs2⟩:=ac hb2)
 (try go_wp2_with fail)
 refine hK.out _ _ ?_ (fun jB=>?_)
 ·(try dsimp only);((first|((repeat(first|(with_reducible assumption)|(with_reducible refine aq ?_ (jF))|(with_reducible refine aq ?_ (aj (Below.refl _ _)))|(with_reducible refine aq ?_ (ai _ _))));done)|(refine⟨⟨?_,?_,?_,?_,?_,?_,?_,?_,?_,?_,?_,?_,?_,?_,?_,?_,?_⟩,?_,?_⟩<;>first|(go_keep;done)|(simp;done)|(simp;omega)|omega)))
 clear hK K hHeld
 have hHeld:=jB
 clear jB
 try simp only[Act.put,tA,tZ,tS]
 refine kV 19 ?_
 refine kV 20 ?_
 refine wpAnyH_done (jK) ?_ _
 go_wp2
 have hst:Below ((w.alloc (.cells #[.int .i64 s,.int .i64 t,.int .i64 k,.int .i64 z,.int .i64 p,.int .i64 l,.int .i64 e,.bool b,.int .i64 v,.int .i64 r] 40)).alloc (.cells #[.slice ia il ic,.int .i64 om,.slice oa ol oc,.int .i64 wl,.int .i64 pn,.slice pa pl pc,.slice la ll lc] 140)).heap.size ((w.alloc (.cells #[.int .i64 s,.int .i64 t,.int .i64 k,.int .i64 z,.int .i64 p,.int .i64 l,.int .i64 e,.bool b,.int .i64 v,.int .i64 r] 40)).alloc (.cells #[.slice ia il ic,.int .i64 om,.slice oa ol oc,.int .i64 wl,.int .i64 pn,.slice pa pl pc,.slice la ll lc] 140)) w2:=(ak)
 clear q1 hc1 hf1 hs1 hc2 hf2 hs2 hb1 hb2 hHeld
 go_loopw [31] (fun i wr=>∃ix:Nat,ix≤il∧i= .int .i64 ix∧Hid ((d.ins.take ix).all (bH.okB r)=true)∧Below ((w.alloc (.cells #[.int .i64 s,.int .i64 t,.int .i64 k,.int .i64 z,.int .i64 p,.int .i64 l,.int .i64 e,.bool b,.int .i64 v,.int .i64 r] 40)).alloc (.cells #[.slice ia il ic,.int .i64 om,.slice oa ol oc,.int .i64 wl,.int .i64 pn,.slice pa pl pc,.slice la ll lc] 140)).heap.size ((w.alloc (.cells #[.int .i64 s,.int .i64 t,.int .i64 k,.int .i64 z,.int .i64 p,.int .i64 l,.int .i64 e,.bool b,.int .i64 v,.int .i64 r] 40)).alloc (.cells #[.slice ia il ic,.int .i64 om,.slice oa ol oc,.int .i64 wl,.int .i64 pn,.slice pa pl pc,.slice la ll lc] 140)) wr) (fun i _=>il - (intOf i).toNat)
 case atStart=>exact⟨0,Nat.zero_le _,rfl,ab (by simp),hst⟩
 case round=>
  clear hst
  obtain⟨ix,hk,rfl,hA,hbw⟩:=hrel
  have jb0:wr.cell? ⟨w.heap.size,0,none⟩=some (.int .i64 s):=(hbw.cell (p:=⟨w.heap.size,0,none⟩) (jH)).trans (jI)
  have jb1:wr.cell? ⟨w.heap.size,1,none⟩=some (.int .i64 t):=(hbw.cell (p:=⟨w.heap.size,1,none⟩) (jH)).trans (jI)
  have jb2:wr.cell? ⟨w.heap.size,2,none⟩=some (.int .i64 k):=(hbw.cell (p:=⟨w.heap.size,2,none⟩) (jH)).trans (jI)
  have jb3:wr.cell? ⟨w.heap.size,3,none⟩=some (.int .i64 z):=(hbw.cell (p:=⟨w.heap.size,3,none⟩) (jH)).trans (jI)
  have jb4:wr.cell? ⟨w.heap.size,4,none⟩=some (.int .i64 p):=(hbw.cell (p:=⟨w.heap.size,4,none⟩) (jH)).trans (jI)
  have jb5:wr.cell? ⟨w.heap.size,5,none⟩=some (.int .i64 l):=(hbw.cell (p:=⟨w.heap.size,5,none⟩) (jH)).trans (jI)
  have jb6:wr.cell? ⟨w.heap.size,6,none⟩=some (.int .i64 e):=(hbw.cell (p:=⟨w.heap.size,6,none⟩) (jH)).trans (jI)
  have jb7:wr.cell? ⟨w.heap.size,7,none⟩=some (.bool b):=(hbw.cell (p:=⟨w.heap.size,7,none⟩) (jH)).trans (jI)
  have jb8:wr.cell? ⟨w.heap.size,8,none⟩=some (.int .i64 v):=(hbw.cell (p:=⟨w.heap.size,8,none⟩) (jH)).trans (jI)
  have jb9:wr.cell? ⟨w.heap.size,9,none⟩=some (.int .i64 r):=(hbw.cell (p:=⟨w.heap.size,9,none⟩) (jH)).trans (jI)
  have tb0:wr.cell? ⟨w.heap.size+1,0,none⟩=some (.slice ia il ic):=(hbw.cell (p:=⟨w.heap.size+1,0,none⟩) (jH)).trans (jI)
  have tb1:wr.cell? ⟨w.heap.size+1,1,none⟩=some (.int .i64 om):=(hbw.cell (p:=⟨w.heap.size+1,1,none⟩) (jH)).trans (jI)
  have tb2:wr.cell? ⟨w.heap.size+1,2,none⟩=some (.slice oa ol oc):=(hbw.cell (p:=⟨w.heap.size+1,2,none⟩) (jH)).trans (jI)
  have tb3:wr.cell? ⟨w.heap.size+1,3,none⟩=some (.int .i64 wl):=(hbw.cell (p:=⟨w.heap.size+1,3,none⟩) (jH)).trans (jI)
  have tb4:wr.cell? ⟨w.heap.size+1,4,none⟩=some (.int .i64 pn):=(hbw.cell (p:=⟨w.heap.size+1,4,none⟩) (jH)).trans (jI)
  have tb5:wr.cell? ⟨w.heap.size+1,5,none⟩=some (.slice pa pl pc):=(hbw.cell (p:=⟨w.heap.size+1,5,none⟩) (jH)).trans (jI)
  have tb6:wr.cell? ⟨w.heap.size+1,6,none⟩=some (.slice la ll lc):=(hbw.cell (p:=⟨w.heap.size+1,6,none⟩) (jH)).trans (jI)
  have y0:w.heap.size<wr.heap.size:=by have h9:=hbw.size;simp at h9;omega
  have y1:w.heap.size+1<wr.heap.size:=by have h9:=hbw.size;simp at h9;omega
  by_cases hlt:ix<il
  ·obtain⟨hxl,_,hx⟩:=hI0
   obtain⟨g,o,rfl,_,hrr⟩:=hx.resolve_left (by omega)
   obtain⟨x,hxk⟩:∃x,d.ins[ix]? =some x:=⟨_,List.getElem?_eq_getElem (by omega)⟩
   have hX:=ab hxk
   have t1:=(hrr ix _ hxk).below hbw
   have hg:=t1.lt
   obtain⟨qa,ql,qc,c0,c1,c2,hqi,_⟩:=t1
   clear hx hxk hrr
   cases hB:x.okB r
   ·have HE:Hid (bc s t k z p l e v r om wl pn d=false):=ab ((aa HV).trans (by rw[all_ff (p:=bH.okB r) (aa hX) hB];simp))
    go_wp2_with (go_at_call 167;refine(inok_any x qa ql qc r _ (hqi.below (ak))).mono ?_;rintro e' wf ⟨rfl,hb⟩)
    go_ret
    exact⟨af (aa HE).symm,(ak)⟩
   ·have HE:Hid ((d.ins.take (ix+1)).all (bH.okB r)=true):=ab (all_tt (aa hA) (aa hX) hB)
    go_wp2_with (go_at_call 167;refine(inok_any x qa ql qc r _ (hqi.below (ak))).mono ?_;rintro e' wf ⟨rfl,hb⟩)
    go_roundw
    case rel=>exact⟨ix+1,by omega,by go_num,HE,(ak)⟩
    case measure=>simp[intOf];omega
  ·have HA2:Hid (d.ins.all (bH.okB r)=true):=ab (by have h1:=aa hA;rwa [List.take_of_length_le (by omega)]at h1)
   clear hA
   have hI:=hI0.below hbw
   have hP:=hP0.below hbw
   have hL:=hL0.below hbw
   have HW:Hid (bc s t k z p l e v r om wl pn d=(aP wl 0 900&&bj pn d.panes d.lates&&(pn==0)&&(om==ci d.ins))):=ab ((aa HV).trans (by rw[aa HA2];simp only[Bool.and_true]))
   cases q3:aP wl 0 900
   ·have HE:Hid (bc s t k z p l e v r om wl pn d=false):=ab ((aa HW).trans (by rw[q3];rfl))
    go_wp2_with fail
    refine wp_region_held_drew (S:=(fun W=>((W.cell? ⟨w.heap.size,0,none⟩=some (.int .i64 s)∧W.cell? ⟨w.heap.size,1,none⟩=some (.int .i64 t)∧W.cell? ⟨w.heap.size,2,none⟩=some (.int .i64 k)∧W.cell? ⟨w.heap.size,3,none⟩=some (.int .i64 z)∧W.cell? ⟨w.heap.size,4,none⟩=some (.int .i64 p)∧W.cell? ⟨w.heap.size,5,none⟩=some (.int .i64 l)∧W.cell? ⟨w.heap.size,6,none⟩=some (.int .i64 e)∧W.cell? ⟨w.heap.size,7,none⟩=some (.bool b)∧W.cell? ⟨w.heap.size,8,none⟩=some (.int .i64 v)∧W.cell? ⟨w.heap.size,9,none⟩=some (.int .i64 r)∧W.cell? ⟨w.heap.size+1,0,none⟩=some (.slice ia il ic)∧W.cell? ⟨w.heap.size+1,1,none⟩=some (.int .i64 om)∧W.cell? ⟨w.heap.size+1,2,none⟩=some (.slice oa ol oc)∧W.cell? ⟨w.heap.size+1,3,none⟩=some (.int .i64 wl)∧W.cell? ⟨w.heap.size+1,4,none⟩=some (.int .i64 pn)∧W.cell? ⟨w.heap.size+1,5,none⟩=some (.slice pa pl pc)∧W.cell? ⟨w.heap.size+1,6,none⟩=some (.slice la ll lc))∧w.heap.size<W.heap.size∧w.heap.size+1<W.heap.size))) (jK) ?_ (fun hHeld=>?_)
    ·(try dsimp only);((first|((repeat(first|(with_reducible assumption)|(with_reducible refine aq ?_ (jF))|(with_reducible refine aq ?_ (aj (Below.refl _ _)))|(with_reducible refine aq ?_ (ai _ _))));done)|(refine⟨⟨?_,?_,?_,?_,?_,?_,?_,?_,?_,?_,?_,?_,?_,?_,?_,?_,?_⟩,?_,?_⟩<;>first|(go_keep;done)|(simp;done)|(simp;omega)|omega)))
    refine kV 0 ?_
    refine kV 1 ?_
    refine rD 2 (fun K hK=>?_)
    go_simp
    (go_at_call 126;refine(ah _ _ _ _).mono ?_;rintro e' w5 ⟨rfl,hw⟩;obtain rfl:=hw.symm;clear hw)
    (try go_wp2_with fail)
    refine hK.out _ _ ?_ (fun jB=>?_)
    ·(try dsimp only);((first|((repeat(first|(with_reducible assumption)|(with_reducible refine aq ?_ (jF))|(with_reducible refine aq ?_ (aj (Below.refl _ _)))|(with_reducible refine aq ?_ (ai _ _))));done)|(refine⟨⟨?_,?_,?_,?_,?_,?_,?_,?_,?_,?_,?_,?_,?_,?_,?_,?_,?_⟩,?_,?_⟩<;>first|(go_keep;done)|(simp;done)|(simp;omega)|omega)))
    clear hK K hHeld
    have hHeld:=jB
    clear jB
    try simp only[Act.put,tA,tZ,tS]
    refine kV 3 ?_
    refine kU 4 ?_
    try simp only[Act.put,tA,tZ,tS]
    refine kU 5 ?_
    try simp only[Act.put,tA,tZ,tS]
    refine kU 6 ?_
    try simp only[Act.put,tA,tZ,tS]
    refine kU 7 ?_
    try simp only[Act.put,tA,tZ,tS]
    refine kU 8 ?_
    try simp only[Act.put,tA,tZ,tS]
    refine kU 9 ?_
    try simp only[Act.put,tA,tZ,tS]
    refine kV 10 ?_
    refine kV 11 ?_
    refine kU 12 ?_
    try simp only[Act.put,tA,tZ,tS]
    refine kU 13 ?_
    try simp only[Act.put,tA,tZ,tS]
    refine kU 14 ?_
    try simp only[Act.put,tA,tZ,tS]
    refine kV 15 ?_
    refine kV 16 ?_
    refine kU 17 ?_
    try simp only[Act.put,tA,tZ,tS]
    refine kU 18 ?_
    try simp only[Act.put,tA,tZ,tS]
    refine kU 19 ?_
    try simp only[Act.put,tA,tZ,tS]
    refine kU 20 ?_
    try simp only[Act.put,tA,tZ,tS]
    refine kV 21 ?_
    refine kV 22 ?_
    refine wpAnyH_done (jK) ?_ _
    go_wp2
    go_ret
    exact⟨af (aa HE).symm,(ak)⟩
   by_cases hl:om=ci d.ins
   rotate_left
   ·have hl':(om==ci d.ins)=false:=beq_eq_false_iff_ne.2 hl
    clear hl
    have HE:Hid (bc s t k z p l e v r om wl pn d=false):=ab ((aa HW).trans (by rw[hl',Bool.and_false]))
    go_wp2_with fail
    refine wp_region_held_drew (S:=(fun W=>((W.cell? ⟨w.heap.size,0,none⟩=some (.int .i64 s)∧W.cell? ⟨w.heap.size,1,none⟩=some (.int .i64 t)∧W.cell? ⟨w.heap.size,2,none⟩=some (.int .i64 k)∧W.cell? ⟨w.heap.size,3,none⟩=some (.int .i64 z)∧W.cell? ⟨w.heap.size,4,none⟩=some (.int .i64 p)∧W.cell? ⟨w.heap.size,5,none⟩=some (.int .i64 l)∧W.cell? ⟨w.heap.size,6,none⟩=some (.int .i64 e)∧W.cell? ⟨w.heap.size,7,none⟩=some (.bool b)∧W.cell? ⟨w.heap.size,8,none⟩=some (.int .i64 v)∧W.cell? ⟨w.heap.size,9,none⟩=some (.int .i64 r)∧W.cell? ⟨w.heap.size+1,0,none⟩=some (.slice ia il ic)∧W.cell? ⟨w.heap.size+1,1,none⟩=some (.int .i64 om)∧W.cell? ⟨w.heap.size+1,2,none⟩=some (.slice oa ol oc)∧W.cell? ⟨w.heap.size+1,3,none⟩=some (.int .i64 wl)∧W.cell? ⟨w.heap.size+1,4,none⟩=some (.int .i64 pn)∧W.cell? ⟨w.heap.size+1,5,none⟩=some (.slice pa pl pc)∧W.cell? ⟨w.heap.size+1,6,none⟩=some (.slice la ll lc))∧w.heap.size<W.heap.size∧w.heap.size+1<W.heap.size))) (jK) ?_ (fun hHeld=>?_)
    ·(try dsimp only);((first|((repeat(first|(with_reducible assumption)|(with_reducible refine aq ?_ (jF))|(with_reducible refine aq ?_ (aj (Below.refl _ _)))|(with_reducible refine aq ?_ (ai _ _))));done)|(refine⟨⟨?_,?_,?_,?_,?_,?_,?_,?_,?_,?_,?_,?_,?_,?_,?_,?_,?_⟩,?_,?_⟩<;>first|(go_keep;done)|(simp;done)|(simp;omega)|omega)))
    refine kV 0 ?_
    refine kV 1 ?_
    refine rD 2 (fun K hK=>?_)
    go_simp
    (go_at_call 126;refine(ah _ _ _ _).mono ?_;rintro e' w5 ⟨rfl,hw⟩;obtain rfl:=hw.symm;clear hw)
    (try go_wp2_with fail)
    refine hK.out _ _ ?_ (fun jB=>?_)
    ·(try dsimp only);((first|((repeat(first|(with_reducible assumption)|(with_reducible refine aq ?_ (jF))|(with_reducible refine aq ?_ (aj (Below.refl _ _)))|(with_reducible refine aq ?_ (ai _ _))));done)|(refine⟨⟨?_,?_,?_,?_,?_,?_,?_,?_,?_,?_,?_,?_,?_,?_,?_,?_,?_⟩,?_,?_⟩<;>first|(go_keep;done)|(simp;done)|(simp;omega)|omega)))
    clear hK K hHeld
    have hHeld:=jB
    clear jB
    try simp only[Act.put,tA,tZ,tS]
    refine kV 3 ?_
    refine kV 4 ?_
    refine kV 5 ?_
    refine kV 6 ?_
    refine kV 7 ?_
    refine rD 8 (fun K hK=>?_)
    go_simp
    (go_at_call 168;refine(dQ ia il ic om oa ol oc wl pn pa pl pc la ll lc _ d.ins _ (hI.below (ak))).mono ?_;rintro e' w6 ⟨rfl,hb6⟩;obtain⟨hc6,hf6,hs6⟩:=ac hb6)
    (try go_wp2_with fail)
    refine hK.out _ _ ?_ (fun jB=>?_)
    ·(try dsimp only);((first|((repeat(first|(with_reducible assumption)|(with_reducible refine aq ?_ (jF))|(with_reducible refine aq ?_ (aj (Below.refl _ _)))|(with_reducible refine aq ?_ (ai _ _))));done)|(refine⟨⟨?_,?_,?_,?_,?_,?_,?_,?_,?_,?_,?_,?_,?_,?_,?_,?_,?_⟩,?_,?_⟩<;>first|(go_keep;done)|(simp;done)|(simp;omega)|omega)))
    clear hK K hHeld
    have hHeld:=jB
    clear jB
    try simp only[Act.put,tA,tZ,tS]
    refine kV 9 ?_
    refine kV 10 ?_
    refine kV 11 ?_
    refine kU 12 ?_
    try simp only[Act.put,tA,tZ,tS]
    refine kU 13 ?_
    try simp only[Act.put,tA,tZ,tS]
    refine kU 14 ?_
    try simp only[Act.put,tA,tZ,tS]
    refine kV 15 ?_
    refine kV 16 ?_
    refine kU 17 ?_
    try simp only[Act.put,tA,tZ,tS]
    refine kU 18 ?_
    try simp only[Act.put,tA,tZ,tS]
    refine kU 19 ?_
    try simp only[Act.put,tA,tZ,tS]
    refine kU 20 ?_
    try simp only[Act.put,tA,tZ,tS]
    refine kV 21 ?_
    refine kV 22 ?_
    refine wpAnyH_done (jK) ?_ _
    go_wp2
    go_ret
    exact⟨af (aa HE).symm,(ak)⟩
   have hl':(om==ci d.ins)=true:=beq_iff_eq.2 hl
   clear hl
   cases q4:bj pn d.panes d.lates
   ·have HE:Hid (bc s t k z p l e v r om wl pn d=false):=ab ((aa HW).trans (by rw[q3,q4];rfl))
    go_wp2_with fail
    refine wp_region_held_drew (S:=(fun W=>((W.cell? ⟨w.heap.size,0,none⟩=some (.int .i64 s)∧W.cell? ⟨w.heap.size,1,none⟩=some (.int .i64 t)∧W.cell? ⟨w.heap.size,2,none⟩=some (.int .i64 k)∧W.cell? ⟨w.heap.size,3,none⟩=some (.int .i64 z)∧W.cell? ⟨w.heap.size,4,none⟩=some (.int .i64 p)∧W.cell? ⟨w.heap.size,5,none⟩=some (.int .i64 l)∧W.cell? ⟨w.heap.size,6,none⟩=some (.int .i64 e)∧W.cell? ⟨w.heap.size,7,none⟩=some (.bool b)∧W.cell? ⟨w.heap.size,8,none⟩=some (.int .i64 v)∧W.cell? ⟨w.heap.size,9,none⟩=some (.int .i64 r)∧W.cell? ⟨w.heap.size+1,0,none⟩=some (.slice ia il ic)∧W.cell? ⟨w.heap.size+1,1,none⟩=some (.int .i64 om)∧W.cell? ⟨w.heap.size+1,2,none⟩=some (.slice oa ol oc)∧W.cell? ⟨w.heap.size+1,3,none⟩=some (.int .i64 wl)∧W.cell? ⟨w.heap.size+1,4,none⟩=some (.int .i64 pn)∧W.cell? ⟨w.heap.size+1,5,none⟩=some (.slice pa pl pc)∧W.cell? ⟨w.heap.size+1,6,none⟩=some (.slice la ll lc))∧w.heap.size<W.heap.size∧w.heap.size+1<W.heap.size))) (jK) ?_ (fun hHeld=>?_)
    ·(try dsimp only);((first|((repeat(first|(with_reducible assumption)|(with_reducible refine aq ?_ (jF))|(with_reducible refine aq ?_ (aj (Below.refl _ _)))|(with_reducible refine aq ?_ (ai _ _))));done)|(refine⟨⟨?_,?_,?_,?_,?_,?_,?_,?_,?_,?_,?_,?_,?_,?_,?_,?_,?_⟩,?_,?_⟩<;>first|(go_keep;done)|(simp;done)|(simp;omega)|omega)))
    refine kV 0 ?_
    refine kV 1 ?_
    refine rD 2 (fun K hK=>?_)
    go_simp
    (go_at_call 126;refine(ah _ _ _ _).mono ?_;rintro e' w5 ⟨rfl,hw⟩;obtain rfl:=hw.symm;clear hw)
    (try go_wp2_with fail)
    refine hK.out _ _ ?_ (fun jB=>?_)
    ·(try dsimp only);((first|((repeat(first|(with_reducible assumption)|(with_reducible refine aq ?_ (jF))|(with_reducible refine aq ?_ (aj (Below.refl _ _)))|(with_reducible refine aq ?_ (ai _ _))));done)|(refine⟨⟨?_,?_,?_,?_,?_,?_,?_,?_,?_,?_,?_,?_,?_,?_,?_,?_,?_⟩,?_,?_⟩<;>first|(go_keep;done)|(simp;done)|(simp;omega)|omega)))
    clear hK K hHeld
    have hHeld:=jB
    clear jB
    try simp only[Act.put,tA,tZ,tS]
    refine kV 3 ?_
    refine kV 4 ?_
    refine kV 5 ?_
    refine kV 6 ?_
    refine kV 7 ?_
    refine rD 8 (fun K hK=>?_)
    go_simp
    (go_at_call 168;refine(dQ ia il ic om oa ol oc wl pn pa pl pc la ll lc _ d.ins _ (hI.below (ak))).mono ?_;rintro e' w6 ⟨rfl,hb6⟩;obtain⟨hc6,hf6,hs6⟩:=ac hb6)
    (try go_wp2_with fail)
    refine hK.out _ _ ?_ (fun jB=>?_)
    ·(try dsimp only);((first|((repeat(first|(with_reducible assumption)|(with_reducible refine aq ?_ (jF))|(with_reducible refine aq ?_ (aj (Below.refl _ _)))|(with_reducible refine aq ?_ (ai _ _))));done)|(refine⟨⟨?_,?_,?_,?_,?_,?_,?_,?_,?_,?_,?_,?_,?_,?_,?_,?_,?_⟩,?_,?_⟩<;>first|(go_keep;done)|(simp;done)|(simp;omega)|omega)))
    clear hK K hHeld
    have hHeld:=jB
    clear jB
    try simp only[Act.put,tA,tZ,tS]
    refine kV 9 ?_
    refine kV 10 ?_
    refine kV 11 ?_
    refine kV 12 ?_
    refine kV 13 ?_
    refine rD 14 (fun K hK=>?_)
    go_simp
    (go_at_call 169;refine(fq pn pa pl pc la ll lc d.panes d.lates _ (hP.below (ak)) (hL.below (ak))).mono ?_;rintro e' w7 ⟨rfl,hb7⟩;obtain⟨hc7,hf7,hs7⟩:=ac hb7)
    (try go_wp2_with fail)
    refine hK.out _ _ ?_ (fun jB=>?_)
    ·(try dsimp only);((first|((repeat(first|(with_reducible assumption)|(with_reducible refine aq ?_ (jF))|(with_reducible refine aq ?_ (aj (Below.refl _ _)))|(with_reducible refine aq ?_ (ai _ _))));done)|(refine⟨⟨?_,?_,?_,?_,?_,?_,?_,?_,?_,?_,?_,?_,?_,?_,?_,?_,?_⟩,?_,?_⟩<;>first|(go_keep;done)|(simp;done)|(simp;omega)|omega)))
    clear hK K hHeld
    have hHeld:=jB
    clear jB
    try simp only[Act.put,tA,tZ,tS]
    refine kV 15 ?_
    refine kV 16 ?_
    refine kU 17 ?_
    try simp only[Act.put,tA,tZ,tS]
    refine kU 18 ?_
    try simp only[Act.put,tA,tZ,tS]
    refine kU 19 ?_
    try simp only[Act.put,tA,tZ,tS]
    refine kU 20 ?_
    try simp only[Act.put,tA,tZ,tS]
    refine kV 21 ?_
    refine kV 22 ?_
    refine wpAnyH_done (jK) ?_ _
    go_wp2
    go_ret
    exact⟨af (aa HE).symm,(ak)⟩
   by_cases q5:pn=0
   rotate_left
   ·have q5':(pn==0)=false:=beq_eq_false_iff_ne.2 q5
    clear q5
    have HE:Hid (bc s t k z p l e v r om wl pn d=false):=ab ((aa HW).trans (by rw[q3,q4,q5'];rfl))
    go_wp2_with fail
    refine wp_region_held_drew (S:=(fun W=>((W.cell? ⟨w.heap.size,0,none⟩=some (.int .i64 s)∧W.cell? ⟨w.heap.size,1,none⟩=some (.int .i64 t)∧W.cell? ⟨w.heap.size,2,none⟩=some (.int .i64 k)∧W.cell? ⟨w.heap.size,3,none⟩=some (.int .i64 z)∧W.cell? ⟨w.heap.size,4,none⟩=some (.int .i64 p)∧W.cell? ⟨w.heap.size,5,none⟩=some (.int .i64 l)∧W.cell? ⟨w.heap.size,6,none⟩=some (.int .i64 e)∧W.cell? ⟨w.heap.size,7,none⟩=some (.bool b)∧W.cell? ⟨w.heap.size,8,none⟩=some (.int .i64 v)∧W.cell? ⟨w.heap.size,9,none⟩=some (.int .i64 r)∧W.cell? ⟨w.heap.size+1,0,none⟩=some (.slice ia il ic)∧W.cell? ⟨w.heap.size+1,1,none⟩=some (.int .i64 om)∧W.cell? ⟨w.heap.size+1,2,none⟩=some (.slice oa ol oc)∧W.cell? ⟨w.heap.size+1,3,none⟩=some (.int .i64 wl)∧W.cell? ⟨w.heap.size+1,4,none⟩=some (.int .i64 pn)∧W.cell? ⟨w.heap.size+1,5,none⟩=some (.slice pa pl pc)∧W.cell? ⟨w.heap.size+1,6,none⟩=some (.slice la ll lc))∧w.heap.size<W.heap.size∧w.heap.size+1<W.heap.size))) (jK) ?_ (fun hHeld=>?_)
    ·(try dsimp only);((first|((repeat(first|(with_reducible assumption)|(with_reducible refine aq ?_ (jF))|(with_reducible refine aq ?_ (aj (Below.refl _ _)))|(with_reducible refine aq ?_ (ai _ _))));done)|(refine⟨⟨?_,?_,?_,?_,?_,?_,?_,?_,?_,?_,?_,?_,?_,?_,?_,?_,?_⟩,?_,?_⟩<;>first|(go_keep;done)|(simp;done)|(simp;omega)|omega)))
    refine kV 0 ?_
    refine kV 1 ?_
    refine rD 2 (fun K hK=>?_)
    go_simp
    (go_at_call 126;refine(ah _ _ _ _).mono ?_;rintro e' w5 ⟨rfl,hw⟩;obtain rfl:=hw.symm;clear hw)
    (try go_wp2_with fail)
    refine hK.out _ _ ?_ (fun jB=>?_)
    ·(try dsimp only);((first|((repeat(first|(with_reducible assumption)|(with_reducible refine aq ?_ (jF))|(with_reducible refine aq ?_ (aj (Below.refl _ _)))|(with_reducible refine aq ?_ (ai _ _))));done)|(refine⟨⟨?_,?_,?_,?_,?_,?_,?_,?_,?_,?_,?_,?_,?_,?_,?_,?_,?_⟩,?_,?_⟩<;>first|(go_keep;done)|(simp;done)|(simp;omega)|omega)))
    clear hK K hHeld
    have hHeld:=jB
    clear jB
    try simp only[Act.put,tA,tZ,tS]
    refine kV 3 ?_
    refine kV 4 ?_
    refine kV 5 ?_
    refine kV 6 ?_
    refine kV 7 ?_
    refine rD 8 (fun K hK=>?_)
    go_simp
    (go_at_call 168;refine(dQ ia il ic om oa ol oc wl pn pa pl pc la ll lc _ d.ins _ (hI.below (ak))).mono ?_;rintro e' w6 ⟨rfl,hb6⟩;obtain⟨hc6,hf6,hs6⟩:=ac hb6)
    (try go_wp2_with fail)
    refine hK.out _ _ ?_ (fun jB=>?_)
    ·(try dsimp only);((first|((repeat(first|(with_reducible assumption)|(with_reducible refine aq ?_ (jF))|(with_reducible refine aq ?_ (aj (Below.refl _ _)))|(with_reducible refine aq ?_ (ai _ _))));done)|(refine⟨⟨?_,?_,?_,?_,?_,?_,?_,?_,?_,?_,?_,?_,?_,?_,?_,?_,?_⟩,?_,?_⟩<;>first|(go_keep;done)|(simp;done)|(simp;omega)|omega)))
    clear hK K hHeld
    have hHeld:=jB
    clear jB
    try simp only[Act.put,tA,tZ,tS]
    refine kV 9 ?_
    refine kV 10 ?_
    refine kV 11 ?_
    refine kV 12 ?_
    refine kV 13 ?_
    refine rD 14 (fun K hK=>?_)
    go_simp
    (go_at_call 169;refine(fq pn pa pl pc la ll lc d.panes d.lates _ (hP.below (ak)) (hL.below (ak))).mono ?_;rintro e' w7 ⟨rfl,hb7⟩;obtain⟨hc7,hf7,hs7⟩:=ac hb7)
    (try go_wp2_with fail)
    refine hK.out _ _ ?_ (fun jB=>?_)
    ·(try dsimp only);((first|((repeat(first|(with_reducible assumption)|(with_reducible refine aq ?_ (jF))|(with_reducible refine aq ?_ (aj (Below.refl _ _)))|(with_reducible refine aq ?_ (ai _ _))));done)|(refine⟨⟨?_,?_,?_,?_,?_,?_,?_,?_,?_,?_,?_,?_,?_,?_,?_,?_,?_⟩,?_,?_⟩<;>first|(go_keep;done)|(simp;done)|(simp;omega)|omega)))
    clear hK K hHeld
    have hHeld:=jB
    clear jB
    try simp only[Act.put,tA,tZ,tS]
    refine kV 15 ?_
    refine kV 16 ?_
    refine kV 17 ?_
    refine kV 18 ?_
    refine kV 19 ?_
    refine kV 20 ?_
    refine kV 21 ?_
    refine kV 22 ?_
    refine wpAnyH_done (jK) ?_ _
    go_wp2
    go_ret
    exact⟨af (aa HE).symm,(ak)⟩
   have q5':(pn==0)=true:=beq_iff_eq.2 q5
   clear q5
   have HE:Hid (bc s t k z p l e v r om wl pn d=true):=ab ((aa HW).trans (by rw[q3,q4,q5',hl'];rfl))
   go_wp2_with fail
   refine wp_region_held_drew (S:=(fun W=>((W.cell? ⟨w.heap.size,0,none⟩=some (.int .i64 s)∧W.cell? ⟨w.heap.size,1,none⟩=some (.int .i64 t)∧W.cell? ⟨w.heap.size,2,none⟩=some (.int .i64 k)∧W.cell? ⟨w.heap.size,3,none⟩=some (.int .i64 z)∧W.cell? ⟨w.heap.size,4,none⟩=some (.int .i64 p)∧W.cell? ⟨w.heap.size,5,none⟩=some (.int .i64 l)∧W.cell? ⟨w.heap.size,6,none⟩=some (.int .i64 e)∧W.cell? ⟨w.heap.size,7,none⟩=some (.bool b)∧W.cell? ⟨w.heap.size,8,none⟩=some (.int .i64 v)∧W.cell? ⟨w.heap.size,9,none⟩=some (.int .i64 r)∧W.cell? ⟨w.heap.size+1,0,none⟩=some (.slice ia il ic)∧W.cell? ⟨w.heap.size+1,1,none⟩=some (.int .i64 om)∧W.cell? ⟨w.heap.size+1,2,none⟩=some (.slice oa ol oc)∧W.cell? ⟨w.heap.size+1,3,none⟩=some (.int .i64 wl)∧W.cell? ⟨w.heap.size+1,4,none⟩=some (.int .i64 pn)∧W.cell? ⟨w.heap.size+1,5,none⟩=some (.slice pa pl pc)∧W.cell? ⟨w.heap.size+1,6,none⟩=some (.slice la ll lc))∧w.heap.size<W.heap.size∧w.heap.size+1<W.heap.size))) (jK) ?_ (fun hHeld=>?_)
   ·(try dsimp only);((first|((repeat(first|(with_reducible assumption)|(with_reducible refine aq ?_ (jF))|(with_reducible refine aq ?_ (aj (Below.refl _ _)))|(with_reducible refine aq ?_ (ai _ _))));done)|(refine⟨⟨?_,?_,?_,?_,?_,?_,?_,?_,?_,?_,?_,?_,?_,?_,?_,?_,?_⟩,?_,?_⟩<;>first|(go_keep;done)|(simp;done)|(simp;omega)|omega)))
   refine kV 0 ?_
   refine kV 1 ?_
   refine rD 2 (fun K hK=>?_)
   go_simp
   (go_at_call 126;refine(ah _ _ _ _).mono ?_;rintro e' w5 ⟨rfl,hw⟩;obtain rfl:=hw.symm;clear hw)
   (try go_wp2_with fail)
   refine hK.out _ _ ?_ (fun jB=>?_)
   ·(try dsimp only);((first|((repeat(first|(with_reducible assumption)|(with_reducible refine aq ?_ (jF))|(with_reducible refine aq ?_ (aj (Below.refl _ _)))|(with_reducible refine aq ?_ (ai _ _))));done)|(refine⟨⟨?_,?_,?_,?_,?_,?_,?_,?_,?_,?_,?_,?_,?_,?_,?_,?_,?_⟩,?_,?_⟩<;>first|(go_keep;done)|(simp;done)|(simp;omega)|omega)))
   clear hK K hHeld
   have hHeld:=jB
   clear jB
   try simp only[Act.put,tA,tZ,tS]
   refine kV 3 ?_
   refine kV 4 ?_
   refine kV 5 ?_
   refine kV 6 ?_
   refine kV 7 ?_
   refine rD 8 (fun K hK=>?_)
   go_simp
   (go_at_call 168;refine(dQ ia il ic om oa ol oc wl pn pa pl pc la ll lc _ d.ins _ (hI.below (ak))).mono ?_;rintro e' w6 ⟨rfl,hb6⟩;obtain⟨hc6,hf6,hs6⟩:=ac hb6)
   (try go_wp2_with fail)
   refine hK.out _ _ ?_ (fun jB=>?_)
   ·(try dsimp only);((first|((repeat(first|(with_reducible assumption)|(with_reducible refine aq ?_ (jF))|(with_reducible refine aq ?_ (aj (Below.refl _ _)))|(with_reducible refine aq ?_ (ai _ _))));done)|(refine⟨⟨?_,?_,?_,?_,?_,?_,?_,?_,?_,?_,?_,?_,?_,?_,?_,?_,?_⟩,?_,?_⟩<;>first|(go_keep;done)|(simp;done)|(simp;omega)|omega)))
   clear hK K hHeld
   have hHeld:=jB
   clear jB
   try simp only[Act.put,tA,tZ,tS]
   refine kV 9 ?_
   refine kV 10 ?_
   refine kV 11 ?_
   refine kV 12 ?_
   refine kV 13 ?_
   refine rD 14 (fun K hK=>?_)
   go_simp
   (go_at_call 169;refine(fq pn pa pl pc la ll lc d.panes d.lates _ (hP.below (ak)) (hL.below (ak))).mono ?_;rintro e' w7 ⟨rfl,hb7⟩;obtain⟨hc7,hf7,hs7⟩:=ac hb7)
   (try go_wp2_with fail)
   refine hK.out _ _ ?_ (fun jB=>?_)
   ·(try dsimp only);((first|((repeat(first|(with_reducible assumption)|(with_reducible refine aq ?_ (jF))|(with_reducible refine aq ?_ (aj (Below.refl _ _)))|(with_reducible refine aq ?_ (ai _ _))));done)|(refine⟨⟨?_,?_,?_,?_,?_,?_,?_,?_,?_,?_,?_,?_,?_,?_,?_,?_,?_⟩,?_,?_⟩<;>first|(go_keep;done)|(simp;done)|(simp;omega)|omega)))
   clear hK K hHeld
   have hHeld:=jB
   clear jB
   try simp only[Act.put,tA,tZ,tS]
   refine kV 15 ?_
   refine kV 16 ?_
   refine kV 17 ?_
   refine kV 18 ?_
   refine kV 19 ?_
   refine kV 20 ?_
   refine kV 21 ?_
   refine kV 22 ?_
   refine wpAnyH_done (jK) ?_ _
   go_wp2
   go_ret
   exact⟨af (aa HE).symm,(ak)⟩
end Go.Proofs.YtealpjmannopeaaGreat
