/- Laid together: what the claim needs of the texts that were built one by one. -/
import Derived.Test.YtealpjmannopeaaGreatX11
import Derived.Test.YtealpjmannopeaaGreatX21
import Derived.Deep.RegionHeld3
import Derived.Test.YtealpjmannopeaaGreatX0
set_option linter.unusedVariables false
namespace Go.Proofs.YtealpjmannopeaaGreat
open Go.ChangeShapes Go.WideShapes Go.ChangeAt Go.RowKit Go.Deep
def cK(m:Int):Bool:=aP m (-1) 40
theorem gF(n:Int)(w:World):Calls Tryz.prog 182 #[.int .i64 n] w fun e w'=>e= .returned (.bool (fN n))∧Below w.heap.size w w':=by
 go_enter Tryz.func182,Tryz.ntmps182
 go_wp2_with (go_at_call 126;refine(ah _ _ _ _).mono ?_;rintro e' w1 ⟨rfl,hw⟩;obtain rfl:=hw.symm;clear hw)
 go_ret
 exact⟨rfl,Below.refl _ _⟩
theorem atok_any(n:Int)(w:World):Calls Tryz.prog 154 #[.int .i64 n] w fun e w'=>e= .returned (.bool (el n))∧Below w.heap.size w w':=by
 go_enter Tryz.func154,Tryz.ntmps154
 go_wp2_with (go_at_call 126;refine(ah _ _ _ _).mono ?_;rintro e' w1 ⟨rfl,hw⟩;obtain rfl:=hw.symm;clear hw)
 go_ret
 exact⟨rfl,Below.refl _ _⟩
theorem i6(n:Int)(w:World):Calls Tryz.prog 158 #[.int .i64 n] w fun e w'=>e= .returned (.bool (cK n))∧Below w.heap.size w w':=by
 go_enter Tryz.func158,Tryz.ntmps158
 go_wp2_with (go_at_call 126;refine(ah _ _ _ _).mono ?_;rintro e' w1 ⟨rfl,hw⟩;obtain rfl:=hw.symm;clear hw)
 go_ret
 exact⟨rfl,Below.refl _ _⟩
set_option maxRecDepth 20000 in
set_option maxHeartbeats 1000000 in
theorem everyMk(a:Option Addr)(len cap:Nat)(xs:List Int)(w:World)(h:fB w a len xs):Calls Tryz.prog 153 #[.slice a len cap,.func (.func 182) #[] #[]] w fun e w'=>e= .returned (.bool (xs.all fN))∧Below w.heap.size w w':=by
 have hm:=h.2.1
 unfold maxLen at hm
 go_enter Tryz.func153,Tryz.ntmps153
 go_wp2
 go_loopw [9] (fun i wr=>∃k:Nat,k≤len∧i= .int .i64 k∧Hid ((xs.take k).all fN=true)∧Below w.heap.size w wr) (fun i _=>len - (intOf i).toNat)
 case atStart=>exact⟨0,Nat.zero_le _,rfl,ab (by simp),Below.refl _ _⟩
 case round=>
  obtain⟨k,hk,rfl,hA,hbw⟩:=hrel
  by_cases hlt:k<len
  ·obtain⟨hxl,_,hx⟩:=h
   obtain⟨g,o,rfl,hr⟩:=hx.resolve_left (by omega)
   obtain⟨x,hxk⟩:∃x,xs[k]? =some x:=⟨_,List.getElem?_eq_getElem (by omega)⟩
   have hX:=ab hxk
   have d0:=(hbw.cell (p:=⟨g,o+k,none⟩) (hr.lt (by omega))).trans (hr k _ hxk)
   clear hx hxk hr
   cases hB:fN x
   ·have HE:Hid (xs.all fN=false):=ab (all_ff (aa hX) hB)
    go_wp2_with (go_at_call 182;refine(gF _ _).mono ?_;rw[hB];rintro e wf ⟨rfl,hbf⟩)
    go_ret
    exact⟨af (aa HE).symm,(ak)⟩
   ·have HE:Hid ((xs.take (k+1)).all fN=true):=ab (all_tt (aa hA) (aa hX) hB)
    go_wp2_with (go_at_call 182;refine(gF _ _).mono ?_;rw[hB];rintro e wf ⟨rfl,hbf⟩)
    go_roundw
    case rel=>exact⟨k+1,by omega,by go_num,HE,(ak)⟩
    case measure=>simp[intOf];omega
  ·have HE:Hid (xs.all fN=true):=ab (by have h1:=aa hA;rwa [List.take_of_length_le (by have:=h.1;omega)]at h1)
   go_wp2
   go_ret
   exact⟨af (aa HE).symm,hbw⟩
set_option maxRecDepth 20000 in
set_option maxHeartbeats 1000000 in
theorem everyAt(a:Option Addr)(len cap:Nat)(xs:List Int)(w:World)(h:fB w a len xs):Calls Tryz.prog 153 #[.slice a len cap,.func (.func 154) #[] #[]] w fun e w'=>e= .returned (.bool (xs.all el))∧Below w.heap.size w w':=by
 have hm:=h.2.1
 unfold maxLen at hm
 go_enter Tryz.func153,Tryz.ntmps153
 go_wp2
 go_loopw [9] (fun i wr=>∃k:Nat,k≤len∧i= .int .i64 k∧Hid ((xs.take k).all el=true)∧Below w.heap.size w wr) (fun i _=>len - (intOf i).toNat)
 case atStart=>exact⟨0,Nat.zero_le _,rfl,ab (by simp),Below.refl _ _⟩
 case round=>
  obtain⟨k,hk,rfl,hA,hbw⟩:=hrel
  by_cases hlt:k<len
  ·obtain⟨hxl,_,hx⟩:=h
   obtain⟨g,o,rfl,hr⟩:=hx.resolve_left (by omega)
   obtain⟨x,hxk⟩:∃x,xs[k]? =some x:=⟨_,List.getElem?_eq_getElem (by omega)⟩
   have hX:=ab hxk
   have d0:=(hbw.cell (p:=⟨g,o+k,none⟩) (hr.lt (by omega))).trans (hr k _ hxk)
   clear hx hxk hr
   cases hB:el x
   ·have HE:Hid (xs.all el=false):=ab (all_ff (aa hX) hB)
    go_wp2_with (go_at_call 154;refine(atok_any _ _).mono ?_;rw[hB];rintro e wf ⟨rfl,hbf⟩)
    go_ret
    exact⟨af (aa HE).symm,(ak)⟩
   ·have HE:Hid ((xs.take (k+1)).all el=true):=ab (all_tt (aa hA) (aa hX) hB)
    go_wp2_with (go_at_call 154;refine(atok_any _ _).mono ?_;rw[hB];rintro e wf ⟨rfl,hbf⟩)
    go_roundw
    case rel=>exact⟨k+1,by omega,by go_num,HE,(ak)⟩
    case measure=>simp[intOf];omega
  ·have HE:Hid (xs.all el=true):=ab (by have h1:=aa hA;rwa [List.take_of_length_le (by have:=h.1;omega)]at h1)
   go_wp2
   go_ret
   exact⟨af (aa HE).symm,hbw⟩
set_option maxRecDepth 20000 in
set_option maxHeartbeats 1000000 in
theorem everyRng(a:Option Addr)(len cap:Nat)(xs:List Int)(w:World)(h:fB w a len xs):Calls Tryz.prog 153 #[.slice a len cap,.func (.func 158) #[] #[]] w fun e w'=>e= .returned (.bool (xs.all cK))∧Below w.heap.size w w':=by
 have hm:=h.2.1
 unfold maxLen at hm
 go_enter Tryz.func153,Tryz.ntmps153
 go_wp2
 go_loopw [9] (fun i wr=>∃k:Nat,k≤len∧i= .int .i64 k∧Hid ((xs.take k).all cK=true)∧Below w.heap.size w wr) (fun i _=>len - (intOf i).toNat)
 case atStart=>exact⟨0,Nat.zero_le _,rfl,ab (by simp),Below.refl _ _⟩
 case round=>
  obtain⟨k,hk,rfl,hA,hbw⟩:=hrel
  by_cases hlt:k<len
  ·obtain⟨hxl,_,hx⟩:=h
   obtain⟨g,o,rfl,hr⟩:=hx.resolve_left (by omega)
   obtain⟨x,hxk⟩:∃x,xs[k]? =some x:=⟨_,List.getElem?_eq_getElem (by omega)⟩
   have hX:=ab hxk
   have d0:=(hbw.cell (p:=⟨g,o+k,none⟩) (hr.lt (by omega))).trans (hr k _ hxk)
   clear hx hxk hr
   cases hB:cK x
   ·have HE:Hid (xs.all cK=false):=ab (all_ff (aa hX) hB)
    go_wp2_with (go_at_call 158;refine(i6 _ _).mono ?_;rw[hB];rintro e wf ⟨rfl,hbf⟩)
    go_ret
    exact⟨af (aa HE).symm,(ak)⟩
   ·have HE:Hid ((xs.take (k+1)).all cK=true):=ab (all_tt (aa hA) (aa hX) hB)
    go_wp2_with (go_at_call 158;refine(i6 _ _).mono ?_;rw[hB];rintro e wf ⟨rfl,hbf⟩)
    go_roundw
    case rel=>exact⟨k+1,by omega,by go_num,HE,(ak)⟩
    case measure=>simp[intOf];omega
  ·have HE:Hid (xs.all cK=true):=ab (by have h1:=aa hA;rwa [List.take_of_length_le (by have:=h.1;omega)]at h1)
   go_wp2
   go_ret
   exact⟨af (aa HE).symm,hbw⟩
/-- The least of ints. -/
def gv:List Int→Int
 | []=>0
 |m :: r=>r.foldl loI m
theorem minL_take{ms:List Int}{k:Nat}{m:Int}(h0:1≤k)(h:ms[k]? =some m):gv (ms.take (k+1))=loI (gv (ms.take k)) m:=by
 obtain⟨hk,he⟩:=List.getElem?_eq_some_iff.1 h
 rw[List.take_succ_eq_append_getElem hk,he]
 cases ms with
 |nil=>simp at hk
 |cons a r=>
  obtain⟨k',rfl⟩:∃k',k=k'+1:=⟨k - 1,by omega⟩
  simp[gv,List.foldl_append]
theorem minL_low{ms:List Int}(h:ms.all fN=true)(h0:0<ms.length):gv ms=gn ms:=by
 cases ms with
 |nil=>simp at h0
 |cons m r=>
  have hm:fN m=true:=by simp at h;exact h.1
  have hb:=aZ.1 hm
  have e:loI 1000 m=m:=by unfold loI;split<;>omega
  show r.foldl loI m=r.foldl loI (loI 1000 m)
  rw[e]
set_option maxRecDepth 20000 in
set_option maxHeartbeats 1000000 in
theorem min_any(a:Option Addr)(len cap:Nat)(xs:List Int)(w:World)(h:fB w a len xs)(h0:0<len):Calls Tryz.prog 183 #[.slice a len cap] w fun e w'=>e= .returned (.int .i64 (gv xs))∧Below w.heap.size w w':=by
 have hm:=h.2.1
 unfold maxLen at hm
 obtain⟨hxl,_,hx⟩:=h
 obtain⟨g,o,rfl,hr⟩:=hx.resolve_left (by omega)
 have hg:=hr.lt (by omega)
 obtain⟨x0,hx0⟩:∃x,xs[0]? =some x:=⟨_,List.getElem?_eq_getElem (by omega)⟩
 have c0:=hr 0 _ hx0
 have hM:Hid (gv (xs.take 1)=x0):=ab (by cases xs with|nil=>simp at hx0|cons q r=>simp at hx0;subst hx0;rfl)
 rw[Nat.add_zero]at c0
 have hn1:¬ (len:Int)<1:=by omega
 go_enter Tryz.func183,Tryz.ntmps183
 go_wp2
 go_loopw [3,4] (fun mv i wr=>∃k:Nat,1≤k∧k≤len∧i= .int .i64 k∧mv= .int .i64 (gv (xs.take k))∧Below w.heap.size w wr) (fun _ i _=>len - (intOf i).toNat)
 case atStart=>exact⟨1,Nat.le_refl _,by omega,rfl,by rw[aa hM],Below.refl _ _⟩
 case round=>
  obtain⟨k,hk1,hk,rfl,rfl,hbw⟩:=hrel
  by_cases hlt:k<len
  ·obtain⟨x,hxk⟩:∃x,xs[k]? =some x:=⟨_,List.getElem?_eq_getElem (by omega)⟩
   have d0:=(hbw.cell (p:=⟨g,o+k,none⟩) hg).trans (hr k _ hxk)
   have hmt:=minL_take hk1 hxk
   generalize gv (xs.take k)=lo at hmt
   have HM:=ab hmt
   have hltI:(k:Int)<(len:Int):=by omega
   clear hxk hmt hr hx hx0
   by_cases hc:x<lo
   ·have HL:Hid (gv (xs.take (k+1))=x):=ab (by rw[aa HM,loI_c hc])
    go_wp2
    go_roundw
    case rel=>exact⟨k+1,by omega,by omega,by go_num,by rw[aa HL],(ak)⟩
    case measure=>simp[intOf];omega
   ·have HL:Hid (gv (xs.take (k+1))=lo):=ab (by rw[aa HM,loI_a hc])
    go_wp2
    go_roundw
    case rel=>exact⟨k+1,by omega,by omega,by go_num,by rw[aa HL],(ak)⟩
    case measure=>simp[intOf];omega
  ·have HE:Hid (gv (xs.take k)=gv xs):=ab (by rw[List.take_of_length_le (by omega)])
   go_wp2
   go_ret
   exact⟨db (aa HE),(ak)⟩
theorem aQ{b0 b1 a0 a1 a2 c0 c1 c2 c3 c4 c5 c6 c7 c8 c9:Nat}{k0 k1 k2 l0 l1 l2 l3 l4 l5 l6 l7 l8 l9:Value}{W W':World}(h:((W.cell? ⟨b0,a0,none⟩=some k0∧W.cell? ⟨b0,a1,none⟩=some k1∧W.cell? ⟨b0,a2,none⟩=some k2∧W.cell? ⟨b1,c0,none⟩=some l0∧W.cell? ⟨b1,c1,none⟩=some l1∧W.cell? ⟨b1,c2,none⟩=some l2∧W.cell? ⟨b1,c3,none⟩=some l3∧W.cell? ⟨b1,c4,none⟩=some l4∧W.cell? ⟨b1,c5,none⟩=some l5∧W.cell? ⟨b1,c6,none⟩=some l6∧W.cell? ⟨b1,c7,none⟩=some l7∧W.cell? ⟨b1,c8,none⟩=some l8∧W.cell? ⟨b1,c9,none⟩=some l9)∧b0<W.heap.size∧b1<W.heap.size))(hb:Below W.heap.size W W'):((W'.cell? ⟨b0,a0,none⟩=some k0∧W'.cell? ⟨b0,a1,none⟩=some k1∧W'.cell? ⟨b0,a2,none⟩=some k2∧W'.cell? ⟨b1,c0,none⟩=some l0∧W'.cell? ⟨b1,c1,none⟩=some l1∧W'.cell? ⟨b1,c2,none⟩=some l2∧W'.cell? ⟨b1,c3,none⟩=some l3∧W'.cell? ⟨b1,c4,none⟩=some l4∧W'.cell? ⟨b1,c5,none⟩=some l5∧W'.cell? ⟨b1,c6,none⟩=some l6∧W'.cell? ⟨b1,c7,none⟩=some l7∧W'.cell? ⟨b1,c8,none⟩=some l8∧W'.cell? ⟨b1,c9,none⟩=some l9)∧b0<W'.heap.size∧b1<W'.heap.size):=by
 obtain⟨h99,s0,s1⟩:=h
 have e0:∀z,W'.cell? ⟨b0,z,none⟩=W.cell? ⟨b0,z,none⟩:=fun z=>hb.cell s0
 have e1:∀z,W'.cell? ⟨b1,z,none⟩=W.cell? ⟨b1,z,none⟩:=fun z=>hb.cell s1
 refine⟨?_,Nat.lt_of_lt_of_le s0 hb.size,Nat.lt_of_lt_of_le s1 hb.size⟩
 simp only[e0,e1]
 exact h99
set_option linter.unusedSimpArgs false in
set_option maxRecDepth 20000 in
set_option maxHeartbeats 4000000 in
theorem fT(s t k z p l e:Int)(b:Bool)(v r:Int)(x:cD)(a1:Option Addr)(l1 c1:Nat)(a2:Option Addr)(l2 c2:Nat)(B:Nat)(w:World)(h1:dN w B a1 l1 x.rows)(h2:bn w B a2 l2 x.marks):Calls Tryz.prog 157 #[.agg #[.int .i64 x.ma,.slice a1 l1 c1,.slice a2 l2 c2],.agg #[.int .i64 s,.int .i64 t,.int .i64 k,.int .i64 z,.int .i64 p,.int .i64 l,.int .i64 e,.bool b,.int .i64 v,.int .i64 r]] w fun e' w'=>e'= .returned (.bool (bI s t k z p l e v r x))∧Below w.heap.size w w':=by
 have le2:=h2.len.1
 have hm2:=h2.len.2
 unfold maxLen at hm2
 cases ho:cl s t k z p l e v r x.ma x.rows
 ·skip
  have HE:Hid (bI s t k z p l e v r x=false):=ab (by unfold bI;rw[ho];rfl)
  go_enter Tryz.func157,Tryz.ntmps157
  go_wp2_with fail
  refine wp_region_held_drew (S:=(fun W=>((W.cell? ⟨w.heap.size,0,none⟩=some (.int .i64 x.ma)∧W.cell? ⟨w.heap.size,1,none⟩=some (.slice a1 l1 c1)∧W.cell? ⟨w.heap.size,2,none⟩=some (.slice a2 l2 c2)∧W.cell? ⟨w.heap.size+1,0,none⟩=some (.int .i64 s)∧W.cell? ⟨w.heap.size+1,1,none⟩=some (.int .i64 t)∧W.cell? ⟨w.heap.size+1,2,none⟩=some (.int .i64 k)∧W.cell? ⟨w.heap.size+1,3,none⟩=some (.int .i64 z)∧W.cell? ⟨w.heap.size+1,4,none⟩=some (.int .i64 p)∧W.cell? ⟨w.heap.size+1,5,none⟩=some (.int .i64 l)∧W.cell? ⟨w.heap.size+1,6,none⟩=some (.int .i64 e)∧W.cell? ⟨w.heap.size+1,7,none⟩=some (.bool b)∧W.cell? ⟨w.heap.size+1,8,none⟩=some (.int .i64 v)∧W.cell? ⟨w.heap.size+1,9,none⟩=some (.int .i64 r))∧w.heap.size<W.heap.size∧w.heap.size+1<W.heap.size))) (jK) ?_ (fun hHeld=>?_)
  ·(try dsimp only);((first|((repeat(first|(with_reducible assumption)|(with_reducible refine aQ ?_ (jF))|(with_reducible refine aQ ?_ (aj (Below.refl _ _)))|(with_reducible refine aQ ?_ (ai _ _))));done)|(refine⟨⟨?_,?_,?_,?_,?_,?_,?_,?_,?_,?_,?_,?_,?_⟩,?_,?_⟩<;>first|(go_keep;done)|(simp;done)|(simp;omega)|omega)))
  refine kV 0 ?_
  refine kV 1 ?_
  refine kV 2 ?_
  refine rD 3 (fun K hK=>?_)
  go_simp
  (go_at_call 165;refine(bx s t k z p l e b v r x.ma a1 l1 c1 x.rows _ (h1.1.below (ak))).mono ?_;rw[ho];rintro e' y1 ⟨rfl,hb⟩;obtain⟨hc,hf,hs⟩:=ac hb)
  (try go_wp2_with fail)
  refine hK.out _ _ ?_ (fun jB=>?_)
  ·(try dsimp only);((first|((repeat(first|(with_reducible assumption)|(with_reducible refine aQ ?_ (jF))|(with_reducible refine aQ ?_ (aj (Below.refl _ _)))|(with_reducible refine aQ ?_ (ai _ _))));done)|(refine⟨⟨?_,?_,?_,?_,?_,?_,?_,?_,?_,?_,?_,?_,?_⟩,?_,?_⟩<;>first|(go_keep;done)|(simp;done)|(simp;omega)|omega)))
  clear hK K hHeld
  have hHeld:=jB
  clear jB
  try simp only[Act.put,tA,tZ,tS]
  refine kV 4 ?_
  refine kU 5 ?_
  try simp only[Act.put,tA,tZ,tS]
  refine kU 6 ?_
  try simp only[Act.put,tA,tZ,tS]
  refine kU 7 ?_
  try simp only[Act.put,tA,tZ,tS]
  refine kU 8 ?_
  try simp only[Act.put,tA,tZ,tS]
  refine kU 9 ?_
  try simp only[Act.put,tA,tZ,tS]
  refine kU 10 ?_
  try simp only[Act.put,tA,tZ,tS]
  refine kV 11 ?_
  refine kV 12 ?_
  refine kU 13 ?_
  try simp only[Act.put,tA,tZ,tS]
  refine kU 14 ?_
  try simp only[Act.put,tA,tZ,tS]
  refine kU 15 ?_
  try simp only[Act.put,tA,tZ,tS]
  refine kV 16 ?_
  refine kV 17 ?_
  refine kU 18 ?_
  try simp only[Act.put,tA,tZ,tS]
  refine kU 19 ?_
  try simp only[Act.put,tA,tZ,tS]
  refine kU 20 ?_
  try simp only[Act.put,tA,tZ,tS]
  refine kU 21 ?_
  try simp only[Act.put,tA,tZ,tS]
  refine kU 22 ?_
  try simp only[Act.put,tA,tZ,tS]
  refine kU 23 ?_
  try simp only[Act.put,tA,tZ,tS]
  refine kU 24 ?_
  try simp only[Act.put,tA,tZ,tS]
  refine kV 25 ?_
  refine kV 26 ?_
  refine wpAnyH_done (jK) ?_ _
  go_wp2
  go_ret
  exact⟨af (aa HE).symm,(ak)⟩
 by_cases hl:(l2:Int)=s
 rotate_left
 ·have hl1:((l2:Int)==s)=false:=beq_eq_false_iff_ne.2 hl
  have HE:Hid (bI s t k z p l e v r x=false):=ab (by unfold bI;rw[ho,decide_eq_false (by rw[le2];exact hl)];rfl)
  go_enter Tryz.func157,Tryz.ntmps157
  go_wp2_with fail
  refine wp_region_held_drew (S:=(fun W=>((W.cell? ⟨w.heap.size,0,none⟩=some (.int .i64 x.ma)∧W.cell? ⟨w.heap.size,1,none⟩=some (.slice a1 l1 c1)∧W.cell? ⟨w.heap.size,2,none⟩=some (.slice a2 l2 c2)∧W.cell? ⟨w.heap.size+1,0,none⟩=some (.int .i64 s)∧W.cell? ⟨w.heap.size+1,1,none⟩=some (.int .i64 t)∧W.cell? ⟨w.heap.size+1,2,none⟩=some (.int .i64 k)∧W.cell? ⟨w.heap.size+1,3,none⟩=some (.int .i64 z)∧W.cell? ⟨w.heap.size+1,4,none⟩=some (.int .i64 p)∧W.cell? ⟨w.heap.size+1,5,none⟩=some (.int .i64 l)∧W.cell? ⟨w.heap.size+1,6,none⟩=some (.int .i64 e)∧W.cell? ⟨w.heap.size+1,7,none⟩=some (.bool b)∧W.cell? ⟨w.heap.size+1,8,none⟩=some (.int .i64 v)∧W.cell? ⟨w.heap.size+1,9,none⟩=some (.int .i64 r))∧w.heap.size<W.heap.size∧w.heap.size+1<W.heap.size))) (jK) ?_ (fun hHeld=>?_)
  ·(try dsimp only);((first|((repeat(first|(with_reducible assumption)|(with_reducible refine aQ ?_ (jF))|(with_reducible refine aQ ?_ (aj (Below.refl _ _)))|(with_reducible refine aQ ?_ (ai _ _))));done)|(refine⟨⟨?_,?_,?_,?_,?_,?_,?_,?_,?_,?_,?_,?_,?_⟩,?_,?_⟩<;>first|(go_keep;done)|(simp;done)|(simp;omega)|omega)))
  refine kV 0 ?_
  refine kV 1 ?_
  refine kV 2 ?_
  refine rD 3 (fun K hK=>?_)
  go_simp
  (go_at_call 165;refine(bx s t k z p l e b v r x.ma a1 l1 c1 x.rows _ (h1.1.below (ak))).mono ?_;rw[ho];rintro e' y1 ⟨rfl,hb⟩;obtain⟨hc,hf,hs⟩:=ac hb)
  (try go_wp2_with fail)
  refine hK.out _ _ ?_ (fun jB=>?_)
  ·(try dsimp only);((first|((repeat(first|(with_reducible assumption)|(with_reducible refine aQ ?_ (jF))|(with_reducible refine aQ ?_ (aj (Below.refl _ _)))|(with_reducible refine aQ ?_ (ai _ _))));done)|(refine⟨⟨?_,?_,?_,?_,?_,?_,?_,?_,?_,?_,?_,?_,?_⟩,?_,?_⟩<;>first|(go_keep;done)|(simp;done)|(simp;omega)|omega)))
  clear hK K hHeld
  have hHeld:=jB
  clear jB
  try simp only[Act.put,tA,tZ,tS]
  refine kV 4 ?_
  refine kV 5 ?_
  refine kV 6 ?_
  refine kV 7 ?_
  refine kV 8 ?_
  refine kV 9 ?_
  refine kV 10 ?_
  refine kV 11 ?_
  refine kV 12 ?_
  refine kU 13 ?_
  try simp only[Act.put,tA,tZ,tS]
  refine kU 14 ?_
  try simp only[Act.put,tA,tZ,tS]
  refine kU 15 ?_
  try simp only[Act.put,tA,tZ,tS]
  refine kV 16 ?_
  refine kV 17 ?_
  refine kU 18 ?_
  try simp only[Act.put,tA,tZ,tS]
  refine kU 19 ?_
  try simp only[Act.put,tA,tZ,tS]
  refine kU 20 ?_
  try simp only[Act.put,tA,tZ,tS]
  refine kU 21 ?_
  try simp only[Act.put,tA,tZ,tS]
  refine kU 22 ?_
  try simp only[Act.put,tA,tZ,tS]
  refine kU 23 ?_
  try simp only[Act.put,tA,tZ,tS]
  refine kU 24 ?_
  try simp only[Act.put,tA,tZ,tS]
  refine kV 25 ?_
  refine kV 26 ?_
  refine wpAnyH_done (jK) ?_ _
  go_wp2
  go_ret
  exact⟨af (aa HE).symm,(ak)⟩
 subst hl
 have hj:aF (l2:Int) t k z p l e v r=true:=by unfold cl at ho;simp only[Bool.and_eq_true]at ho;exact ho.1.1.1
 have hs1:1≤(l2:Int):=by unfold aF at hj;simp only[Bool.and_eq_true]at hj;exact(aZ.1 hj.1.1.1.1.1.1.1.1).1
 clear hj
 cases ha:x.marks.all fN
 ·skip
  have HE:Hid (bI (l2:Int) t k z p l e v r x=false):=ab (by unfold bI;rw[ho,ha];simp)
  go_enter Tryz.func157,Tryz.ntmps157
  go_wp2_with fail
  refine wp_region_held_drew (S:=(fun W=>((W.cell? ⟨w.heap.size,0,none⟩=some (.int .i64 x.ma)∧W.cell? ⟨w.heap.size,1,none⟩=some (.slice a1 l1 c1)∧W.cell? ⟨w.heap.size,2,none⟩=some (.slice a2 l2 c2)∧W.cell? ⟨w.heap.size+1,0,none⟩=some (.int .i64 (l2:Int))∧W.cell? ⟨w.heap.size+1,1,none⟩=some (.int .i64 t)∧W.cell? ⟨w.heap.size+1,2,none⟩=some (.int .i64 k)∧W.cell? ⟨w.heap.size+1,3,none⟩=some (.int .i64 z)∧W.cell? ⟨w.heap.size+1,4,none⟩=some (.int .i64 p)∧W.cell? ⟨w.heap.size+1,5,none⟩=some (.int .i64 l)∧W.cell? ⟨w.heap.size+1,6,none⟩=some (.int .i64 e)∧W.cell? ⟨w.heap.size+1,7,none⟩=some (.bool b)∧W.cell? ⟨w.heap.size+1,8,none⟩=some (.int .i64 v)∧W.cell? ⟨w.heap.size+1,9,none⟩=some (.int .i64 r))∧w.heap.size<W.heap.size∧w.heap.size+1<W.heap.size))) (jK) ?_ (fun hHeld=>?_)
  ·(try dsimp only);((first|((repeat(first|(with_reducible assumption)|(with_reducible refine aQ ?_ (jF))|(with_reducible refine aQ ?_ (aj (Below.refl _ _)))|(with_reducible refine aQ ?_ (ai _ _))));done)|(refine⟨⟨?_,?_,?_,?_,?_,?_,?_,?_,?_,?_,?_,?_,?_⟩,?_,?_⟩<;>first|(go_keep;done)|(simp;done)|(simp;omega)|omega)))
  refine kV 0 ?_
  refine kV 1 ?_
  refine kV 2 ?_
  refine rD 3 (fun K hK=>?_)
  go_simp
  (go_at_call 165;refine(bx (l2:Int) t k z p l e b v r x.ma a1 l1 c1 x.rows _ (h1.1.below (ak))).mono ?_;rw[ho];rintro e' y1 ⟨rfl,hb⟩;obtain⟨hc,hf,hs⟩:=ac hb)
  (try go_wp2_with fail)
  refine hK.out _ _ ?_ (fun jB=>?_)
  ·(try dsimp only);((first|((repeat(first|(with_reducible assumption)|(with_reducible refine aQ ?_ (jF))|(with_reducible refine aQ ?_ (aj (Below.refl _ _)))|(with_reducible refine aQ ?_ (ai _ _))));done)|(refine⟨⟨?_,?_,?_,?_,?_,?_,?_,?_,?_,?_,?_,?_,?_⟩,?_,?_⟩<;>first|(go_keep;done)|(simp;done)|(simp;omega)|omega)))
  clear hK K hHeld
  have hHeld:=jB
  clear jB
  try simp only[Act.put,tA,tZ,tS]
  refine kV 4 ?_
  refine kV 5 ?_
  refine kV 6 ?_
  refine kV 7 ?_
  refine kV 8 ?_
  refine kV 9 ?_
  refine kV 10 ?_
  refine kV 11 ?_
  refine kV 12 ?_
  refine kV 13 ?_
  refine kV 14 ?_
  refine rD 15 (fun K hK=>?_)
  go_simp
  (go_at_call 153;refine(everyMk a2 l2 c2 x.marks _ (h2.1.below (ak))).mono ?_;rw[ha];rintro e' y2 ⟨rfl,hb⟩;obtain⟨hc,hf,hs⟩:=ac hb)
  (try go_wp2_with fail)
  refine hK.out _ _ ?_ (fun jB=>?_)
  ·(try dsimp only);((first|((repeat(first|(with_reducible assumption)|(with_reducible refine aQ ?_ (jF))|(with_reducible refine aQ ?_ (aj (Below.refl _ _)))|(with_reducible refine aQ ?_ (ai _ _))));done)|(refine⟨⟨?_,?_,?_,?_,?_,?_,?_,?_,?_,?_,?_,?_,?_⟩,?_,?_⟩<;>first|(go_keep;done)|(simp;done)|(simp;omega)|omega)))
  clear hK K hHeld
  have hHeld:=jB
  clear jB
  try simp only[Act.put,tA,tZ,tS]
  refine kV 16 ?_
  refine kV 17 ?_
  refine kU 18 ?_
  try simp only[Act.put,tA,tZ,tS]
  refine kU 19 ?_
  try simp only[Act.put,tA,tZ,tS]
  refine kU 20 ?_
  try simp only[Act.put,tA,tZ,tS]
  refine kU 21 ?_
  try simp only[Act.put,tA,tZ,tS]
  refine kU 22 ?_
  try simp only[Act.put,tA,tZ,tS]
  refine kU 23 ?_
  try simp only[Act.put,tA,tZ,tS]
  refine kU 24 ?_
  try simp only[Act.put,tA,tZ,tS]
  refine kV 25 ?_
  refine kV 26 ?_
  refine wpAnyH_done (jK) ?_ _
  go_wp2
  go_ret
  exact⟨af (aa HE).symm,(ak)⟩
 have hml:Hid (gv x.marks=gn x.marks):=ab (minL_low ha (by omega))
 have HE:Hid (bI (l2:Int) t k z p l e v r x=(x.ma==gn x.marks)):=ab (by unfold bI;rw[ho,ha,decide_eq_true (by rw[le2])];rfl)
 go_enter Tryz.func157,Tryz.ntmps157
 go_wp2_with fail
 refine wp_region_held_drew (S:=(fun W=>((W.cell? ⟨w.heap.size,0,none⟩=some (.int .i64 x.ma)∧W.cell? ⟨w.heap.size,1,none⟩=some (.slice a1 l1 c1)∧W.cell? ⟨w.heap.size,2,none⟩=some (.slice a2 l2 c2)∧W.cell? ⟨w.heap.size+1,0,none⟩=some (.int .i64 (l2:Int))∧W.cell? ⟨w.heap.size+1,1,none⟩=some (.int .i64 t)∧W.cell? ⟨w.heap.size+1,2,none⟩=some (.int .i64 k)∧W.cell? ⟨w.heap.size+1,3,none⟩=some (.int .i64 z)∧W.cell? ⟨w.heap.size+1,4,none⟩=some (.int .i64 p)∧W.cell? ⟨w.heap.size+1,5,none⟩=some (.int .i64 l)∧W.cell? ⟨w.heap.size+1,6,none⟩=some (.int .i64 e)∧W.cell? ⟨w.heap.size+1,7,none⟩=some (.bool b)∧W.cell? ⟨w.heap.size+1,8,none⟩=some (.int .i64 v)∧W.cell? ⟨w.heap.size+1,9,none⟩=some (.int .i64 r))∧w.heap.size<W.heap.size∧w.heap.size+1<W.heap.size))) (jK) ?_ (fun hHeld=>?_)
 ·(try dsimp only);((first|((repeat(first|(with_reducible assumption)|(with_reducible refine aQ ?_ (jF))|(with_reducible refine aQ ?_ (aj (Below.refl _ _)))|(with_reducible refine aQ ?_ (ai _ _))));done)|(refine⟨⟨?_,?_,?_,?_,?_,?_,?_,?_,?_,?_,?_,?_,?_⟩,?_,?_⟩<;>first|(go_keep;done)|(simp;done)|(simp;omega)|omega)))
 refine kV 0 ?_
 refine kV 1 ?_
 refine kV 2 ?_
 refine rD 3 (fun K hK=>?_)
 go_simp
 (go_at_call 165;refine(bx (l2:Int) t k z p l e b v r x.ma a1 l1 c1 x.rows _ (h1.1.below (ak))).mono ?_;rw[ho];rintro e' y1 ⟨rfl,hb⟩;obtain⟨hc,hf,hs⟩:=ac hb)
 (try go_wp2_with fail)
 refine hK.out _ _ ?_ (fun jB=>?_)
 ·(try dsimp only);((first|((repeat(first|(with_reducible assumption)|(with_reducible refine aQ ?_ (jF))|(with_reducible refine aQ ?_ (aj (Below.refl _ _)))|(with_reducible refine aQ ?_ (ai _ _))));done)|(refine⟨⟨?_,?_,?_,?_,?_,?_,?_,?_,?_,?_,?_,?_,?_⟩,?_,?_⟩<;>first|(go_keep;done)|(simp;done)|(simp;omega)|omega)))
 clear hK K hHeld
 have hHeld:=jB
 clear jB
 try simp only[Act.put,tA,tZ,tS]
 refine kV 4 ?_
 refine kV 5 ?_
 refine kV 6 ?_
 refine kV 7 ?_
 refine kV 8 ?_
 refine kV 9 ?_
 refine kV 10 ?_
 refine kV 11 ?_
 refine kV 12 ?_
 refine kV 13 ?_
 refine kV 14 ?_
 refine rD 15 (fun K hK=>?_)
 go_simp
 (go_at_call 153;refine(everyMk a2 l2 c2 x.marks _ (h2.1.below (ak))).mono ?_;rw[ha];rintro e' y2 ⟨rfl,hb⟩;obtain⟨hc,hf,hs⟩:=ac hb)
 (try go_wp2_with fail)
 refine hK.out _ _ ?_ (fun jB=>?_)
 ·(try dsimp only);((first|((repeat(first|(with_reducible assumption)|(with_reducible refine aQ ?_ (jF))|(with_reducible refine aQ ?_ (aj (Below.refl _ _)))|(with_reducible refine aQ ?_ (ai _ _))));done)|(refine⟨⟨?_,?_,?_,?_,?_,?_,?_,?_,?_,?_,?_,?_,?_⟩,?_,?_⟩<;>first|(go_keep;done)|(simp;done)|(simp;omega)|omega)))
 clear hK K hHeld
 have hHeld:=jB
 clear jB
 try simp only[Act.put,tA,tZ,tS]
 refine kV 16 ?_
 refine kV 17 ?_
 refine kV 18 ?_
 refine kV 19 ?_
 refine kV 20 ?_
 refine kV 21 ?_
 refine kV 22 ?_
 refine rD 23 (fun K hK=>?_)
 go_simp
 (go_at_call 183;refine(min_any a2 l2 c2 x.marks _ (h2.1.below (ak)) (by omega)).mono ?_;rw[aa hml];rintro e' y3 ⟨rfl,hb⟩;obtain⟨hc,hf,hs⟩:=ac hb)
 (try go_wp2_with fail)
 refine hK.out _ _ ?_ (fun jB=>?_)
 ·(try dsimp only);((first|((repeat(first|(with_reducible assumption)|(with_reducible refine aQ ?_ (jF))|(with_reducible refine aQ ?_ (aj (Below.refl _ _)))|(with_reducible refine aQ ?_ (ai _ _))));done)|(refine⟨⟨?_,?_,?_,?_,?_,?_,?_,?_,?_,?_,?_,?_,?_⟩,?_,?_⟩<;>first|(go_keep;done)|(simp;done)|(simp;omega)|omega)))
 clear hK K hHeld
 have hHeld:=jB
 clear jB
 try simp only[Act.put,tA,tZ,tS]
 refine kV 24 ?_
 refine kV 25 ?_
 refine kV 26 ?_
 refine wpAnyH_done (jK) ?_ _
 go_wp2
 go_ret
 exact⟨af (aa HE).symm,(ak)⟩
/-- A job in a box. -/
def eR(s t k z p l e v r:Int)(b:Bool)(W:World)(jb:Nat):Prop:=(W.cell? ⟨jb,0,none⟩=some (.int .i64 s)∧W.cell? ⟨jb,1,none⟩=some (.int .i64 t)∧W.cell? ⟨jb,2,none⟩=some (.int .i64 k)∧W.cell? ⟨jb,3,none⟩=some (.int .i64 z)∧W.cell? ⟨jb,4,none⟩=some (.int .i64 p)∧W.cell? ⟨jb,5,none⟩=some (.int .i64 l)∧W.cell? ⟨jb,6,none⟩=some (.int .i64 e)∧W.cell? ⟨jb,7,none⟩=some (.bool b)∧W.cell? ⟨jb,8,none⟩=some (.int .i64 v)∧W.cell? ⟨jb,9,none⟩=some (.int .i64 r))
theorem eR.bel{s t k z p l e v r:Int}{b:Bool}{W W':World}{jb B:Nat}(h:eR s t k z p l e v r b W jb)(hb:Below B W W')(hB:jb<B):eR s t k z p l e v r b W' jb:=by
 unfold eR at h ⊢
 obtain⟨h0,h1,h2,h3,h4,h5,h6,h7,h8,h9⟩:=h
 exact⟨(hb.cell (p:=⟨jb,0,none⟩) hB).trans h0,(hb.cell (p:=⟨jb,1,none⟩) hB).trans h1,(hb.cell (p:=⟨jb,2,none⟩) hB).trans h2,(hb.cell (p:=⟨jb,3,none⟩) hB).trans h3,(hb.cell (p:=⟨jb,4,none⟩) hB).trans h4,(hb.cell (p:=⟨jb,5,none⟩) hB).trans h5,(hb.cell (p:=⟨jb,6,none⟩) hB).trans h6,(hb.cell (p:=⟨jb,7,none⟩) hB).trans h7,(hb.cell (p:=⟨jb,8,none⟩) hB).trans h8,(hb.cell (p:=⟨jb,9,none⟩) hB).trans h9⟩
set_option maxRecDepth 20000 in
set_option maxHeartbeats 1000000 in
theorem clo_any(s t k z p l e:Int)(b:Bool)(v r:Int)(jb:Nat)(x:cD)(a1:Option Addr)(l1 c1:Nat)(a2:Option Addr)(l2 c2:Nat)(B:Nat)(w:World)(h1:dN w B a1 l1 x.rows)(h2:bn w B a2 l2 x.marks)(hj:eR s t k z p l e v r b w jb)(hjb:jb<w.heap.size):Calls Tryz.prog 156 #[.agg #[.int .i64 x.ma,.slice a1 l1 c1,.slice a2 l2 c2],.pointer (some ⟨jb,0,none⟩)] w fun e' w'=>e'= .returned (.bool (bI s t k z p l e v r x))∧Below w.heap.size w w':=by
 have hj2:=hj.bel (ai w (.cells #[.int .i64 x.ma,.slice a1 l1 c1,.slice a2 l2 c2] 186)) hjb
 unfold eR at hj2
 obtain⟨j0,j1,j2,j3,j4,j5,j6,j7,j8,j9⟩:=hj2
 go_enter Tryz.func156,Tryz.ntmps156
 go_wp2_with (go_at_call 157;refine(fT s t k z p l e b v r x a1 l1 c1 a2 l2 c2 B _ (h1.below (ak)) (h2.below (ak))).mono ?_;rintro e' y1 ⟨rfl,hb1⟩)
 go_ret
 exact⟨rfl,(ak)⟩
set_option maxRecDepth 20000 in
set_option maxHeartbeats 2000000 in
theorem everySn(s t k z p l e:Int)(b:Bool)(v r:Int)(jb:Nat)(a:Option Addr)(len cap:Nat)(xs:List cD)(B:Nat)(w:World)(h:bE w B a len xs)(hj:eR s t k z p l e v r b w jb)(hjb:jb<w.heap.size):Calls Tryz.prog 155 #[.slice a len cap,.func (.func 156) #[] #[.pointer (some ⟨jb,0,none⟩)]] w fun e' w'=>e'= .returned (.bool (xs.all (bI s t k z p l e v r)))∧Below w.heap.size w w':=by
 have hm:=h.2.1
 unfold maxLen at hm
 go_enter Tryz.func155,Tryz.ntmps155
 go_wp2
 go_loopw [9] (fun i wr=>∃ix:Nat,ix≤len∧i= .int .i64 ix∧Hid ((xs.take ix).all (bI s t k z p l e v r)=true)∧Below w.heap.size w wr) (fun i _=>len - (intOf i).toNat)
 case atStart=>exact⟨0,Nat.zero_le _,rfl,ab (by simp),Below.refl _ _⟩
 case round=>
  obtain⟨ix,hk,rfl,hA,hbw⟩:=hrel
  by_cases hlt:ix<len
  ·obtain⟨hxl,_,hx⟩:=h
   obtain⟨g,o,rfl,_,hr⟩:=hx.resolve_left (by omega)
   obtain⟨x,hxk⟩:∃x,xs[ix]? =some x:=⟨_,List.getElem?_eq_getElem (by omega)⟩
   have hX:=ab hxk
   obtain⟨a1,l1,c1,a2,l2,c2,⟨d0,d1,d2⟩,k1,k2⟩:=(hr ix _ hxk).below hbw
   have hjw:=hj.bel hbw hjb
   have hjz:jb<wr.heap.size:=Nat.lt_of_lt_of_le hjb hbw.size
   clear hx hxk hr
   cases hB:bI s t k z p l e v r x
   ·have HE:Hid (xs.all (bI s t k z p l e v r)=false):=ab (all_ff (aa hX) hB)
    go_wp2_with (go_at_call 156;refine(clo_any s t k z p l e b v r jb x a1 l1 c1 a2 l2 c2 B _ (k1.below (ak)) (k2.below (ak)) (hjw.bel (B:=wr.heap.size) (ak) hjz) (jH)).mono ?_;rw[hB];rintro e' wf ⟨rfl,hbf⟩)
    go_ret
    exact⟨af (aa HE).symm,(ak)⟩
   ·have HE:Hid ((xs.take (ix+1)).all (bI s t k z p l e v r)=true):=ab (all_tt (aa hA) (aa hX) hB)
    go_wp2_with (go_at_call 156;refine(clo_any s t k z p l e b v r jb x a1 l1 c1 a2 l2 c2 B _ (k1.below (ak)) (k2.below (ak)) (hjw.bel (B:=wr.heap.size) (ak) hjz) (jH)).mono ?_;rw[hB];rintro e' wf ⟨rfl,hbf⟩)
    go_roundw
    case rel=>exact⟨ix+1,by omega,by go_num,HE,(ak)⟩
    case measure=>simp[intOf];omega
  ·have HE:Hid (xs.all (bI s t k z p l e v r)=true):=ab (cu (aa hA) (by have:=h.1;omega))
   go_wp2
   go_ret
   exact⟨af (aa HE).symm,hbw⟩
set_option maxRecDepth 20000 in
set_option maxHeartbeats 2000000 in
theorem cW(s t k z p l e:Int)(b:Bool)(v r:Int)(x:CsD)(a1:Option Addr)(l1 c1:Nat)(a2:Option Addr)(l2 c2:Nat)(B:Nat)(w:World)(h1:bn w B a1 l1 x.at_)(h2:bE w B a2 l2 x.ssn):Calls Tryz.prog 124 #[.agg #[.int .i64 x.sfn,.slice a1 l1 c1,.slice a2 l2 c2],.agg #[.int .i64 s,.int .i64 t,.int .i64 k,.int .i64 z,.int .i64 p,.int .i64 l,.int .i64 e,.bool b,.int .i64 v,.int .i64 r]] w fun e' w'=>e'= .returned (.bool (cI s t k z p l e v r x))∧Below w.heap.size w w':=by
 have le1:=h1.len.1
 have hm1:=h1.len.2
 have le2:=h2.len.1
 have hm2:=h2.len.2
 unfold maxLen at hm1 hm2
 cases hi:aP x.sfn 0 900
 ·skip
  have HE:Hid (cI s t k z p l e v r x=false):=ab (by unfold cI;rw[hi];rfl)
  go_enter Tryz.func124,Tryz.ntmps124
  go_wp2_with (first
    |(go_at_call 126;refine(ah _ _ _ _).mono ?_;rw[hi];rintro e' w5 ⟨rfl,hw⟩;obtain rfl:=hw.symm;clear hw))
  go_ret
  exact⟨af (aa HE).symm,(ak)⟩
 by_cases hl:(l1:Int)=s
 rotate_left
 ·have hl1:((l1:Int)==s)=false:=beq_eq_false_iff_ne.2 hl
  have HE:Hid (cI s t k z p l e v r x=false):=ab (by unfold cI;rw[hi,decide_eq_false (by rw[le1];exact hl)];rfl)
  go_enter Tryz.func124,Tryz.ntmps124
  go_wp2_with (first
    |(go_at_call 126;refine(ah _ _ _ _).mono ?_;rw[hi];rintro e' w5 ⟨rfl,hw⟩;obtain rfl:=hw.symm;clear hw))
  go_ret
  exact⟨af (aa HE).symm,(ak)⟩
 subst hl
 by_cases ht:(l2:Int)=t
 rotate_left
 ·have hl1:((l2:Int)==t)=false:=beq_eq_false_iff_ne.2 ht
  have HE:Hid (cI (l1:Int) t k z p l e v r x=false):=ab (by unfold cI;rw[hi,decide_eq_true (by rw[le1]),decide_eq_false (by rw[le2];exact ht)];rfl)
  go_enter Tryz.func124,Tryz.ntmps124
  go_wp2_with (first
    |(go_at_call 126;refine(ah _ _ _ _).mono ?_;rw[hi];rintro e' w5 ⟨rfl,hw⟩;obtain rfl:=hw.symm;clear hw))
  go_ret
  exact⟨af (aa HE).symm,(ak)⟩
 subst ht
 cases ha:x.at_.all el
 ·skip
  have HE:Hid (cI (l1:Int) (l2:Int) k z p l e v r x=false):=ab (by unfold cI;rw[hi,ha];simp)
  go_enter Tryz.func124,Tryz.ntmps124
  go_wp2_with (first
    |(go_at_call 126;refine(ah _ _ _ _).mono ?_;rw[hi];rintro e' w5 ⟨rfl,hw⟩;obtain rfl:=hw.symm;clear hw)
    |(go_at_call 153;refine(everyAt a1 l1 c1 x.at_ _ (h1.1.below (ak))).mono ?_;rw[ha];rintro e' y2 ⟨rfl,hb2⟩;obtain⟨hc2,hf2,hs2⟩:=ac hb2;have hz20:w.heap.size<y2.heap.size:=(by have h9:=hb2.size;(try simp at h9);omega);have hz21:w.heap.size+1<y2.heap.size:=(by have h9:=hb2.size;(try simp at h9);omega)))
  go_ret
  exact⟨af (aa HE).symm,(ak)⟩
 have hJ:eR (l1:Int) (l2:Int) k z p l e v r b ((w.alloc (.cells #[.int .i64 x.sfn,.slice a1 l1 c1,.slice a2 l2 c2] 47)).alloc (.cells #[.int .i64 (l1:Int),.int .i64 (l2:Int),.int .i64 k,.int .i64 z,.int .i64 p,.int .i64 l,.int .i64 e,.bool b,.int .i64 v,.int .i64 r] 40)) (w.heap.size+1):=by unfold eR;refine⟨?_,?_,?_,?_,?_,?_,?_,?_,?_,?_⟩<;>simp[go_sem]
 have HE:Hid (cI (l1:Int) (l2:Int) k z p l e v r x=x.ssn.all (bI (l1:Int) (l2:Int) k z p l e v r)):=ab (by unfold cI;rw[hi,ha,decide_eq_true (by rw[le1]),decide_eq_true (by rw[le2])];rfl)
 go_enter Tryz.func124,Tryz.ntmps124
 go_wp2_with (first
   |(go_at_call 126;refine(ah _ _ _ _).mono ?_;rw[hi];rintro e' w5 ⟨rfl,hw⟩;obtain rfl:=hw.symm;clear hw)
   |(go_at_call 153;refine(everyAt a1 l1 c1 x.at_ _ (h1.1.below (ak))).mono ?_;rw[ha];rintro e' y2 ⟨rfl,hb2⟩;obtain⟨hc2,hf2,hs2⟩:=ac hb2;have hz20:w.heap.size<y2.heap.size:=(by have h9:=hb2.size;(try simp at h9);omega);have hz21:w.heap.size+1<y2.heap.size:=(by have h9:=hb2.size;(try simp at h9);omega))
   |(go_at_call 155;refine(everySn (l1:Int) (l2:Int) k z p l e b v r (w.heap.size+1) a2 l2 c2 x.ssn B _ (h2.below (ak)) (eR.bel (W:=((w.alloc (.cells #[.int .i64 x.sfn,.slice a1 l1 c1,.slice a2 l2 c2] 47)).alloc (.cells #[.int .i64 (l1:Int),.int .i64 (l2:Int),.int .i64 k,.int .i64 z,.int .i64 p,.int .i64 l,.int .i64 e,.bool b,.int .i64 v,.int .i64 r] 40))) hJ hb2 (by simp)) (by omega)).mono ?_;rintro e' y3 ⟨rfl,hb3⟩))
 go_ret
 exact⟨af (aa HE).symm,(ak)⟩
theorem sbit_any(i:Nat)(hi:i<3)(b:Nat)(hb:Hid (b=2 ^ i))(w:World):Calls Tryz.prog 184 #[.int .i64 (i:Int)] w fun e w'=>e= .returned (.int .u8 (b:Int))∧w'=w:=by
 have hb:=aa hb
 subst hb
 have:i=0∨i=1∨i=2:=by omega
 rcases this with rfl|rfl|rfl
 ·go_enter Tryz.func184,Tryz.ntmps184
  go_wp2
  go_ret
  exact⟨rfl,rfl⟩
 ·go_enter Tryz.func184,Tryz.ntmps184
  go_wp2
  go_ret
  exact⟨rfl,rfl⟩
 ·go_enter Tryz.func184,Tryz.ntmps184
  go_wp2
  go_ret
  exact⟨rfl,rfl⟩
theorem ft(i:Nat)(hi:i<2)(b:Nat)(hb:Hid (b=2 ^ (3+i)))(w:World):Calls Tryz.prog 161 #[.int .i64 (i:Int)] w fun e w'=>e= .returned (.int .u8 (b:Int))∧w'=w:=by
 have hb:=aa hb
 subst hb
 have:i=0∨i=1:=by omega
 rcases this with rfl|rfl
 ·go_enter Tryz.func161,Tryz.ntmps161
  go_wp2
  go_ret
  exact⟨rfl,rfl⟩
 ·go_enter Tryz.func161,Tryz.ntmps161
  go_wp2
  go_ret
  exact⟨rfl,rfl⟩
theorem and_all:(List.range 32).all (fun m=>(List.range 32).all fun n=>bits .and .u8 (m:Int) (n:Int)==((m&&&n:Nat):Int))=true:=by kernel_rfl
theorem or_all:(List.range 32).all (fun m=>(List.range 32).all fun n=>bits .or .u8 (m:Int) (n:Int)==((m|||n:Nat):Int))=true:=by kernel_rfl
theorem and_u8{m n:Nat}(hm:m<32)(hn:n<32):bits .and .u8 (m:Int) (n:Int)=((m&&&n:Nat):Int):=by
 have h:=List.all_eq_true.1 (List.all_eq_true.1 and_all m (List.mem_range.2 hm)) n (List.mem_range.2 hn)
 exact beq_iff_eq.1 h
theorem or_u8{m n:Nat}(hm:m<32)(hn:n<32):bits .or .u8 (m:Int) (n:Int)=((m|||n:Nat):Int):=by
 have h:=List.all_eq_true.1 (List.all_eq_true.1 or_all m (List.mem_range.2 hm)) n (List.mem_range.2 hn)
 exact beq_iff_eq.1 h
theorem gg(m n:Nat)(hm:m<32)(hn:n<32)(w:World):Calls Tryz.prog 160 #[.int .u8 (m:Int),.int .u8 (n:Int)] w fun e w'=>e= .returned (.bool (decide (m&&&n=n)))∧w'=w:=by
 have ha:=and_u8 hm hn
 go_enter Tryz.func160,Tryz.ntmps160
 go_wp2
 go_ret
 refine⟨af ?_,rfl⟩
 by_cases h:m&&&n=n
 ·simp[h]
 ·rw[decide_eq_false h]
  exact beq_eq_false_iff_ne.2 (fun e=>h (by exact_mod_cast e))
/-- Truth values as bits, from a place on. -/
def bB:Nat→List Bool→Nat
 |_,[]=>0
 |i,b :: r=>(if b=true then 2 ^ i else 0)|||bB (i+1) r
theorem bB_snoc(i:Nat)(l:List Bool)(b:Bool):bB i (l++[b])=bB i l|||(if b=true then 2 ^ (i+l.length)else 0):=by
 induction l generalizing i with
 |nil=>simp[bB]
 |cons c r ih=>simp only[List.cons_append,bB,ih,Nat.or_assoc,List.length_cons];rw[show i+1+r.length=i+(r.length+1) by omega]
theorem bB_take{i k:Nat}{l:List Bool}{b:Bool}(h:l[k]? =some b):bB i (l.take (k+1))=bB i (l.take k)|||(if b=true then 2 ^ (i+k)else 0):=by
 obtain⟨hk,he⟩:=List.getElem?_eq_some_iff.1 h
 rw[List.take_succ_eq_append_getElem hk,he,bB_snoc,List.length_take,Nat.min_eq_left (by omega)]
/-- All of so many. -/
def evB(s t:Nat):Nat:=bB 0 (List.replicate s true)|||bB 3 (List.replicate t true)
def BitsP(sb tb:List Bool):Bool:=decide (bB 0 sb|||bB 3 tb<32)&&(List.range tb.length).all (fun i=>decide ((bB 0 sb|||bB 3 tb)&&&2 ^ (3+i)=2 ^ (3+i))==tb.getD i false)&&(decide (bB 0 sb|||bB 3 tb=0)==(sb.all (!·)&&tb.all (!·)))&&(decide ((bB 0 sb|||bB 3 tb)&&&evB sb.length tb.length=evB sb.length tb.length)==(sb.all id&&tb.all id))
theorem bits_p(sb tb:List Bool)(h1:sb.length≤3)(h2:tb.length≤2):BitsP sb tb=true:=by
 rcases sb with _|⟨a,_|⟨b,_|⟨c,_|⟨d,r⟩⟩⟩⟩<;>rcases tb with _|⟨x,_|⟨y,_|⟨z,q⟩⟩⟩<;>first
  |(exfalso;simp at h1 h2;done)
  |(exfalso;simp at h1;omega)
  |(exfalso;simp at h2;omega)
  |(clear h1 h2;(try cases a)<;>(try cases b)<;>(try cases c)<;>(try cases x)<;>(try cases y)<;>rfl)
def eN(m:Int):Bool:= !(m== -1)
/-- Who has told. -/
def gh(src:List Int)(tsk:List Bool):Nat:=bB 0 (src.map eN)|||bB 3 tsk
theorem bB_lt(sb tb:List Bool)(h1:sb.length≤3)(h2:tb.length≤2):bB 0 sb|||bB 3 tb<32:=by
 have:=bits_p sb tb h1 h2
 simp only[BitsP,Bool.and_eq_true,decide_eq_true_eq]at this
 exact this.1.1.1
theorem told_at{src:List Int}{tsk:List Bool}(h1:src.length≤3)(h2:tsk.length≤2){i:Nat}{b:Bool}(hb:tsk[i]? =some b):decide (gh src tsk&&&2 ^ (3+i)=2 ^ (3+i))=b:=by
 have:=bits_p (src.map eN) tsk (by simpa using h1) h2
 simp only[BitsP,Bool.and_eq_true]at this
 obtain⟨hk,he⟩:=List.getElem?_eq_some_iff.1 hb
 have h9:=List.all_eq_true.1 this.1.1.2 i (List.mem_range.2 hk)
 have h8:=beq_iff_eq.1 h9
 unfold gh
 rw[h8]
 simp[List.getD,hb]
theorem told_zero{src:List Int}{tsk:List Bool}(h1:src.length≤3)(h2:tsk.length≤2):decide (gh src tsk=0)=((src.map eN).all (!·)&&tsk.all (!·)):=by
 have:=bits_p (src.map eN) tsk (by simpa using h1) h2
 simp only[BitsP,Bool.and_eq_true]at this
 exact beq_iff_eq.1 this.1.2
set_option maxRecDepth 20000 in
set_option maxHeartbeats 4000000 in
theorem told_any(x:iQ)(a2:Option Addr)(l2 c2:Nat)(a3:Option Addr)(l3 c3:Nat)(a4:Option Addr)(l4 c4:Nat)(a6:Option Addr)(l6 c6:Nat)(a7:Option Addr)(l7 c7:Nat)(B:Nat)(w:World)(h2:bn w B a2 l2 x.src)(h3:dO w B a3 l3 x.tsk)(hl2:l2≤3)(hl3:l3≤2):Calls Tryz.prog 159 #[.agg #[.int .i64 x.n,.bool x.op,.slice a2 l2 c2,.slice a3 l3 c3,.slice a4 l4 c4,.int .i64 x.sfn,.slice a6 l6 c6,.slice a7 l7 c7]] w fun e' w'=>e'= .returned (.int .u8 (gh x.src x.tsk:Nat))∧Below w.heap.size w w':=by
 have le2:=h2.len.1
 have le3:=h3.len.1
 have H2:=h2.1.below (ai w (.cells #[.int .i64 x.n,.bool x.op,.slice a2 l2 c2,.slice a3 l3 c3,.slice a4 l4 c4,.int .i64 x.sfn,.slice a6 l6 c6,.slice a7 l7 c7] 49))
 have H3:=h3.1.below (ai w (.cells #[.int .i64 x.n,.bool x.op,.slice a2 l2 c2,.slice a3 l3 c3,.slice a4 l4 c4,.int .i64 x.sfn,.slice a6 l6 c6,.slice a7 l7 c7] 49))
 go_enter Tryz.func159,Tryz.ntmps159
 go_wp2
 go_loopw [3,11] (fun wv i wr=>∃ix:Nat,ix≤l2∧i= .int .i64 ix∧wv= .int .u8 (bB 0 ((x.src.map eN).take ix):Nat)∧Below (w.alloc (.cells #[.int .i64 x.n,.bool x.op,.slice a2 l2 c2,.slice a3 l3 c3,.slice a4 l4 c4,.int .i64 x.sfn,.slice a6 l6 c6,.slice a7 l7 c7] 49)).heap.size (w.alloc (.cells #[.int .i64 x.n,.bool x.op,.slice a2 l2 c2,.slice a3 l3 c3,.slice a4 l4 c4,.int .i64 x.sfn,.slice a6 l6 c6,.slice a7 l7 c7] 49)) wr) (fun _ i _=>l2 - (intOf i).toNat)
 case atStart=>exact⟨0,Nat.zero_le _,rfl,rfl,Below.refl _ _⟩
 case round=>
  obtain⟨ix,hk,rfl,rfl,hbw⟩:=hrel
  have tb0:wr.cell? ⟨w.heap.size,0,none⟩=some (.int .i64 x.n):=(hbw.cell (p:=⟨w.heap.size,0,none⟩) (jH)).trans (jI)
  have tb1:wr.cell? ⟨w.heap.size,1,none⟩=some (.bool x.op):=(hbw.cell (p:=⟨w.heap.size,1,none⟩) (jH)).trans (jI)
  have tb2:wr.cell? ⟨w.heap.size,2,none⟩=some (.slice a2 l2 c2):=(hbw.cell (p:=⟨w.heap.size,2,none⟩) (jH)).trans (jI)
  have tb3:wr.cell? ⟨w.heap.size,3,none⟩=some (.slice a3 l3 c3):=(hbw.cell (p:=⟨w.heap.size,3,none⟩) (jH)).trans (jI)
  have tb4:wr.cell? ⟨w.heap.size,4,none⟩=some (.slice a4 l4 c4):=(hbw.cell (p:=⟨w.heap.size,4,none⟩) (jH)).trans (jI)
  have tb5:wr.cell? ⟨w.heap.size,5,none⟩=some (.int .i64 x.sfn):=(hbw.cell (p:=⟨w.heap.size,5,none⟩) (jH)).trans (jI)
  have tb6:wr.cell? ⟨w.heap.size,6,none⟩=some (.slice a6 l6 c6):=(hbw.cell (p:=⟨w.heap.size,6,none⟩) (jH)).trans (jI)
  have tb7:wr.cell? ⟨w.heap.size,7,none⟩=some (.slice a7 l7 c7):=(hbw.cell (p:=⟨w.heap.size,7,none⟩) (jH)).trans (jI)
  by_cases hlt:ix<l2
  ·obtain⟨hxl,_,hx⟩:=H2
   obtain⟨g,o,rfl,hr⟩:=hx.resolve_left (by omega)
   obtain⟨y,hyk⟩:∃y,x.src[ix]? =some y:=⟨_,List.getElem?_eq_getElem (by omega)⟩
   have d0:=(hbw.cell (p:=⟨g,o+ix,none⟩) (hr.lt (by omega))).trans (hr ix _ hyk)
   have hst:=bB_take (i:=0) (l:=x.src.map eN) (k:=ix) (b:=eN y) (by rw[List.getElem?_map,hyk];rfl)
   have hlo:bB 0 ((x.src.map eN).take ix)<32:=by have h9:=bB_lt ((x.src.map eN).take ix) [] (jJ) (by simp);simpa[bB]using h9
   generalize bB 0 ((x.src.map eN).take ix)=lo at hst hlo
   have HS:=ab hst
   clear hx hyk hr hst
   by_cases hm:y= -1
   ·subst hm
    have HE:Hid (bB 0 ((x.src.map eN).take (ix+1))=lo):=ab (by rw[aa HS];simp[eN])
    go_wp2
    go_roundw
    case rel=>exact⟨ix+1,by omega,by go_num,by rw[aa HE],(ak)⟩
    case measure=>simp[intOf];omega
   ·have hm1:(y== -1)=false:=beq_eq_false_iff_ne.2 hm
    have hm2:(y != -1)=true:=by simp[hm]
    have h2i:2 ^ ix<32:=by
     have:ix=0∨ix=1∨ix=2:=by omega
     rcases this with rfl|rfl|rfl<;>decide
    obtain⟨pb,hpb⟩:∃pb:Nat,Hid (pb=2 ^ ix):=⟨_,ab rfl⟩
    rw[←aa hpb]at h2i
    have hor:=or_u8 hlo h2i
    have HE:Hid (bB 0 ((x.src.map eN).take (ix+1))=lo|||pb):=ab (by rw[aa HS,aa hpb];simp[eN,hm1])
    have HO:=ab hor
    clear hor
    go_wp2_with (go_at_call 184;refine(sbit_any ix (by omega) pb hpb _).mono ?_;rintro e' w5 ⟨rfl,hw⟩;obtain rfl:=hw.symm;clear hw)
    go_roundw
    case rel=>exact⟨ix+1,by omega,by go_num,by rw[aa HE,aa HO],(ak)⟩
    case measure=>simp[intOf];omega
  ·have HE:Hid (bB 0 ((x.src.map eN).take ix)=bB 0 (x.src.map eN)):=ab (by rw[List.take_of_length_le (jJ)])
   rw[aa HE]
   clear HE
   obtain⟨lo,hlo⟩:∃lo,lo=bB 0 (x.src.map eN):=⟨_,rfl⟩
   rw[←hlo]
   have HL:=ab hlo
   clear hlo
   obtain⟨wz,hwz⟩:∃wz,wz=wr:=⟨_,rfl⟩
   subst hwz
   have K3:=H3.below hbw
   have hWz:Below w.heap.size w wz:=(ak)
   go_wp2
   go_loopw [3,26] (fun wv i wr=>∃ix:Nat,ix≤l3∧i= .int .i64 ix∧wv= .int .u8 ((lo|||bB 3 (x.tsk.take ix):Nat):Int)∧Below wz.heap.size wz wr) (fun _ i _=>l3 - (intOf i).toNat)
   case atStart=>exact⟨0,Nat.zero_le _,rfl,by simp[bB],Below.refl _ _⟩
   case round=>
    obtain⟨ix,hk,rfl,rfl,hbq⟩:=hrel
    by_cases hlt:ix<l3
    ·obtain⟨hxl,_,hx⟩:=K3
     obtain⟨g,o,rfl,hr⟩:=hx.resolve_left (by omega)
     obtain⟨y,hyk⟩:∃y,x.tsk[ix]? =some y:=⟨_,List.getElem?_eq_getElem (by omega)⟩
     have d0:=(hbq.cell (p:=⟨g,o+ix,none⟩) (hr.lt (by omega))).trans (hr ix _ hyk)
     have hst:=bB_take (i:=3) hyk
     have hlq:lo|||bB 3 (x.tsk.take ix)<32:=by rw[aa HL];exact bB_lt _ _ (jJ) (jJ)
     have hst2:lo|||bB 3 (x.tsk.take (ix+1))=(lo|||bB 3 (x.tsk.take ix))|||(if y=true then 2 ^ (3+ix)else 0):=by rw[hst,Nat.or_assoc]
     generalize lo|||bB 3 (x.tsk.take ix)=lq at hst2 hlq
     have HS:=ab hst2
     clear hx hyk hr hst hst2
     cases y
     ·have HE:Hid (lo|||bB 3 (x.tsk.take (ix+1))=lq):=ab (by rw[aa HS];simp)
      go_wp2
      go_roundw
      case rel=>exact⟨ix+1,by omega,by go_num,by rw[aa HE],(ak)⟩
      case measure=>simp[intOf];omega
     ·have h2i:2 ^ (3+ix)<32:=by
       have:ix=0∨ix=1:=by omega
       rcases this with rfl|rfl<;>decide
      obtain⟨pb,hpb⟩:∃pb:Nat,Hid (pb=2 ^ (3+ix)):=⟨_,ab rfl⟩
      rw[←aa hpb]at h2i
      have HO:=ab (or_u8 hlq h2i)
      have HE:Hid (lo|||bB 3 (x.tsk.take (ix+1))=lq|||pb):=ab (by rw[aa HS,aa hpb];simp)
      go_wp2_with (go_at_call 161;refine(ft ix (by omega) pb hpb _).mono ?_;rintro e' w5 ⟨rfl,hw⟩;obtain rfl:=hw.symm;clear hw)
      go_roundw
      case rel=>exact⟨ix+1,by omega,by go_num,by rw[aa HE,aa HO],(ak)⟩
      case measure=>simp[intOf];omega
    ·have HE:Hid ((lo|||bB 3 (x.tsk.take ix):Nat)=gh x.src x.tsk):=ab (by rw[List.take_of_length_le (by omega),aa HL];rfl)
     go_wp2
     go_ret
     exact⟨by rw[←aa HE];rfl,(ak)⟩
end Go.Proofs.YtealpjmannopeaaGreat
