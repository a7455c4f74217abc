/- Laid together: what the claim needs of the texts that were built one by one. -/
import Derived.Test.YtealpjmannopeaaGreatX10
import Derived.Test.YtealpjmannopeaaGreatX9
import Derived.Test.YtealpjmannopeaaGreatX0
set_option linter.unusedVariables false
namespace Go.Proofs.YtealpjmannopeaaGreat
open Go.ChangeShapes Go.WideShapes Go.ChangeAt Go.RowKit
theorem ce{b0 b1 b2 b3 a0 a1 a2 a3 a4 a5 a6 a7 a8 a9 c0 c1 e0 e1 e2 e3 e4 e5 e6 e7 e8 e9 e10 e11 e12 g0 g1 g2 g3 g4 g5 g6 g7 g8 g9 g10 g11 g12:Nat}{k0 k1 k2 k3 k4 k5 k6 k7 k8 k9 l0 l1 m0 m1 m2 m3 m4 m5 m6 m7 m8 m9 m10 m11 m12 n0 n1 n2 n3 n4 n5 n6 n7 n8 n9 n10 n11 n12:Value}{W W':World}(h:((W.cell? ⟨b0,a0,none⟩=some k0∧W.cell? ⟨b0,a1,none⟩=some k1∧W.cell? ⟨b0,a2,none⟩=some k2∧W.cell? ⟨b0,a3,none⟩=some k3∧W.cell? ⟨b0,a4,none⟩=some k4∧W.cell? ⟨b0,a5,none⟩=some k5∧W.cell? ⟨b0,a6,none⟩=some k6∧W.cell? ⟨b0,a7,none⟩=some k7∧W.cell? ⟨b0,a8,none⟩=some k8∧W.cell? ⟨b0,a9,none⟩=some k9∧W.cell? ⟨b1,c0,none⟩=some l0∧W.cell? ⟨b1,c1,none⟩=some l1∧W.cell? ⟨b2,e0,none⟩=some m0∧W.cell? ⟨b2,e1,none⟩=some m1∧W.cell? ⟨b2,e2,none⟩=some m2∧W.cell? ⟨b2,e3,none⟩=some m3∧W.cell? ⟨b2,e4,none⟩=some m4∧W.cell? ⟨b2,e5,none⟩=some m5∧W.cell? ⟨b2,e6,none⟩=some m6∧W.cell? ⟨b2,e7,none⟩=some m7∧W.cell? ⟨b2,e8,none⟩=some m8∧W.cell? ⟨b2,e9,none⟩=some m9∧W.cell? ⟨b2,e10,none⟩=some m10∧W.cell? ⟨b2,e11,none⟩=some m11∧W.cell? ⟨b2,e12,none⟩=some m12∧W.cell? ⟨b3,g0,none⟩=some n0∧W.cell? ⟨b3,g1,none⟩=some n1∧W.cell? ⟨b3,g2,none⟩=some n2∧W.cell? ⟨b3,g3,none⟩=some n3∧W.cell? ⟨b3,g4,none⟩=some n4∧W.cell? ⟨b3,g5,none⟩=some n5∧W.cell? ⟨b3,g6,none⟩=some n6∧W.cell? ⟨b3,g7,none⟩=some n7∧W.cell? ⟨b3,g8,none⟩=some n8∧W.cell? ⟨b3,g9,none⟩=some n9∧W.cell? ⟨b3,g10,none⟩=some n10∧W.cell? ⟨b3,g11,none⟩=some n11∧W.cell? ⟨b3,g12,none⟩=some n12)∧b0<W.heap.size∧b1<W.heap.size∧b2<W.heap.size∧b3<W.heap.size))(hb:Below W.heap.size W W'):((W'.cell? ⟨b0,a0,none⟩=some k0∧W'.cell? ⟨b0,a1,none⟩=some k1∧W'.cell? ⟨b0,a2,none⟩=some k2∧W'.cell? ⟨b0,a3,none⟩=some k3∧W'.cell? ⟨b0,a4,none⟩=some k4∧W'.cell? ⟨b0,a5,none⟩=some k5∧W'.cell? ⟨b0,a6,none⟩=some k6∧W'.cell? ⟨b0,a7,none⟩=some k7∧W'.cell? ⟨b0,a8,none⟩=some k8∧W'.cell? ⟨b0,a9,none⟩=some k9∧W'.cell? ⟨b1,c0,none⟩=some l0∧W'.cell? ⟨b1,c1,none⟩=some l1∧W'.cell? ⟨b2,e0,none⟩=some m0∧W'.cell? ⟨b2,e1,none⟩=some m1∧W'.cell? ⟨b2,e2,none⟩=some m2∧W'.cell? ⟨b2,e3,none⟩=some m3∧W'.cell? ⟨b2,e4,none⟩=some m4∧W'.cell? ⟨b2,e5,none⟩=some m5∧W'.cell? ⟨b2,e6,none⟩=some m6∧W'.cell? ⟨b2,e7,none⟩=some m7∧W'.cell? ⟨b2,e8,none⟩=some m8∧W'.cell? ⟨b2,e9,none⟩=some m9∧W'.cell? ⟨b2,e10,none⟩=some m10∧W'.cell? ⟨b2,e11,none⟩=some m11∧W'.cell? ⟨b2,e12,none⟩=some m12∧W'.cell? ⟨b3,g0,none⟩=some n0∧W'.cell? ⟨b3,g1,none⟩=some n1∧W'.cell? ⟨b3,g2,none⟩=some n2∧W'.cell? ⟨b3,g3,none⟩=some n3∧W'.cell? ⟨b3,g4,none⟩=some n4∧W'.cell? ⟨b3,g5,none⟩=some n5∧W'.cell? ⟨b3,g6,none⟩=some n6∧W'.cell? ⟨b3,g7,none⟩=some n7∧W'.cell? ⟨b3,g8,none⟩=some n8∧W'.cell? ⟨b3,g9,none⟩=some n9∧W'.cell? ⟨b3,g10,none⟩=some n10∧W'.cell? ⟨b3,g11,none⟩=some n11∧W'.cell? ⟨b3,g12,none⟩=some n12)∧b0<W'.heap.size∧b1<W'.heap.size∧b2<W'.heap.size∧b3<W'.heap.size):=by
 obtain⟨h99,s0,s1,s2,s3⟩:=h
 have e0:∀z,W'.cell? ⟨b0,z,none⟩=W.cell? ⟨b0,z,none⟩:=fun z=>hb.cell s0
 have e1:∀z,W'.cell? ⟨b1,z,none⟩=W.cell? ⟨b1,z,none⟩:=fun z=>hb.cell s1
 have e2:∀z,W'.cell? ⟨b2,z,none⟩=W.cell? ⟨b2,z,none⟩:=fun z=>hb.cell s2
 have e3:∀z,W'.cell? ⟨b3,z,none⟩=W.cell? ⟨b3,z,none⟩:=fun z=>hb.cell s3
 refine⟨?_,Nat.lt_of_lt_of_le s0 hb.size,Nat.lt_of_lt_of_le s1 hb.size,Nat.lt_of_lt_of_le s2 hb.size,Nat.lt_of_lt_of_le s3 hb.size⟩
 simp only[e0,e1,e2,e3]
 exact h99
set_option linter.unusedSimpArgs false in
set_option maxRecDepth 20000 in
set_option maxHeartbeats 8000000 in
theorem bx(s t k z p l e:Int)(b:Bool)(v r:Int)(m:Int)(a:Option Addr)(len cap:Nat)(xs:List bK)(w:World)(h:dm w a len xs):Calls Tryz.prog 165 #[.agg #[.int .i64 s,.int .i64 t,.int .i64 k,.int .i64 z,.int .i64 p,.int .i64 l,.int .i64 e,.bool b,.int .i64 v,.int .i64 r],.agg #[.int .i64 m,.slice a len cap]] w fun e' w'=>e'= .returned (.bool (cl s t k z p l e v r m xs))∧Below w.heap.size w w':=by
 have hm:=h.2.1
 unfold maxLen at hm
 have hxl0:=h.1
 cases c0:aF s t k z p l e v r
 ·have hq:Hid (cl s t k z p l e v r m xs=false):=ab (okOp_j c0)
  go_enter Tryz.func165,Tryz.ntmps165
  go_wp2_with (first
   |(go_at_call 123;refine(aX _ _ _ _ _ _ _ _ _ _ _).mono ?_;rintro e w' ⟨rfl,hb⟩;obtain⟨hc,hf,hs⟩:=ac hb;(try have hz0:=zA hb w.heap.size);(try have hz1:=zA hb (w.heap.size+1)))
   |(go_at_call 126;refine(ah _ _ _ _).mono ?_;rintro e' w' ⟨rfl,rfl⟩))
  go_ret
  exact⟨af (aa hq).symm,(ar)⟩
 cases c1:aP m 0 1000
 ·have hq:Hid (cl s t k z p l e v r m xs=false):=ab (okOp_m c1)
  go_enter Tryz.func165,Tryz.ntmps165
  go_wp2_with (first
   |(go_at_call 123;refine(aX _ _ _ _ _ _ _ _ _ _ _).mono ?_;rintro e w' ⟨rfl,hb⟩;obtain⟨hc,hf,hs⟩:=ac hb;(try have hz0:=zA hb w.heap.size);(try have hz1:=zA hb (w.heap.size+1)))
   |(go_at_call 126;refine(ah _ _ _ _).mono ?_;rintro e' w' ⟨rfl,rfl⟩))
  go_ret
  exact⟨af (aa hq).symm,(ar)⟩
 by_cases c2:(len:Int)≤300
 ·have hO:Hid (cl s t k z p l e v r m xs=ea k l m xs xs.length):=ab (okOp_t c0 c1 (by omega))
  have hl:=okJob_l c0
  go_enter Tryz.func165,Tryz.ntmps165
  go_wp2_with (first
   |(go_at_call 123;refine(aX _ _ _ _ _ _ _ _ _ _ _).mono ?_;rintro e w' ⟨rfl,hb⟩;obtain⟨hc,hf,hs⟩:=ac hb;(try have hz0:=zA hb w.heap.size);(try have hz1:=zA hb (w.heap.size+1)))
   |(go_at_call 126;refine(ah _ _ _ _).mono ?_;rintro e' w' ⟨rfl,rfl⟩))
  clear hc hf hs
  go_loopw [25] (fun iv wr=>∃i:Nat,i≤len∧iv= .int .i64 i∧Hid (ea k l m xs i=true)∧Below ((w.alloc (.cells #[.int .i64 s,.int .i64 t,.int .i64 k,.int .i64 z,.int .i64 p,.int .i64 l,.int .i64 e,.bool b,.int .i64 v,.int .i64 r] 40)).alloc (.cells #[.int .i64 m,.slice a len cap] 136)).heap.size ((w.alloc (.cells #[.int .i64 s,.int .i64 t,.int .i64 k,.int .i64 z,.int .i64 p,.int .i64 l,.int .i64 e,.bool b,.int .i64 v,.int .i64 r] 40)).alloc (.cells #[.int .i64 m,.slice a len cap] 136)) wr) (fun iv _=>len - (intOf iv).toNat)
  case atStart=>exact⟨0,Nat.zero_le _,rfl,ab rfl,hb⟩
  case round=>
   obtain⟨i,hi,rfl,hN,hbw⟩:=hrel
   rename World=>wo
   have hb0:Below w.heap.size w wo:=ae (aB (ai _ _) _) hbw
   have hz1:w.heap.size+1<wo.heap.size:=by have:=hbw.size;simp at this;omega
   have hz0:w.heap.size<wo.heap.size:=by omega
   have j0:wo.cell? ⟨w.heap.size,0,none⟩=some (.int .i64 s):=(hbw.cell (p:=⟨w.heap.size,0,none⟩) (jG)).trans (jI)
   have j1:wo.cell? ⟨w.heap.size,1,none⟩=some (.int .i64 t):=(hbw.cell (p:=⟨w.heap.size,1,none⟩) (jG)).trans (jI)
   have j2:wo.cell? ⟨w.heap.size,2,none⟩=some (.int .i64 k):=(hbw.cell (p:=⟨w.heap.size,2,none⟩) (jG)).trans (jI)
   have j3:wo.cell? ⟨w.heap.size,3,none⟩=some (.int .i64 z):=(hbw.cell (p:=⟨w.heap.size,3,none⟩) (jG)).trans (jI)
   have j4:wo.cell? ⟨w.heap.size,4,none⟩=some (.int .i64 p):=(hbw.cell (p:=⟨w.heap.size,4,none⟩) (jG)).trans (jI)
   have j5:wo.cell? ⟨w.heap.size,5,none⟩=some (.int .i64 l):=(hbw.cell (p:=⟨w.heap.size,5,none⟩) (jG)).trans (jI)
   have j6:wo.cell? ⟨w.heap.size,6,none⟩=some (.int .i64 e):=(hbw.cell (p:=⟨w.heap.size,6,none⟩) (jG)).trans (jI)
   have j7:wo.cell? ⟨w.heap.size,7,none⟩=some (.bool b):=(hbw.cell (p:=⟨w.heap.size,7,none⟩) (jG)).trans (jI)
   have j8:wo.cell? ⟨w.heap.size,8,none⟩=some (.int .i64 v):=(hbw.cell (p:=⟨w.heap.size,8,none⟩) (jG)).trans (jI)
   have j9:wo.cell? ⟨w.heap.size,9,none⟩=some (.int .i64 r):=(hbw.cell (p:=⟨w.heap.size,9,none⟩) (jG)).trans (jI)
   have s0:wo.cell? ⟨w.heap.size+1,0,none⟩=some (.int .i64 m):=(hbw.cell (p:=⟨w.heap.size+1,0,none⟩) (jG)).trans (jI)
   have s1:wo.cell? ⟨w.heap.size+1,1,none⟩=some (.slice a len cap):=(hbw.cell (p:=⟨w.heap.size+1,1,none⟩) (jG)).trans (jI)
   by_cases hlt:i<len
   ·obtain⟨hxl,hmx,hx⟩:=h
    obtain⟨g,o,rfl,hr⟩:=hx.resolve_left (by omega)
    obtain⟨x,hxk⟩:∃x,xs[i]? =some x:=⟨_,List.getElem?_eq_getElem (by omega)⟩
    have hg:g<w.heap.size:=hr.lt (by omega)
    have hX:=ab hxk
    have HR:=ab hr
    obtain⟨d0,d1,d2,d3,d4,d5,d6,d7,d8,d9,d10,d11,d12⟩:=(hr i _ hxk).below hb0 hg
    have hgo:g<wo.heap.size:=Nat.lt_of_lt_of_le hg hb0.size
    clear hx hxk hr
    by_cases h0:i=0
    ·have hZ:=ab h0
     have hpd:decide ((0:Int)< ↑i)=false:=decide_eq_false (by omega)
     have hpe:decide (0<i)=false:=decide_eq_false (by omega)
     clear h0
     cases d:x.okB l m
     ·have hq:Hid (cl s t k z p l e v r m xs=false):=ab ((aa hO).trans (de (by omega) (fZ (aa hX) d)))
      have d':aO l m x.ky x.st x.en x.an x.asu x.ale x.amo x.fn x.fsu x.fle x.fmo x.td x.tm=false:=d
      clear d
      go_wp2
      refine wp_region_held_drew (S:=(fun W=>((W.cell? ⟨w.heap.size,0,none⟩=some (.int .i64 s)∧W.cell? ⟨w.heap.size,1,none⟩=some (.int .i64 t)∧W.cell? ⟨w.heap.size,2,none⟩=some (.int .i64 k)∧W.cell? ⟨w.heap.size,3,none⟩=some (.int .i64 z)∧W.cell? ⟨w.heap.size,4,none⟩=some (.int .i64 p)∧W.cell? ⟨w.heap.size,5,none⟩=some (.int .i64 l)∧W.cell? ⟨w.heap.size,6,none⟩=some (.int .i64 e)∧W.cell? ⟨w.heap.size,7,none⟩=some (.bool b)∧W.cell? ⟨w.heap.size,8,none⟩=some (.int .i64 v)∧W.cell? ⟨w.heap.size,9,none⟩=some (.int .i64 r)∧W.cell? ⟨w.heap.size+1,0,none⟩=some (.int .i64 m)∧W.cell? ⟨w.heap.size+1,1,none⟩=some (.slice (some ⟨g,o,none⟩) len cap)∧W.cell? ⟨wo.heap.size,0,none⟩=some (.int .i64 x.ky)∧W.cell? ⟨wo.heap.size,1,none⟩=some (.int .i64 x.st)∧W.cell? ⟨wo.heap.size,2,none⟩=some (.int .i64 x.en)∧W.cell? ⟨wo.heap.size,3,none⟩=some (.int .i64 x.an)∧W.cell? ⟨wo.heap.size,4,none⟩=some (.int .i64 x.asu)∧W.cell? ⟨wo.heap.size,5,none⟩=some (.int .i64 x.ale)∧W.cell? ⟨wo.heap.size,6,none⟩=some (.int .i64 x.amo)∧W.cell? ⟨wo.heap.size,7,none⟩=some (.int .i64 x.fn)∧W.cell? ⟨wo.heap.size,8,none⟩=some (.int .i64 x.fsu)∧W.cell? ⟨wo.heap.size,9,none⟩=some (.int .i64 x.fle)∧W.cell? ⟨wo.heap.size,10,none⟩=some (.int .i64 x.fmo)∧W.cell? ⟨wo.heap.size,11,none⟩=some (.int .i64 x.td)∧W.cell? ⟨wo.heap.size,12,none⟩=some (.bool x.tm))∧w.heap.size<W.heap.size∧w.heap.size+1<W.heap.size∧wo.heap.size<W.heap.size))) (jK) ?_ (fun hHeld=>?_)
      ·(try dsimp only);((first|((repeat(first|(with_reducible assumption)|(with_reducible refine az ?_ (jF))|(with_reducible refine az ?_ (aj (Below.refl _ _)))|(with_reducible refine az ?_ (ai _ _))));done)|(refine⟨⟨?_,?_,?_,?_,?_,?_,?_,?_,?_,?_,?_,?_,?_,?_,?_,?_,?_,?_,?_,?_,?_,?_,?_,?_,?_⟩,?_,?_,?_⟩<;>first|(go_keep;done)|(simp;done)|(simp;omega)|omega)))
      refine kV 0 ?_
      refine kV 1 ?_
      refine kV 2 ?_
      refine kV 3 ?_
      refine kV 4 ?_
      refine rD 5 (fun K hK=>?_)
      go_simp
      (go_at_call 187;refine(ej _ _ _ _ _ _ _ _ _ _ _ _ _ _ _ hl _).mono ?_;rintro e w' ⟨rfl,hb⟩;obtain⟨hc,hf,hs⟩:=ac hb)
      (try go_wp2_with fail)
      refine hK.out _ _ ?_ (fun jB=>?_)
      ·(try dsimp only);((first|((repeat(first|(with_reducible assumption)|(with_reducible refine az ?_ (jF))|(with_reducible refine az ?_ (aj (Below.refl _ _)))|(with_reducible refine az ?_ (ai _ _))));done)|(refine⟨⟨?_,?_,?_,?_,?_,?_,?_,?_,?_,?_,?_,?_,?_,?_,?_,?_,?_,?_,?_,?_,?_,?_,?_,?_,?_⟩,?_,?_,?_⟩<;>first|(go_keep;done)|(simp;done)|(simp;omega)|omega)))
      clear hK K hHeld
      have hHeld:=jB
      clear jB
      try simp only[Act.put,tA,tZ,tS]
      refine kV 6 ?_
      refine kV 7 ?_
      refine kU 8 ?_
      try simp only[Act.put,tA,tZ,tS]
      refine kU 9 ?_
      try simp only[Act.put,tA,tZ,tS]
      refine kU 10 ?_
      try simp only[Act.put,tA,tZ,tS]
      refine kU 11 ?_
      try simp only[Act.put,tA,tZ,tS]
      refine kU 12 ?_
      try simp only[Act.put,tA,tZ,tS]
      refine kU 13 ?_
      try simp only[Act.put,tA,tZ,tS]
      refine kU 14 ?_
      try simp only[Act.put,tA,tZ,tS]
      refine kU 15 ?_
      try simp only[Act.put,tA,tZ,tS]
      refine kU 16 ?_
      try simp only[Act.put,tA,tZ,tS]
      refine kU 17 ?_
      try simp only[Act.put,tA,tZ,tS]
      refine kU 18 ?_
      try simp only[Act.put,tA,tZ,tS]
      refine kU 19 ?_
      try simp only[Act.put,tA,tZ,tS]
      refine kU 20 ?_
      try simp only[Act.put,tA,tZ,tS]
      refine kU 21 ?_
      try simp only[Act.put,tA,tZ,tS]
      refine kU 22 ?_
      try simp only[Act.put,tA,tZ,tS]
      refine kV 23 ?_
      refine wpAnyH_done (jK) ?_ _
      all_goals
       go_wp2
       go_ret
       exact⟨af (aa hq).symm,(ak)⟩
     ·have hN':Hid (ea k l m xs (i+1)=true):=ab (by rw[cT,aa hN,jh (aa hZ) (aa hX),d];rfl)
      have d':aO l m x.ky x.st x.en x.an x.asu x.ale x.amo x.fn x.fsu x.fle x.fmo x.td x.tm=true:=d
      clear d
      go_wp2
      refine wp_region_held_drew (S:=(fun W=>((W.cell? ⟨w.heap.size,0,none⟩=some (.int .i64 s)∧W.cell? ⟨w.heap.size,1,none⟩=some (.int .i64 t)∧W.cell? ⟨w.heap.size,2,none⟩=some (.int .i64 k)∧W.cell? ⟨w.heap.size,3,none⟩=some (.int .i64 z)∧W.cell? ⟨w.heap.size,4,none⟩=some (.int .i64 p)∧W.cell? ⟨w.heap.size,5,none⟩=some (.int .i64 l)∧W.cell? ⟨w.heap.size,6,none⟩=some (.int .i64 e)∧W.cell? ⟨w.heap.size,7,none⟩=some (.bool b)∧W.cell? ⟨w.heap.size,8,none⟩=some (.int .i64 v)∧W.cell? ⟨w.heap.size,9,none⟩=some (.int .i64 r)∧W.cell? ⟨w.heap.size+1,0,none⟩=some (.int .i64 m)∧W.cell? ⟨w.heap.size+1,1,none⟩=some (.slice (some ⟨g,o,none⟩) len cap)∧W.cell? ⟨wo.heap.size,0,none⟩=some (.int .i64 x.ky)∧W.cell? ⟨wo.heap.size,1,none⟩=some (.int .i64 x.st)∧W.cell? ⟨wo.heap.size,2,none⟩=some (.int .i64 x.en)∧W.cell? ⟨wo.heap.size,3,none⟩=some (.int .i64 x.an)∧W.cell? ⟨wo.heap.size,4,none⟩=some (.int .i64 x.asu)∧W.cell? ⟨wo.heap.size,5,none⟩=some (.int .i64 x.ale)∧W.cell? ⟨wo.heap.size,6,none⟩=some (.int .i64 x.amo)∧W.cell? ⟨wo.heap.size,7,none⟩=some (.int .i64 x.fn)∧W.cell? ⟨wo.heap.size,8,none⟩=some (.int .i64 x.fsu)∧W.cell? ⟨wo.heap.size,9,none⟩=some (.int .i64 x.fle)∧W.cell? ⟨wo.heap.size,10,none⟩=some (.int .i64 x.fmo)∧W.cell? ⟨wo.heap.size,11,none⟩=some (.int .i64 x.td)∧W.cell? ⟨wo.heap.size,12,none⟩=some (.bool x.tm))∧w.heap.size<W.heap.size∧w.heap.size+1<W.heap.size∧wo.heap.size<W.heap.size))) (jK) ?_ (fun hHeld=>?_)
      ·(try dsimp only);((first|((repeat(first|(with_reducible assumption)|(with_reducible refine az ?_ (jF))|(with_reducible refine az ?_ (aj (Below.refl _ _)))|(with_reducible refine az ?_ (ai _ _))));done)|(refine⟨⟨?_,?_,?_,?_,?_,?_,?_,?_,?_,?_,?_,?_,?_,?_,?_,?_,?_,?_,?_,?_,?_,?_,?_,?_,?_⟩,?_,?_,?_⟩<;>first|(go_keep;done)|(simp;done)|(simp;omega)|omega)))
      refine kV 0 ?_
      refine kV 1 ?_
      refine kV 2 ?_
      refine kV 3 ?_
      refine kV 4 ?_
      refine rD 5 (fun K hK=>?_)
      go_simp
      (go_at_call 187;refine(ej _ _ _ _ _ _ _ _ _ _ _ _ _ _ _ hl _).mono ?_;rintro e w' ⟨rfl,hb⟩;obtain⟨hc,hf,hs⟩:=ac hb)
      (try go_wp2_with fail)
      refine hK.out _ _ ?_ (fun jB=>?_)
      ·(try dsimp only);((first|((repeat(first|(with_reducible assumption)|(with_reducible refine az ?_ (jF))|(with_reducible refine az ?_ (aj (Below.refl _ _)))|(with_reducible refine az ?_ (ai _ _))));done)|(refine⟨⟨?_,?_,?_,?_,?_,?_,?_,?_,?_,?_,?_,?_,?_,?_,?_,?_,?_,?_,?_,?_,?_,?_,?_,?_,?_⟩,?_,?_,?_⟩<;>first|(go_keep;done)|(simp;done)|(simp;omega)|omega)))
      clear hK K hHeld
      have hHeld:=jB
      clear jB
      try simp only[Act.put,tA,tZ,tS]
      refine kV 6 ?_
      refine kV 7 ?_
      refine kV 8 ?_
      refine kV 9 ?_
      refine kV 10 ?_
      refine kU 11 ?_
      try simp only[Act.put,tA,tZ,tS]
      refine kU 12 ?_
      try simp only[Act.put,tA,tZ,tS]
      refine kU 13 ?_
      try simp only[Act.put,tA,tZ,tS]
      refine kU 14 ?_
      try simp only[Act.put,tA,tZ,tS]
      refine kU 15 ?_
      try simp only[Act.put,tA,tZ,tS]
      refine kU 16 ?_
      try simp only[Act.put,tA,tZ,tS]
      refine kU 17 ?_
      try simp only[Act.put,tA,tZ,tS]
      refine kU 18 ?_
      try simp only[Act.put,tA,tZ,tS]
      refine kU 19 ?_
      try simp only[Act.put,tA,tZ,tS]
      refine kU 20 ?_
      try simp only[Act.put,tA,tZ,tS]
      refine kU 21 ?_
      try simp only[Act.put,tA,tZ,tS]
      refine kV 22 ?_
      refine kV 23 ?_
      refine wpAnyH_done (jK) ?_ _
      all_goals
       go_wp2
       go_roundw
       case rel=>exact⟨i+1,by omega,by go_num,hN',(ak)⟩
       case measure=>simp[intOf];omega
    ·obtain⟨i',he⟩:∃i',i=i'+1:=⟨i - 1,by omega⟩
     have hE:=ab he
     have hp0:0<i:=by omega
     have hpd:decide (0<i)=true:=decide_eq_true hp0
     have hp4:i'<len:=by omega
     have hp1:(0:Int)≤ ↑i':=by omega
     have hp2:(↑i':Int)< ↑len:=by omega
     have hp3:IntKind.i64.wrap ((↑i:Int) - 1)= ↑i':=by rw[IntKind.wrap_i64];omega
     obtain⟨y,hyk⟩:∃y,xs[i']? =some y:=⟨_,List.getElem?_eq_getElem (by omega)⟩
     have hY:=ab hyk
     obtain⟨f0,f1,f2,f3,f4,f5,f6,f7,f8,f9,f10,f11,f12⟩:=(aa HR i' _ hyk).below hb0 hg
     clear he hyk
     cases d:x.okB l m
     ·have hq:Hid (cl s t k z p l e v r m xs=false):=ab ((aa hO).trans (de (by omega) (fZ (aa hX) d)))
      have d':aO l m x.ky x.st x.en x.an x.asu x.ale x.amo x.fn x.fsu x.fle x.fmo x.td x.tm=false:=d
      clear d
      go_wp2
      refine wp_region_held_drew (S:=(fun W=>((W.cell? ⟨w.heap.size,0,none⟩=some (.int .i64 s)∧W.cell? ⟨w.heap.size,1,none⟩=some (.int .i64 t)∧W.cell? ⟨w.heap.size,2,none⟩=some (.int .i64 k)∧W.cell? ⟨w.heap.size,3,none⟩=some (.int .i64 z)∧W.cell? ⟨w.heap.size,4,none⟩=some (.int .i64 p)∧W.cell? ⟨w.heap.size,5,none⟩=some (.int .i64 l)∧W.cell? ⟨w.heap.size,6,none⟩=some (.int .i64 e)∧W.cell? ⟨w.heap.size,7,none⟩=some (.bool b)∧W.cell? ⟨w.heap.size,8,none⟩=some (.int .i64 v)∧W.cell? ⟨w.heap.size,9,none⟩=some (.int .i64 r)∧W.cell? ⟨w.heap.size+1,0,none⟩=some (.int .i64 m)∧W.cell? ⟨w.heap.size+1,1,none⟩=some (.slice (some ⟨g,o,none⟩) len cap)∧W.cell? ⟨wo.heap.size,0,none⟩=some (.int .i64 x.ky)∧W.cell? ⟨wo.heap.size,1,none⟩=some (.int .i64 x.st)∧W.cell? ⟨wo.heap.size,2,none⟩=some (.int .i64 x.en)∧W.cell? ⟨wo.heap.size,3,none⟩=some (.int .i64 x.an)∧W.cell? ⟨wo.heap.size,4,none⟩=some (.int .i64 x.asu)∧W.cell? ⟨wo.heap.size,5,none⟩=some (.int .i64 x.ale)∧W.cell? ⟨wo.heap.size,6,none⟩=some (.int .i64 x.amo)∧W.cell? ⟨wo.heap.size,7,none⟩=some (.int .i64 x.fn)∧W.cell? ⟨wo.heap.size,8,none⟩=some (.int .i64 x.fsu)∧W.cell? ⟨wo.heap.size,9,none⟩=some (.int .i64 x.fle)∧W.cell? ⟨wo.heap.size,10,none⟩=some (.int .i64 x.fmo)∧W.cell? ⟨wo.heap.size,11,none⟩=some (.int .i64 x.td)∧W.cell? ⟨wo.heap.size,12,none⟩=some (.bool x.tm))∧w.heap.size<W.heap.size∧w.heap.size+1<W.heap.size∧wo.heap.size<W.heap.size))) (jK) ?_ (fun hHeld=>?_)
      ·(try dsimp only);((first|((repeat(first|(with_reducible assumption)|(with_reducible refine az ?_ (jF))|(with_reducible refine az ?_ (aj (Below.refl _ _)))|(with_reducible refine az ?_ (ai _ _))));done)|(refine⟨⟨?_,?_,?_,?_,?_,?_,?_,?_,?_,?_,?_,?_,?_,?_,?_,?_,?_,?_,?_,?_,?_,?_,?_,?_,?_⟩,?_,?_,?_⟩<;>first|(go_keep;done)|(simp;done)|(simp;omega)|omega)))
      refine kV 0 ?_
      refine kV 1 ?_
      refine kV 2 ?_
      refine kV 3 ?_
      refine kV 4 ?_
      refine rD 5 (fun K hK=>?_)
      go_simp
      (go_at_call 187;refine(ej _ _ _ _ _ _ _ _ _ _ _ _ _ _ _ hl _).mono ?_;rintro e w' ⟨rfl,hb⟩;obtain⟨hc,hf,hs⟩:=ac hb)
      (try go_wp2_with fail)
      refine hK.out _ _ ?_ (fun jB=>?_)
      ·(try dsimp only);((first|((repeat(first|(with_reducible assumption)|(with_reducible refine az ?_ (jF))|(with_reducible refine az ?_ (aj (Below.refl _ _)))|(with_reducible refine az ?_ (ai _ _))));done)|(refine⟨⟨?_,?_,?_,?_,?_,?_,?_,?_,?_,?_,?_,?_,?_,?_,?_,?_,?_,?_,?_,?_,?_,?_,?_,?_,?_⟩,?_,?_,?_⟩<;>first|(go_keep;done)|(simp;done)|(simp;omega)|omega)))
      clear hK K hHeld
      have hHeld:=jB
      clear jB
      try simp only[Act.put,tA,tZ,tS]
      refine kV 6 ?_
      refine kV 7 ?_
      refine kU 8 ?_
      try simp only[Act.put,tA,tZ,tS]
      refine kU 9 ?_
      try simp only[Act.put,tA,tZ,tS]
      refine kU 10 ?_
      try simp only[Act.put,tA,tZ,tS]
      refine kU 11 ?_
      try simp only[Act.put,tA,tZ,tS]
      refine kU 12 ?_
      try simp only[Act.put,tA,tZ,tS]
      refine kU 13 ?_
      try simp only[Act.put,tA,tZ,tS]
      refine kU 14 ?_
      try simp only[Act.put,tA,tZ,tS]
      refine kU 15 ?_
      try simp only[Act.put,tA,tZ,tS]
      refine kU 16 ?_
      try simp only[Act.put,tA,tZ,tS]
      refine kU 17 ?_
      try simp only[Act.put,tA,tZ,tS]
      refine kU 18 ?_
      try simp only[Act.put,tA,tZ,tS]
      refine kU 19 ?_
      try simp only[Act.put,tA,tZ,tS]
      refine kU 20 ?_
      try simp only[Act.put,tA,tZ,tS]
      refine kU 21 ?_
      try simp only[Act.put,tA,tZ,tS]
      refine kU 22 ?_
      try simp only[Act.put,tA,tZ,tS]
      refine kV 23 ?_
      refine wpAnyH_done (jK) ?_ _
      all_goals
       go_wp2
       go_ret
       exact⟨af (aa hq).symm,(ak)⟩
     have d':aO l m x.ky x.st x.en x.an x.asu x.ale x.amo x.fn x.fsu x.fle x.fmo x.td x.tm=true:=d
     cases n:fm k y x
     ·have hq:Hid (cl s t k z p l e v r m xs=false):=ab ((aa hO).trans (de (i:=i) (by omega) (by rw[fY (aa hE) (aa hX) (aa hY),d,n];rfl)))
      have n':dk k x.ky x.st x.en y.ky y.st y.en=false:=n
      clear d n
      go_wp2
      go_region_held3 (fun W=>((W.cell? ⟨w.heap.size,0,none⟩=some (.int .i64 s)∧W.cell? ⟨w.heap.size,1,none⟩=some (.int .i64 t)∧W.cell? ⟨w.heap.size,2,none⟩=some (.int .i64 k)∧W.cell? ⟨w.heap.size,3,none⟩=some (.int .i64 z)∧W.cell? ⟨w.heap.size,4,none⟩=some (.int .i64 p)∧W.cell? ⟨w.heap.size,5,none⟩=some (.int .i64 l)∧W.cell? ⟨w.heap.size,6,none⟩=some (.int .i64 e)∧W.cell? ⟨w.heap.size,7,none⟩=some (.bool b)∧W.cell? ⟨w.heap.size,8,none⟩=some (.int .i64 v)∧W.cell? ⟨w.heap.size,9,none⟩=some (.int .i64 r)∧W.cell? ⟨w.heap.size+1,0,none⟩=some (.int .i64 m)∧W.cell? ⟨w.heap.size+1,1,none⟩=some (.slice (some ⟨g,o,none⟩) len cap)∧W.cell? ⟨wo.heap.size,0,none⟩=some (.int .i64 x.ky)∧W.cell? ⟨wo.heap.size,1,none⟩=some (.int .i64 x.st)∧W.cell? ⟨wo.heap.size,2,none⟩=some (.int .i64 x.en)∧W.cell? ⟨wo.heap.size,3,none⟩=some (.int .i64 x.an)∧W.cell? ⟨wo.heap.size,4,none⟩=some (.int .i64 x.asu)∧W.cell? ⟨wo.heap.size,5,none⟩=some (.int .i64 x.ale)∧W.cell? ⟨wo.heap.size,6,none⟩=some (.int .i64 x.amo)∧W.cell? ⟨wo.heap.size,7,none⟩=some (.int .i64 x.fn)∧W.cell? ⟨wo.heap.size,8,none⟩=some (.int .i64 x.fsu)∧W.cell? ⟨wo.heap.size,9,none⟩=some (.int .i64 x.fle)∧W.cell? ⟨wo.heap.size,10,none⟩=some (.int .i64 x.fmo)∧W.cell? ⟨wo.heap.size,11,none⟩=some (.int .i64 x.td)∧W.cell? ⟨wo.heap.size,12,none⟩=some (.bool x.tm)∧W.cell? ⟨g,o+i'*13,none⟩=some (.int .i64 y.ky)∧W.cell? ⟨g,o+i'*13+1,none⟩=some (.int .i64 y.st)∧W.cell? ⟨g,o+i'*13+2,none⟩=some (.int .i64 y.en)∧W.cell? ⟨g,o+i'*13+3,none⟩=some (.int .i64 y.an)∧W.cell? ⟨g,o+i'*13+4,none⟩=some (.int .i64 y.asu)∧W.cell? ⟨g,o+i'*13+5,none⟩=some (.int .i64 y.ale)∧W.cell? ⟨g,o+i'*13+6,none⟩=some (.int .i64 y.amo)∧W.cell? ⟨g,o+i'*13+7,none⟩=some (.int .i64 y.fn)∧W.cell? ⟨g,o+i'*13+8,none⟩=some (.int .i64 y.fsu)∧W.cell? ⟨g,o+i'*13+9,none⟩=some (.int .i64 y.fle)∧W.cell? ⟨g,o+i'*13+10,none⟩=some (.int .i64 y.fmo)∧W.cell? ⟨g,o+i'*13+11,none⟩=some (.int .i64 y.td)∧W.cell? ⟨g,o+i'*13+12,none⟩=some (.bool y.tm))∧w.heap.size<W.heap.size∧w.heap.size+1<W.heap.size∧wo.heap.size<W.heap.size∧g<W.heap.size)) ((first|((repeat(first|(with_reducible assumption)|(with_reducible refine ce ?_ (jF))|(with_reducible refine ce ?_ (aj (Below.refl _ _)))|(with_reducible refine ce ?_ (ai _ _))));done)|(refine⟨⟨?_,?_,?_,?_,?_,?_,?_,?_,?_,?_,?_,?_,?_,?_,?_,?_,?_,?_,?_,?_,?_,?_,?_,?_,?_,?_,?_,?_,?_,?_,?_,?_,?_,?_,?_,?_,?_,?_⟩,?_,?_,?_,?_⟩<;>first|(go_keep;done)|(simp;done)|(simp;omega)|omega)))
       (first
       |(go_at_call 187;refine(ej _ _ _ _ _ _ _ _ _ _ _ _ _ _ _ hl _).mono ?_;rintro e w' ⟨rfl,hb⟩;obtain⟨hc,hf,hs⟩:=ac hb)
       |(go_at_call 188;refine(ie _ _ _ _ _ _ _ _ _ _ _ _ _ _ _ _ _ _ _ _ _ _ _ _ _ _ _ _).mono ?_;rintro e w' ⟨rfl,hb⟩;obtain⟨hc,hf,hs⟩:=ac hb))
      all_goals
       go_wp2
       go_ret
       exact⟨af (aa hq).symm,(ak)⟩
     ·have hN':Hid (ea k l m xs (i+1)=true):=ab (by rw[cT,aa hN,fY (aa hE) (aa hX) (aa hY),d,n];rfl)
      have n':dk k x.ky x.st x.en y.ky y.st y.en=true:=n
      clear d n
      go_wp2
      go_region_held3 (fun W=>((W.cell? ⟨w.heap.size,0,none⟩=some (.int .i64 s)∧W.cell? ⟨w.heap.size,1,none⟩=some (.int .i64 t)∧W.cell? ⟨w.heap.size,2,none⟩=some (.int .i64 k)∧W.cell? ⟨w.heap.size,3,none⟩=some (.int .i64 z)∧W.cell? ⟨w.heap.size,4,none⟩=some (.int .i64 p)∧W.cell? ⟨w.heap.size,5,none⟩=some (.int .i64 l)∧W.cell? ⟨w.heap.size,6,none⟩=some (.int .i64 e)∧W.cell? ⟨w.heap.size,7,none⟩=some (.bool b)∧W.cell? ⟨w.heap.size,8,none⟩=some (.int .i64 v)∧W.cell? ⟨w.heap.size,9,none⟩=some (.int .i64 r)∧W.cell? ⟨w.heap.size+1,0,none⟩=some (.int .i64 m)∧W.cell? ⟨w.heap.size+1,1,none⟩=some (.slice (some ⟨g,o,none⟩) len cap)∧W.cell? ⟨wo.heap.size,0,none⟩=some (.int .i64 x.ky)∧W.cell? ⟨wo.heap.size,1,none⟩=some (.int .i64 x.st)∧W.cell? ⟨wo.heap.size,2,none⟩=some (.int .i64 x.en)∧W.cell? ⟨wo.heap.size,3,none⟩=some (.int .i64 x.an)∧W.cell? ⟨wo.heap.size,4,none⟩=some (.int .i64 x.asu)∧W.cell? ⟨wo.heap.size,5,none⟩=some (.int .i64 x.ale)∧W.cell? ⟨wo.heap.size,6,none⟩=some (.int .i64 x.amo)∧W.cell? ⟨wo.heap.size,7,none⟩=some (.int .i64 x.fn)∧W.cell? ⟨wo.heap.size,8,none⟩=some (.int .i64 x.fsu)∧W.cell? ⟨wo.heap.size,9,none⟩=some (.int .i64 x.fle)∧W.cell? ⟨wo.heap.size,10,none⟩=some (.int .i64 x.fmo)∧W.cell? ⟨wo.heap.size,11,none⟩=some (.int .i64 x.td)∧W.cell? ⟨wo.heap.size,12,none⟩=some (.bool x.tm)∧W.cell? ⟨g,o+i'*13,none⟩=some (.int .i64 y.ky)∧W.cell? ⟨g,o+i'*13+1,none⟩=some (.int .i64 y.st)∧W.cell? ⟨g,o+i'*13+2,none⟩=some (.int .i64 y.en)∧W.cell? ⟨g,o+i'*13+3,none⟩=some (.int .i64 y.an)∧W.cell? ⟨g,o+i'*13+4,none⟩=some (.int .i64 y.asu)∧W.cell? ⟨g,o+i'*13+5,none⟩=some (.int .i64 y.ale)∧W.cell? ⟨g,o+i'*13+6,none⟩=some (.int .i64 y.amo)∧W.cell? ⟨g,o+i'*13+7,none⟩=some (.int .i64 y.fn)∧W.cell? ⟨g,o+i'*13+8,none⟩=some (.int .i64 y.fsu)∧W.cell? ⟨g,o+i'*13+9,none⟩=some (.int .i64 y.fle)∧W.cell? ⟨g,o+i'*13+10,none⟩=some (.int .i64 y.fmo)∧W.cell? ⟨g,o+i'*13+11,none⟩=some (.int .i64 y.td)∧W.cell? ⟨g,o+i'*13+12,none⟩=some (.bool y.tm))∧w.heap.size<W.heap.size∧w.heap.size+1<W.heap.size∧wo.heap.size<W.heap.size∧g<W.heap.size)) ((first|((repeat(first|(with_reducible assumption)|(with_reducible refine ce ?_ (jF))|(with_reducible refine ce ?_ (aj (Below.refl _ _)))|(with_reducible refine ce ?_ (ai _ _))));done)|(refine⟨⟨?_,?_,?_,?_,?_,?_,?_,?_,?_,?_,?_,?_,?_,?_,?_,?_,?_,?_,?_,?_,?_,?_,?_,?_,?_,?_,?_,?_,?_,?_,?_,?_,?_,?_,?_,?_,?_,?_⟩,?_,?_,?_,?_⟩<;>first|(go_keep;done)|(simp;done)|(simp;omega)|omega)))
       (first
       |(go_at_call 187;refine(ej _ _ _ _ _ _ _ _ _ _ _ _ _ _ _ hl _).mono ?_;rintro e w' ⟨rfl,hb⟩;obtain⟨hc,hf,hs⟩:=ac hb)
       |(go_at_call 188;refine(ie _ _ _ _ _ _ _ _ _ _ _ _ _ _ _ _ _ _ _ _ _ _ _ _ _ _ _ _).mono ?_;rintro e w' ⟨rfl,hb⟩;obtain⟨hc,hf,hs⟩:=ac hb))
      all_goals
       go_wp2
       go_roundw
       case rel=>exact⟨i+1,by omega,by go_num,hN',(ak)⟩
       case measure=>simp[intOf];omega
   ·have hq:Hid (cl s t k z p l e v r m xs=true):=ab ((aa hO).trans (by have e9:=aa hN;rwa [show i=xs.length by omega]at e9))
    go_wp2
    go_ret
    exact⟨af (aa hq).symm,(ar)⟩
 ·have hq:Hid (cl s t k z p l e v r m xs=false):=ab (okOp_n (by omega))
  go_enter Tryz.func165,Tryz.ntmps165
  go_wp2_with (first
   |(go_at_call 123;refine(aX _ _ _ _ _ _ _ _ _ _ _).mono ?_;rintro e w' ⟨rfl,hb⟩;obtain⟨hc,hf,hs⟩:=ac hb;(try have hz0:=zA hb w.heap.size);(try have hz1:=zA hb (w.heap.size+1)))
   |(go_at_call 126;refine(ah _ _ _ _).mono ?_;rintro e' w' ⟨rfl,rfl⟩))
  go_ret
  exact⟨af (aa hq).symm,(ar)⟩
end Go.Proofs.YtealpjmannopeaaGreat
