/- Laid together: what the claim needs of the texts that were built one by one. -/
import Derived.Test.YtdmhihcipkhecaaGreatT2
import Derived.Test.YtdmhihcipkhecaaGreatT1
import Derived.Test.YtdmhihcipkhecaaGreatT0
import Derived.BigQuiet
import Derived.Deep.RegionHeld3
import Derived.Lib.SmallJoins
set_option linter.unusedVariables false
namespace Go.Proofs.YtdmhihcipkhecaaGreat
open Go.ChangeShapes Go.WideShapes Go.ChangeAt Go.RowKit
theorem aO{b0 b1 b2 a0 a1 a2 a3 a4 a5 a6 a7 a8 a9 c0 c1 e0 e1 e2 e3 e4 e5 e6 e7 e8 e9 e10 e11 e12:Nat}{k0 k1 k2 k3 k4 k5 k6 k7 k8 k9 l0 l1 m0 m1 m2 m3 m4 m5 m6 m7 m8 m9 m10 m11 m12:Value}{W W':World}(h:((W.cell? ⟨b0,a0,none⟩=some k0∧W.cell? ⟨b0,a1,none⟩=some k1∧W.cell? ⟨b0,a2,none⟩=some k2∧W.cell? ⟨b0,a3,none⟩=some k3∧W.cell? ⟨b0,a4,none⟩=some k4∧W.cell? ⟨b0,a5,none⟩=some k5∧W.cell? ⟨b0,a6,none⟩=some k6∧W.cell? ⟨b0,a7,none⟩=some k7∧W.cell? ⟨b0,a8,none⟩=some k8∧W.cell? ⟨b0,a9,none⟩=some k9∧W.cell? ⟨b1,c0,none⟩=some l0∧W.cell? ⟨b1,c1,none⟩=some l1∧W.cell? ⟨b2,e0,none⟩=some m0∧W.cell? ⟨b2,e1,none⟩=some m1∧W.cell? ⟨b2,e2,none⟩=some m2∧W.cell? ⟨b2,e3,none⟩=some m3∧W.cell? ⟨b2,e4,none⟩=some m4∧W.cell? ⟨b2,e5,none⟩=some m5∧W.cell? ⟨b2,e6,none⟩=some m6∧W.cell? ⟨b2,e7,none⟩=some m7∧W.cell? ⟨b2,e8,none⟩=some m8∧W.cell? ⟨b2,e9,none⟩=some m9∧W.cell? ⟨b2,e10,none⟩=some m10∧W.cell? ⟨b2,e11,none⟩=some m11∧W.cell? ⟨b2,e12,none⟩=some m12)∧b0<W.heap.size∧b1<W.heap.size∧b2<W.heap.size))(hb:Below W.heap.size W W'):((W'.cell? ⟨b0,a0,none⟩=some k0∧W'.cell? ⟨b0,a1,none⟩=some k1∧W'.cell? ⟨b0,a2,none⟩=some k2∧W'.cell? ⟨b0,a3,none⟩=some k3∧W'.cell? ⟨b0,a4,none⟩=some k4∧W'.cell? ⟨b0,a5,none⟩=some k5∧W'.cell? ⟨b0,a6,none⟩=some k6∧W'.cell? ⟨b0,a7,none⟩=some k7∧W'.cell? ⟨b0,a8,none⟩=some k8∧W'.cell? ⟨b0,a9,none⟩=some k9∧W'.cell? ⟨b1,c0,none⟩=some l0∧W'.cell? ⟨b1,c1,none⟩=some l1∧W'.cell? ⟨b2,e0,none⟩=some m0∧W'.cell? ⟨b2,e1,none⟩=some m1∧W'.cell? ⟨b2,e2,none⟩=some m2∧W'.cell? ⟨b2,e3,none⟩=some m3∧W'.cell? ⟨b2,e4,none⟩=some m4∧W'.cell? ⟨b2,e5,none⟩=some m5∧W'.cell? ⟨b2,e6,none⟩=some m6∧W'.cell? ⟨b2,e7,none⟩=some m7∧W'.cell? ⟨b2,e8,none⟩=some m8∧W'.cell? ⟨b2,e9,none⟩=some m9∧W'.cell? ⟨b2,e10,none⟩=some m10∧W'.cell? ⟨b2,e11,none⟩=some m11∧W'.cell? ⟨b2,e12,none⟩=some m12)∧b0<W'.heap.size∧b1<W'.heap.size∧b2<W'.heap.size):=by
 obtain⟨h99,s0,s1,s2⟩:=h
 have e0:∀z,W'.cell? ⟨b0,z,none⟩=W.cell? ⟨b0,z,none⟩:=fun z=>hb.cell s0
 have e1:∀z,W'.cell? ⟨b1,z,none⟩=W.cell? ⟨b1,z,none⟩:=fun z=>hb.cell s1
 have e2:∀z,W'.cell? ⟨b2,z,none⟩=W.cell? ⟨b2,z,none⟩:=fun z=>hb.cell s2
 refine⟨?_,Nat.lt_of_lt_of_le s0 hb.size,Nat.lt_of_lt_of_le s1 hb.size,Nat.lt_of_lt_of_le s2 hb.size⟩
 simp only[e0,e1,e2]
 exact h99
theorem dh{b0 b1 b2 b3 a0 a1 a2 a3 a4 a5 a6 a7 a8 a9 c0 c1 e0 e1 e2 e3 e4 e5 e6 e7 e8 e9 e10 e11 e12 g0 g1 g2 g3 g4 g5 g6 g7 g8 g9 g10 g11 g12:Nat}{k0 k1 k2 k3 k4 k5 k6 k7 k8 k9 l0 l1 m0 m1 m2 m3 m4 m5 m6 m7 m8 m9 m10 m11 m12 n0 n1 n2 n3 n4 n5 n6 n7 n8 n9 n10 n11 n12:Value}{W W':World}(h:((W.cell? ⟨b0,a0,none⟩=some k0∧W.cell? ⟨b0,a1,none⟩=some k1∧W.cell? ⟨b0,a2,none⟩=some k2∧W.cell? ⟨b0,a3,none⟩=some k3∧W.cell? ⟨b0,a4,none⟩=some k4∧W.cell? ⟨b0,a5,none⟩=some k5∧W.cell? ⟨b0,a6,none⟩=some k6∧W.cell? ⟨b0,a7,none⟩=some k7∧W.cell? ⟨b0,a8,none⟩=some k8∧W.cell? ⟨b0,a9,none⟩=some k9∧W.cell? ⟨b1,c0,none⟩=some l0∧W.cell? ⟨b1,c1,none⟩=some l1∧W.cell? ⟨b2,e0,none⟩=some m0∧W.cell? ⟨b2,e1,none⟩=some m1∧W.cell? ⟨b2,e2,none⟩=some m2∧W.cell? ⟨b2,e3,none⟩=some m3∧W.cell? ⟨b2,e4,none⟩=some m4∧W.cell? ⟨b2,e5,none⟩=some m5∧W.cell? ⟨b2,e6,none⟩=some m6∧W.cell? ⟨b2,e7,none⟩=some m7∧W.cell? ⟨b2,e8,none⟩=some m8∧W.cell? ⟨b2,e9,none⟩=some m9∧W.cell? ⟨b2,e10,none⟩=some m10∧W.cell? ⟨b2,e11,none⟩=some m11∧W.cell? ⟨b2,e12,none⟩=some m12∧W.cell? ⟨b3,g0,none⟩=some n0∧W.cell? ⟨b3,g1,none⟩=some n1∧W.cell? ⟨b3,g2,none⟩=some n2∧W.cell? ⟨b3,g3,none⟩=some n3∧W.cell? ⟨b3,g4,none⟩=some n4∧W.cell? ⟨b3,g5,none⟩=some n5∧W.cell? ⟨b3,g6,none⟩=some n6∧W.cell? ⟨b3,g7,none⟩=some n7∧W.cell? ⟨b3,g8,none⟩=some n8∧W.cell? ⟨b3,g9,none⟩=some n9∧W.cell? ⟨b3,g10,none⟩=some n10∧W.cell? ⟨b3,g11,none⟩=some n11∧W.cell? ⟨b3,g12,none⟩=some n12)∧b0<W.heap.size∧b1<W.heap.size∧b2<W.heap.size∧b3<W.heap.size))(hb:Below W.heap.size W W'):((W'.cell? ⟨b0,a0,none⟩=some k0∧W'.cell? ⟨b0,a1,none⟩=some k1∧W'.cell? ⟨b0,a2,none⟩=some k2∧W'.cell? ⟨b0,a3,none⟩=some k3∧W'.cell? ⟨b0,a4,none⟩=some k4∧W'.cell? ⟨b0,a5,none⟩=some k5∧W'.cell? ⟨b0,a6,none⟩=some k6∧W'.cell? ⟨b0,a7,none⟩=some k7∧W'.cell? ⟨b0,a8,none⟩=some k8∧W'.cell? ⟨b0,a9,none⟩=some k9∧W'.cell? ⟨b1,c0,none⟩=some l0∧W'.cell? ⟨b1,c1,none⟩=some l1∧W'.cell? ⟨b2,e0,none⟩=some m0∧W'.cell? ⟨b2,e1,none⟩=some m1∧W'.cell? ⟨b2,e2,none⟩=some m2∧W'.cell? ⟨b2,e3,none⟩=some m3∧W'.cell? ⟨b2,e4,none⟩=some m4∧W'.cell? ⟨b2,e5,none⟩=some m5∧W'.cell? ⟨b2,e6,none⟩=some m6∧W'.cell? ⟨b2,e7,none⟩=some m7∧W'.cell? ⟨b2,e8,none⟩=some m8∧W'.cell? ⟨b2,e9,none⟩=some m9∧W'.cell? ⟨b2,e10,none⟩=some m10∧W'.cell? ⟨b2,e11,none⟩=some m11∧W'.cell? ⟨b2,e12,none⟩=some m12∧W'.cell? ⟨b3,g0,none⟩=some n0∧W'.cell? ⟨b3,g1,none⟩=some n1∧W'.cell? ⟨b3,g2,none⟩=some n2∧W'.cell? ⟨b3,g3,none⟩=some n3∧W'.cell? ⟨b3,g4,none⟩=some n4∧W'.cell? ⟨b3,g5,none⟩=some n5∧W'.cell? ⟨b3,g6,none⟩=some n6∧W'.cell? ⟨b3,g7,none⟩=some n7∧W'.cell? ⟨b3,g8,none⟩=some n8∧W'.cell? ⟨b3,g9,none⟩=some n9∧W'.cell? ⟨b3,g10,none⟩=some n10∧W'.cell? ⟨b3,g11,none⟩=some n11∧W'.cell? ⟨b3,g12,none⟩=some n12)∧b0<W'.heap.size∧b1<W'.heap.size∧b2<W'.heap.size∧b3<W'.heap.size):=by
 obtain⟨h99,s0,s1,s2,s3⟩:=h
 have e0:∀z,W'.cell? ⟨b0,z,none⟩=W.cell? ⟨b0,z,none⟩:=fun z=>hb.cell s0
 have e1:∀z,W'.cell? ⟨b1,z,none⟩=W.cell? ⟨b1,z,none⟩:=fun z=>hb.cell s1
 have e2:∀z,W'.cell? ⟨b2,z,none⟩=W.cell? ⟨b2,z,none⟩:=fun z=>hb.cell s2
 have e3:∀z,W'.cell? ⟨b3,z,none⟩=W.cell? ⟨b3,z,none⟩:=fun z=>hb.cell s3
 refine⟨?_,Nat.lt_of_lt_of_le s0 hb.size,Nat.lt_of_lt_of_le s1 hb.size,Nat.lt_of_lt_of_le s2 hb.size,Nat.lt_of_lt_of_le s3 hb.size⟩
 simp only[e0,e1,e2,e3]
 exact h99
set_option linter.unusedSimpArgs false in
set_option maxRecDepth 20000 in
set_option maxHeartbeats 8000000 in
theorem lf(s t k z p l e:Int)(b:Bool)(v r:Int)(m:Int)(a:Option Addr)(len cap:Nat)(xs:List aC)(w:World)(h:cO w a len xs):Calls Tryz.prog 17 #[.agg #[.int .i64 s,.int .i64 t,.int .i64 k,.int .i64 z,.int .i64 p,.int .i64 l,.int .i64 e,.bool b,.int .i64 v,.int .i64 r],.agg #[.int .i64 m,.slice a len cap]] w fun e' w'=>e'= .returned (.bool (cB s t k z p l e v r m xs))∧Below w.heap.size w w':=by
 have hm:=h.2.1
 unfold maxLen at hm
 have hxl0:=h.1
 cases c0:aV s t k z p l e v r
 ·have hq:Hid (cB s t k z p l e v r m xs=false):=ae (okOp_j c0)
  go_enter Tryz.func17,Tryz.ntmps17
  go_wp2_with (first
   |(go_at_call 41;refine(ca _ _ _ _ _ _ _ _ _ _ _).mono ?_;rintro e w' ⟨rfl,hb⟩;obtain⟨hc,hf,hs⟩:=az hb;(try have hz0:=zA hb w.heap.size);(try have hz1:=zA hb (w.heap.size+1)))
   |(go_at_call 34;refine(aA _ _ _ _).mono ?_;rintro e' w' ⟨rfl,rfl⟩))
  go_ret
  exact⟨aD (ab hq).symm,(bC)⟩
 cases c1:bH m 0 1000
 ·have hq:Hid (cB s t k z p l e v r m xs=false):=ae (okOp_m c1)
  go_enter Tryz.func17,Tryz.ntmps17
  go_wp2_with (first
   |(go_at_call 41;refine(ca _ _ _ _ _ _ _ _ _ _ _).mono ?_;rintro e w' ⟨rfl,hb⟩;obtain⟨hc,hf,hs⟩:=az hb;(try have hz0:=zA hb w.heap.size);(try have hz1:=zA hb (w.heap.size+1)))
   |(go_at_call 34;refine(aA _ _ _ _).mono ?_;rintro e' w' ⟨rfl,rfl⟩))
  go_ret
  exact⟨aD (ab hq).symm,(bC)⟩
 by_cases c2:(len:Int)≤300
 ·have hO:Hid (cB s t k z p l e v r m xs=fd k l m xs xs.length):=ae (okOp_t c0 c1 (by omega))
  have hl:=gQ c0
  go_enter Tryz.func17,Tryz.ntmps17
  go_wp2_with (first
   |(go_at_call 41;refine(ca _ _ _ _ _ _ _ _ _ _ _).mono ?_;rintro e w' ⟨rfl,hb⟩;obtain⟨hc,hf,hs⟩:=az hb;(try have hz0:=zA hb w.heap.size);(try have hz1:=zA hb (w.heap.size+1)))
   |(go_at_call 34;refine(aA _ _ _ _).mono ?_;rintro e' w' ⟨rfl,rfl⟩))
  clear hc hf hs
  go_loopw [25] (fun iv wr=>∃i:Nat,i≤len∧iv= .int .i64 i∧Hid (fd k l m xs i=true)∧Below ((w.alloc (.cells #[.int .i64 s,.int .i64 t,.int .i64 k,.int .i64 z,.int .i64 p,.int .i64 l,.int .i64 e,.bool b,.int .i64 v,.int .i64 r] 24)).alloc (.cells #[.int .i64 m,.slice a len cap] 27)).heap.size ((w.alloc (.cells #[.int .i64 s,.int .i64 t,.int .i64 k,.int .i64 z,.int .i64 p,.int .i64 l,.int .i64 e,.bool b,.int .i64 v,.int .i64 r] 24)).alloc (.cells #[.int .i64 m,.slice a len cap] 27)) wr) (fun iv _=>len - (intOf iv).toNat)
  case atStart=>exact⟨0,Nat.zero_le _,rfl,ae rfl,hb⟩
  case round=>
   obtain⟨i,hi,rfl,hN,hbw⟩:=hrel
   rename World=>wo
   have hb0:Below w.heap.size w wo:=am (ag (aq _ _) _) hbw
   have hz1:w.heap.size+1<wo.heap.size:=by have:=hbw.size;simp at this;omega
   have hz0:w.heap.size<wo.heap.size:=by omega
   have j0:wo.cell? ⟨w.heap.size,0,none⟩=some (.int .i64 s):=(hbw.cell (p:=⟨w.heap.size,0,none⟩) (nU)).trans (nV)
   have j1:wo.cell? ⟨w.heap.size,1,none⟩=some (.int .i64 t):=(hbw.cell (p:=⟨w.heap.size,1,none⟩) (nU)).trans (nV)
   have j2:wo.cell? ⟨w.heap.size,2,none⟩=some (.int .i64 k):=(hbw.cell (p:=⟨w.heap.size,2,none⟩) (nU)).trans (nV)
   have j3:wo.cell? ⟨w.heap.size,3,none⟩=some (.int .i64 z):=(hbw.cell (p:=⟨w.heap.size,3,none⟩) (nU)).trans (nV)
   have j4:wo.cell? ⟨w.heap.size,4,none⟩=some (.int .i64 p):=(hbw.cell (p:=⟨w.heap.size,4,none⟩) (nU)).trans (nV)
   have j5:wo.cell? ⟨w.heap.size,5,none⟩=some (.int .i64 l):=(hbw.cell (p:=⟨w.heap.size,5,none⟩) (nU)).trans (nV)
   have j6:wo.cell? ⟨w.heap.size,6,none⟩=some (.int .i64 e):=(hbw.cell (p:=⟨w.heap.size,6,none⟩) (nU)).trans (nV)
   have j7:wo.cell? ⟨w.heap.size,7,none⟩=some (.bool b):=(hbw.cell (p:=⟨w.heap.size,7,none⟩) (nU)).trans (nV)
   have j8:wo.cell? ⟨w.heap.size,8,none⟩=some (.int .i64 v):=(hbw.cell (p:=⟨w.heap.size,8,none⟩) (nU)).trans (nV)
   have j9:wo.cell? ⟨w.heap.size,9,none⟩=some (.int .i64 r):=(hbw.cell (p:=⟨w.heap.size,9,none⟩) (nU)).trans (nV)
   have s0:wo.cell? ⟨w.heap.size+1,0,none⟩=some (.int .i64 m):=(hbw.cell (p:=⟨w.heap.size+1,0,none⟩) (nU)).trans (nV)
   have s1:wo.cell? ⟨w.heap.size+1,1,none⟩=some (.slice a len cap):=(hbw.cell (p:=⟨w.heap.size+1,1,none⟩) (nU)).trans (nV)
   by_cases hlt:i<len
   ·obtain⟨hxl,hmx,hx⟩:=h
    obtain⟨g,o,rfl,hr⟩:=hx.resolve_left (by omega)
    obtain⟨x,hxk⟩:∃x,xs[i]? =some x:=⟨_,List.getElem?_eq_getElem (by omega)⟩
    have hg:g<w.heap.size:=hr.lt (by omega)
    have hX:=ae hxk
    have HR:=ae hr
    obtain⟨d0,d1,d2,d3,d4,d5,d6,d7,d8,d9,d10,d11,d12⟩:=(hr i _ hxk).below hb0 hg
    have hgo:g<wo.heap.size:=Nat.lt_of_lt_of_le hg hb0.size
    clear hx hxk hr
    by_cases h0:i=0
    ·have hZ:=ae h0
     have hpd:decide ((0:Int)< ↑i)=false:=decide_eq_false (by omega)
     have hpe:decide (0<i)=false:=decide_eq_false (by omega)
     clear h0
     cases d:x.okB l m
     ·have hq:Hid (cB s t k z p l e v r m xs=false):=ae ((ab hO).trans (ee (by omega) (gP (ab hX) d)))
      have d':aY l m x.ky x.st x.en x.an x.asu x.ale x.amo x.fn x.fsu x.fle x.fmo x.td x.tm=false:=d
      clear d
      go_wp2
      refine wp_region_held_drew (S:=(fun W=>((W.cell? ⟨w.heap.size,0,none⟩=some (.int .i64 s)∧W.cell? ⟨w.heap.size,1,none⟩=some (.int .i64 t)∧W.cell? ⟨w.heap.size,2,none⟩=some (.int .i64 k)∧W.cell? ⟨w.heap.size,3,none⟩=some (.int .i64 z)∧W.cell? ⟨w.heap.size,4,none⟩=some (.int .i64 p)∧W.cell? ⟨w.heap.size,5,none⟩=some (.int .i64 l)∧W.cell? ⟨w.heap.size,6,none⟩=some (.int .i64 e)∧W.cell? ⟨w.heap.size,7,none⟩=some (.bool b)∧W.cell? ⟨w.heap.size,8,none⟩=some (.int .i64 v)∧W.cell? ⟨w.heap.size,9,none⟩=some (.int .i64 r)∧W.cell? ⟨w.heap.size+1,0,none⟩=some (.int .i64 m)∧W.cell? ⟨w.heap.size+1,1,none⟩=some (.slice (some ⟨g,o,none⟩) len cap)∧W.cell? ⟨wo.heap.size,0,none⟩=some (.int .i64 x.ky)∧W.cell? ⟨wo.heap.size,1,none⟩=some (.int .i64 x.st)∧W.cell? ⟨wo.heap.size,2,none⟩=some (.int .i64 x.en)∧W.cell? ⟨wo.heap.size,3,none⟩=some (.int .i64 x.an)∧W.cell? ⟨wo.heap.size,4,none⟩=some (.int .i64 x.asu)∧W.cell? ⟨wo.heap.size,5,none⟩=some (.int .i64 x.ale)∧W.cell? ⟨wo.heap.size,6,none⟩=some (.int .i64 x.amo)∧W.cell? ⟨wo.heap.size,7,none⟩=some (.int .i64 x.fn)∧W.cell? ⟨wo.heap.size,8,none⟩=some (.int .i64 x.fsu)∧W.cell? ⟨wo.heap.size,9,none⟩=some (.int .i64 x.fle)∧W.cell? ⟨wo.heap.size,10,none⟩=some (.int .i64 x.fmo)∧W.cell? ⟨wo.heap.size,11,none⟩=some (.int .i64 x.td)∧W.cell? ⟨wo.heap.size,12,none⟩=some (.bool x.tm))∧w.heap.size<W.heap.size∧w.heap.size+1<W.heap.size∧wo.heap.size<W.heap.size))) (oc) ?_ (fun hHeld=>?_)
      ·(try dsimp only);((first|((repeat(first|(with_reducible assumption)|(with_reducible refine aO ?_ (nK))|(with_reducible refine aO ?_ (ap (Below.refl _ _)))|(with_reducible refine aO ?_ (aq _ _))));done)|(refine⟨⟨?_,?_,?_,?_,?_,?_,?_,?_,?_,?_,?_,?_,?_,?_,?_,?_,?_,?_,?_,?_,?_,?_,?_,?_,?_⟩,?_,?_,?_⟩<;>first|(go_keep;done)|(simp;done)|(simp;omega)|omega)))
      refine kV 0 ?_
      refine kV 1 ?_
      refine kV 2 ?_
      refine kV 3 ?_
      refine kV 4 ?_
      refine rD 5 (fun K hK=>?_)
      go_simp
      (go_at_call 42;refine(fj _ _ _ _ _ _ _ _ _ _ _ _ _ _ _ hl _).mono ?_;rintro e w' ⟨rfl,hb⟩;obtain⟨hc,hf,hs⟩:=az hb)
      (try go_wp2_with fail)
      refine hK.out _ _ ?_ (fun mj=>?_)
      ·(try dsimp only);((first|((repeat(first|(with_reducible assumption)|(with_reducible refine aO ?_ (nK))|(with_reducible refine aO ?_ (ap (Below.refl _ _)))|(with_reducible refine aO ?_ (aq _ _))));done)|(refine⟨⟨?_,?_,?_,?_,?_,?_,?_,?_,?_,?_,?_,?_,?_,?_,?_,?_,?_,?_,?_,?_,?_,?_,?_,?_,?_⟩,?_,?_,?_⟩<;>first|(go_keep;done)|(simp;done)|(simp;omega)|omega)))
      clear hK K hHeld
      have hHeld:=mj
      clear mj
      try simp only[Act.put,tA,tZ,tS]
      refine kV 6 ?_
      refine kV 7 ?_
      refine kU 8 ?_
      try simp only[Act.put,tA,tZ,tS]
      refine kU 9 ?_
      try simp only[Act.put,tA,tZ,tS]
      refine kU 10 ?_
      try simp only[Act.put,tA,tZ,tS]
      refine kU 11 ?_
      try simp only[Act.put,tA,tZ,tS]
      refine kU 12 ?_
      try simp only[Act.put,tA,tZ,tS]
      refine kU 13 ?_
      try simp only[Act.put,tA,tZ,tS]
      refine kU 14 ?_
      try simp only[Act.put,tA,tZ,tS]
      refine kU 15 ?_
      try simp only[Act.put,tA,tZ,tS]
      refine kU 16 ?_
      try simp only[Act.put,tA,tZ,tS]
      refine kU 17 ?_
      try simp only[Act.put,tA,tZ,tS]
      refine kU 18 ?_
      try simp only[Act.put,tA,tZ,tS]
      refine kU 19 ?_
      try simp only[Act.put,tA,tZ,tS]
      refine kU 20 ?_
      try simp only[Act.put,tA,tZ,tS]
      refine kU 21 ?_
      try simp only[Act.put,tA,tZ,tS]
      refine kU 22 ?_
      try simp only[Act.put,tA,tZ,tS]
      refine kV 23 ?_
      refine wpAnyH_done (oc) ?_ _
      all_goals
       go_wp2
       go_ret
       exact⟨aD (ab hq).symm,(el)⟩
     ·have hN':Hid (fd k l m xs (i+1)=true):=ae (by rw[dT,ab hN,kZ (ab hZ) (ab hX),d];rfl)
      have d':aY l m x.ky x.st x.en x.an x.asu x.ale x.amo x.fn x.fsu x.fle x.fmo x.td x.tm=true:=d
      clear d
      go_wp2
      refine wp_region_held_drew (S:=(fun W=>((W.cell? ⟨w.heap.size,0,none⟩=some (.int .i64 s)∧W.cell? ⟨w.heap.size,1,none⟩=some (.int .i64 t)∧W.cell? ⟨w.heap.size,2,none⟩=some (.int .i64 k)∧W.cell? ⟨w.heap.size,3,none⟩=some (.int .i64 z)∧W.cell? ⟨w.heap.size,4,none⟩=some (.int .i64 p)∧W.cell? ⟨w.heap.size,5,none⟩=some (.int .i64 l)∧W.cell? ⟨w.heap.size,6,none⟩=some (.int .i64 e)∧W.cell? ⟨w.heap.size,7,none⟩=some (.bool b)∧W.cell? ⟨w.heap.size,8,none⟩=some (.int .i64 v)∧W.cell? ⟨w.heap.size,9,none⟩=some (.int .i64 r)∧W.cell? ⟨w.heap.size+1,0,none⟩=some (.int .i64 m)∧W.cell? ⟨w.heap.size+1,1,none⟩=some (.slice (some ⟨g,o,none⟩) len cap)∧W.cell? ⟨wo.heap.size,0,none⟩=some (.int .i64 x.ky)∧W.cell? ⟨wo.heap.size,1,none⟩=some (.int .i64 x.st)∧W.cell? ⟨wo.heap.size,2,none⟩=some (.int .i64 x.en)∧W.cell? ⟨wo.heap.size,3,none⟩=some (.int .i64 x.an)∧W.cell? ⟨wo.heap.size,4,none⟩=some (.int .i64 x.asu)∧W.cell? ⟨wo.heap.size,5,none⟩=some (.int .i64 x.ale)∧W.cell? ⟨wo.heap.size,6,none⟩=some (.int .i64 x.amo)∧W.cell? ⟨wo.heap.size,7,none⟩=some (.int .i64 x.fn)∧W.cell? ⟨wo.heap.size,8,none⟩=some (.int .i64 x.fsu)∧W.cell? ⟨wo.heap.size,9,none⟩=some (.int .i64 x.fle)∧W.cell? ⟨wo.heap.size,10,none⟩=some (.int .i64 x.fmo)∧W.cell? ⟨wo.heap.size,11,none⟩=some (.int .i64 x.td)∧W.cell? ⟨wo.heap.size,12,none⟩=some (.bool x.tm))∧w.heap.size<W.heap.size∧w.heap.size+1<W.heap.size∧wo.heap.size<W.heap.size))) (oc) ?_ (fun hHeld=>?_)
      ·(try dsimp only);((first|((repeat(first|(with_reducible assumption)|(with_reducible refine aO ?_ (nK))|(with_reducible refine aO ?_ (ap (Below.refl _ _)))|(with_reducible refine aO ?_ (aq _ _))));done)|(refine⟨⟨?_,?_,?_,?_,?_,?_,?_,?_,?_,?_,?_,?_,?_,?_,?_,?_,?_,?_,?_,?_,?_,?_,?_,?_,?_⟩,?_,?_,?_⟩<;>first|(go_keep;done)|(simp;done)|(simp;omega)|omega)))
      refine kV 0 ?_
      refine kV 1 ?_
      refine kV 2 ?_
      refine kV 3 ?_
      refine kV 4 ?_
      refine rD 5 (fun K hK=>?_)
      go_simp
      (go_at_call 42;refine(fj _ _ _ _ _ _ _ _ _ _ _ _ _ _ _ hl _).mono ?_;rintro e w' ⟨rfl,hb⟩;obtain⟨hc,hf,hs⟩:=az hb)
      (try go_wp2_with fail)
      refine hK.out _ _ ?_ (fun mj=>?_)
      ·(try dsimp only);((first|((repeat(first|(with_reducible assumption)|(with_reducible refine aO ?_ (nK))|(with_reducible refine aO ?_ (ap (Below.refl _ _)))|(with_reducible refine aO ?_ (aq _ _))));done)|(refine⟨⟨?_,?_,?_,?_,?_,?_,?_,?_,?_,?_,?_,?_,?_,?_,?_,?_,?_,?_,?_,?_,?_,?_,?_,?_,?_⟩,?_,?_,?_⟩<;>first|(go_keep;done)|(simp;done)|(simp;omega)|omega)))
      clear hK K hHeld
      have hHeld:=mj
      clear mj
      try simp only[Act.put,tA,tZ,tS]
      refine kV 6 ?_
      refine kV 7 ?_
      refine kV 8 ?_
      refine kV 9 ?_
      refine kV 10 ?_
      refine kU 11 ?_
      try simp only[Act.put,tA,tZ,tS]
      refine kU 12 ?_
      try simp only[Act.put,tA,tZ,tS]
      refine kU 13 ?_
      try simp only[Act.put,tA,tZ,tS]
      refine kU 14 ?_
      try simp only[Act.put,tA,tZ,tS]
      refine kU 15 ?_
      try simp only[Act.put,tA,tZ,tS]
      refine kU 16 ?_
      try simp only[Act.put,tA,tZ,tS]
      refine kU 17 ?_
      try simp only[Act.put,tA,tZ,tS]
      refine kU 18 ?_
      try simp only[Act.put,tA,tZ,tS]
      refine kU 19 ?_
      try simp only[Act.put,tA,tZ,tS]
      refine kU 20 ?_
      try simp only[Act.put,tA,tZ,tS]
      refine kU 21 ?_
      try simp only[Act.put,tA,tZ,tS]
      refine kV 22 ?_
      refine kV 23 ?_
      refine wpAnyH_done (oc) ?_ _
      all_goals
       go_wp2
       go_roundw
       case rel=>exact⟨i+1,by omega,by go_num,hN',(el)⟩
       case measure=>simp[intOf];omega
    ·obtain⟨i',he⟩:∃i',i=i'+1:=⟨i - 1,by omega⟩
     have hE:=ae he
     have hp0:0<i:=by omega
     have hpd:decide (0<i)=true:=decide_eq_true hp0
     have hp4:i'<len:=by omega
     have hp1:(0:Int)≤ ↑i':=by omega
     have hp2:(↑i':Int)< ↑len:=by omega
     have hp3:IntKind.i64.wrap ((↑i:Int) - 1)= ↑i':=by rw[IntKind.wrap_i64];omega
     obtain⟨y,hyk⟩:∃y,xs[i']? =some y:=⟨_,List.getElem?_eq_getElem (by omega)⟩
     have hY:=ae hyk
     obtain⟨f0,f1,f2,f3,f4,f5,f6,f7,f8,f9,f10,f11,f12⟩:=(ab HR i' _ hyk).below hb0 hg
     clear he hyk
     cases d:x.okB l m
     ·have hq:Hid (cB s t k z p l e v r m xs=false):=ae ((ab hO).trans (ee (by omega) (gP (ab hX) d)))
      have d':aY l m x.ky x.st x.en x.an x.asu x.ale x.amo x.fn x.fsu x.fle x.fmo x.td x.tm=false:=d
      clear d
      go_wp2
      refine wp_region_held_drew (S:=(fun W=>((W.cell? ⟨w.heap.size,0,none⟩=some (.int .i64 s)∧W.cell? ⟨w.heap.size,1,none⟩=some (.int .i64 t)∧W.cell? ⟨w.heap.size,2,none⟩=some (.int .i64 k)∧W.cell? ⟨w.heap.size,3,none⟩=some (.int .i64 z)∧W.cell? ⟨w.heap.size,4,none⟩=some (.int .i64 p)∧W.cell? ⟨w.heap.size,5,none⟩=some (.int .i64 l)∧W.cell? ⟨w.heap.size,6,none⟩=some (.int .i64 e)∧W.cell? ⟨w.heap.size,7,none⟩=some (.bool b)∧W.cell? ⟨w.heap.size,8,none⟩=some (.int .i64 v)∧W.cell? ⟨w.heap.size,9,none⟩=some (.int .i64 r)∧W.cell? ⟨w.heap.size+1,0,none⟩=some (.int .i64 m)∧W.cell? ⟨w.heap.size+1,1,none⟩=some (.slice (some ⟨g,o,none⟩) len cap)∧W.cell? ⟨wo.heap.size,0,none⟩=some (.int .i64 x.ky)∧W.cell? ⟨wo.heap.size,1,none⟩=some (.int .i64 x.st)∧W.cell? ⟨wo.heap.size,2,none⟩=some (.int .i64 x.en)∧W.cell? ⟨wo.heap.size,3,none⟩=some (.int .i64 x.an)∧W.cell? ⟨wo.heap.size,4,none⟩=some (.int .i64 x.asu)∧W.cell? ⟨wo.heap.size,5,none⟩=some (.int .i64 x.ale)∧W.cell? ⟨wo.heap.size,6,none⟩=some (.int .i64 x.amo)∧W.cell? ⟨wo.heap.size,7,none⟩=some (.int .i64 x.fn)∧W.cell? ⟨wo.heap.size,8,none⟩=some (.int .i64 x.fsu)∧W.cell? ⟨wo.heap.size,9,none⟩=some (.int .i64 x.fle)∧W.cell? ⟨wo.heap.size,10,none⟩=some (.int .i64 x.fmo)∧W.cell? ⟨wo.heap.size,11,none⟩=some (.int .i64 x.td)∧W.cell? ⟨wo.heap.size,12,none⟩=some (.bool x.tm))∧w.heap.size<W.heap.size∧w.heap.size+1<W.heap.size∧wo.heap.size<W.heap.size))) (oc) ?_ (fun hHeld=>?_)
      ·(try dsimp only);((first|((repeat(first|(with_reducible assumption)|(with_reducible refine aO ?_ (nK))|(with_reducible refine aO ?_ (ap (Below.refl _ _)))|(with_reducible refine aO ?_ (aq _ _))));done)|(refine⟨⟨?_,?_,?_,?_,?_,?_,?_,?_,?_,?_,?_,?_,?_,?_,?_,?_,?_,?_,?_,?_,?_,?_,?_,?_,?_⟩,?_,?_,?_⟩<;>first|(go_keep;done)|(simp;done)|(simp;omega)|omega)))
      refine kV 0 ?_
      refine kV 1 ?_
      refine kV 2 ?_
      refine kV 3 ?_
      refine kV 4 ?_
      refine rD 5 (fun K hK=>?_)
      go_simp
      (go_at_call 42;refine(fj _ _ _ _ _ _ _ _ _ _ _ _ _ _ _ hl _).mono ?_;rintro e w' ⟨rfl,hb⟩;obtain⟨hc,hf,hs⟩:=az hb)
      (try go_wp2_with fail)
      refine hK.out _ _ ?_ (fun mj=>?_)
      ·(try dsimp only);((first|((repeat(first|(with_reducible assumption)|(with_reducible refine aO ?_ (nK))|(with_reducible refine aO ?_ (ap (Below.refl _ _)))|(with_reducible refine aO ?_ (aq _ _))));done)|(refine⟨⟨?_,?_,?_,?_,?_,?_,?_,?_,?_,?_,?_,?_,?_,?_,?_,?_,?_,?_,?_,?_,?_,?_,?_,?_,?_⟩,?_,?_,?_⟩<;>first|(go_keep;done)|(simp;done)|(simp;omega)|omega)))
      clear hK K hHeld
      have hHeld:=mj
      clear mj
      try simp only[Act.put,tA,tZ,tS]
      refine kV 6 ?_
      refine kV 7 ?_
      refine kU 8 ?_
      try simp only[Act.put,tA,tZ,tS]
      refine kU 9 ?_
      try simp only[Act.put,tA,tZ,tS]
      refine kU 10 ?_
      try simp only[Act.put,tA,tZ,tS]
      refine kU 11 ?_
      try simp only[Act.put,tA,tZ,tS]
      refine kU 12 ?_
      try simp only[Act.put,tA,tZ,tS]
      refine kU 13 ?_
      try simp only[Act.put,tA,tZ,tS]
      refine kU 14 ?_
      try simp only[Act.put,tA,tZ,tS]
      refine kU 15 ?_
      try simp only[Act.put,tA,tZ,tS]
      refine kU 16 ?_
      try simp only[Act.put,tA,tZ,tS]
      refine kU 17 ?_
      try simp only[Act.put,tA,tZ,tS]
      refine kU 18 ?_
      try simp only[Act.put,tA,tZ,tS]
      refine kU 19 ?_
      try simp only[Act.put,tA,tZ,tS]
      refine kU 20 ?_
      try simp only[Act.put,tA,tZ,tS]
      refine kU 21 ?_
      try simp only[Act.put,tA,tZ,tS]
      refine kU 22 ?_
      try simp only[Act.put,tA,tZ,tS]
      refine kV 23 ?_
      refine wpAnyH_done (oc) ?_ _
      all_goals
       go_wp2
       go_ret
       exact⟨aD (ab hq).symm,(el)⟩
     have d':aY l m x.ky x.st x.en x.an x.asu x.ale x.amo x.fn x.fsu x.fle x.fmo x.td x.tm=true:=d
     cases n:fE k y x
     ·have hq:Hid (cB s t k z p l e v r m xs=false):=ae ((ab hO).trans (ee (i:=i) (by omega) (by rw[gO (ab hE) (ab hX) (ab hY),d,n];rfl)))
      have n':ed k x.ky x.st x.en y.ky y.st y.en=false:=n
      clear d n
      go_wp2
      go_region_held3 (fun W=>((W.cell? ⟨w.heap.size,0,none⟩=some (.int .i64 s)∧W.cell? ⟨w.heap.size,1,none⟩=some (.int .i64 t)∧W.cell? ⟨w.heap.size,2,none⟩=some (.int .i64 k)∧W.cell? ⟨w.heap.size,3,none⟩=some (.int .i64 z)∧W.cell? ⟨w.heap.size,4,none⟩=some (.int .i64 p)∧W.cell? ⟨w.heap.size,5,none⟩=some (.int .i64 l)∧W.cell? ⟨w.heap.size,6,none⟩=some (.int .i64 e)∧W.cell? ⟨w.heap.size,7,none⟩=some (.bool b)∧W.cell? ⟨w.heap.size,8,none⟩=some (.int .i64 v)∧W.cell? ⟨w.heap.size,9,none⟩=some (.int .i64 r)∧W.cell? ⟨w.heap.size+1,0,none⟩=some (.int .i64 m)∧W.cell? ⟨w.heap.size+1,1,none⟩=some (.slice (some ⟨g,o,none⟩) len cap)∧W.cell? ⟨wo.heap.size,0,none⟩=some (.int .i64 x.ky)∧W.cell? ⟨wo.heap.size,1,none⟩=some (.int .i64 x.st)∧W.cell? ⟨wo.heap.size,2,none⟩=some (.int .i64 x.en)∧W.cell? ⟨wo.heap.size,3,none⟩=some (.int .i64 x.an)∧W.cell? ⟨wo.heap.size,4,none⟩=some (.int .i64 x.asu)∧W.cell? ⟨wo.heap.size,5,none⟩=some (.int .i64 x.ale)∧W.cell? ⟨wo.heap.size,6,none⟩=some (.int .i64 x.amo)∧W.cell? ⟨wo.heap.size,7,none⟩=some (.int .i64 x.fn)∧W.cell? ⟨wo.heap.size,8,none⟩=some (.int .i64 x.fsu)∧W.cell? ⟨wo.heap.size,9,none⟩=some (.int .i64 x.fle)∧W.cell? ⟨wo.heap.size,10,none⟩=some (.int .i64 x.fmo)∧W.cell? ⟨wo.heap.size,11,none⟩=some (.int .i64 x.td)∧W.cell? ⟨wo.heap.size,12,none⟩=some (.bool x.tm)∧W.cell? ⟨g,o+i'*13,none⟩=some (.int .i64 y.ky)∧W.cell? ⟨g,o+i'*13+1,none⟩=some (.int .i64 y.st)∧W.cell? ⟨g,o+i'*13+2,none⟩=some (.int .i64 y.en)∧W.cell? ⟨g,o+i'*13+3,none⟩=some (.int .i64 y.an)∧W.cell? ⟨g,o+i'*13+4,none⟩=some (.int .i64 y.asu)∧W.cell? ⟨g,o+i'*13+5,none⟩=some (.int .i64 y.ale)∧W.cell? ⟨g,o+i'*13+6,none⟩=some (.int .i64 y.amo)∧W.cell? ⟨g,o+i'*13+7,none⟩=some (.int .i64 y.fn)∧W.cell? ⟨g,o+i'*13+8,none⟩=some (.int .i64 y.fsu)∧W.cell? ⟨g,o+i'*13+9,none⟩=some (.int .i64 y.fle)∧W.cell? ⟨g,o+i'*13+10,none⟩=some (.int .i64 y.fmo)∧W.cell? ⟨g,o+i'*13+11,none⟩=some (.int .i64 y.td)∧W.cell? ⟨g,o+i'*13+12,none⟩=some (.bool y.tm))∧w.heap.size<W.heap.size∧w.heap.size+1<W.heap.size∧wo.heap.size<W.heap.size∧g<W.heap.size)) ((first|((repeat(first|(with_reducible assumption)|(with_reducible refine dh ?_ (nK))|(with_reducible refine dh ?_ (ap (Below.refl _ _)))|(with_reducible refine dh ?_ (aq _ _))));done)|(refine⟨⟨?_,?_,?_,?_,?_,?_,?_,?_,?_,?_,?_,?_,?_,?_,?_,?_,?_,?_,?_,?_,?_,?_,?_,?_,?_,?_,?_,?_,?_,?_,?_,?_,?_,?_,?_,?_,?_,?_⟩,?_,?_,?_,?_⟩<;>first|(go_keep;done)|(simp;done)|(simp;omega)|omega)))
       (first
       |(go_at_call 42;refine(fj _ _ _ _ _ _ _ _ _ _ _ _ _ _ _ hl _).mono ?_;rintro e w' ⟨rfl,hb⟩;obtain⟨hc,hf,hs⟩:=az hb)
       |(go_at_call 43;refine(jj _ _ _ _ _ _ _ _ _ _ _ _ _ _ _ _ _ _ _ _ _ _ _ _ _ _ _ _).mono ?_;rintro e w' ⟨rfl,hb⟩;obtain⟨hc,hf,hs⟩:=az hb))
      all_goals
       go_wp2
       go_ret
       exact⟨aD (ab hq).symm,(el)⟩
     ·have hN':Hid (fd k l m xs (i+1)=true):=ae (by rw[dT,ab hN,gO (ab hE) (ab hX) (ab hY),d,n];rfl)
      have n':ed k x.ky x.st x.en y.ky y.st y.en=true:=n
      clear d n
      go_wp2
      go_region_held3 (fun W=>((W.cell? ⟨w.heap.size,0,none⟩=some (.int .i64 s)∧W.cell? ⟨w.heap.size,1,none⟩=some (.int .i64 t)∧W.cell? ⟨w.heap.size,2,none⟩=some (.int .i64 k)∧W.cell? ⟨w.heap.size,3,none⟩=some (.int .i64 z)∧W.cell? ⟨w.heap.size,4,none⟩=some (.int .i64 p)∧W.cell? ⟨w.heap.size,5,none⟩=some (.int .i64 l)∧W.cell? ⟨w.heap.size,6,none⟩=some (.int .i64 e)∧W.cell? ⟨w.heap.size,7,none⟩=some (.bool b)∧W.cell? ⟨w.heap.size,8,none⟩=some (.int .i64 v)∧W.cell? ⟨w.heap.size,9,none⟩=some (.int .i64 r)∧W.cell? ⟨w.heap.size+1,0,none⟩=some (.int .i64 m)∧W.cell? ⟨w.heap.size+1,1,none⟩=some (.slice (some ⟨g,o,none⟩) len cap)∧W.cell? ⟨wo.heap.size,0,none⟩=some (.int .i64 x.ky)∧W.cell? ⟨wo.heap.size,1,none⟩=some (.int .i64 x.st)∧W.cell? ⟨wo.heap.size,2,none⟩=some (.int .i64 x.en)∧W.cell? ⟨wo.heap.size,3,none⟩=some (.int .i64 x.an)∧W.cell? ⟨wo.heap.size,4,none⟩=some (.int .i64 x.asu)∧W.cell? ⟨wo.heap.size,5,none⟩=some (.int .i64 x.ale)∧W.cell? ⟨wo.heap.size,6,none⟩=some (.int .i64 x.amo)∧W.cell? ⟨wo.heap.size,7,none⟩=some (.int .i64 x.fn)∧W.cell? ⟨wo.heap.size,8,none⟩=some (.int .i64 x.fsu)∧W.cell? ⟨wo.heap.size,9,none⟩=some (.int .i64 x.fle)∧W.cell? ⟨wo.heap.size,10,none⟩=some (.int .i64 x.fmo)∧W.cell? ⟨wo.heap.size,11,none⟩=some (.int .i64 x.td)∧W.cell? ⟨wo.heap.size,12,none⟩=some (.bool x.tm)∧W.cell? ⟨g,o+i'*13,none⟩=some (.int .i64 y.ky)∧W.cell? ⟨g,o+i'*13+1,none⟩=some (.int .i64 y.st)∧W.cell? ⟨g,o+i'*13+2,none⟩=some (.int .i64 y.en)∧W.cell? ⟨g,o+i'*13+3,none⟩=some (.int .i64 y.an)∧W.cell? ⟨g,o+i'*13+4,none⟩=some (.int .i64 y.asu)∧W.cell? ⟨g,o+i'*13+5,none⟩=some (.int .i64 y.ale)∧W.cell? ⟨g,o+i'*13+6,none⟩=some (.int .i64 y.amo)∧W.cell? ⟨g,o+i'*13+7,none⟩=some (.int .i64 y.fn)∧W.cell? ⟨g,o+i'*13+8,none⟩=some (.int .i64 y.fsu)∧W.cell? ⟨g,o+i'*13+9,none⟩=some (.int .i64 y.fle)∧W.cell? ⟨g,o+i'*13+10,none⟩=some (.int .i64 y.fmo)∧W.cell? ⟨g,o+i'*13+11,none⟩=some (.int .i64 y.td)∧W.cell? ⟨g,o+i'*13+12,none⟩=some (.bool y.tm))∧w.heap.size<W.heap.size∧w.heap.size+1<W.heap.size∧wo.heap.size<W.heap.size∧g<W.heap.size)) ((first|((repeat(first|(with_reducible assumption)|(with_reducible refine dh ?_ (nK))|(with_reducible refine dh ?_ (ap (Below.refl _ _)))|(with_reducible refine dh ?_ (aq _ _))));done)|(refine⟨⟨?_,?_,?_,?_,?_,?_,?_,?_,?_,?_,?_,?_,?_,?_,?_,?_,?_,?_,?_,?_,?_,?_,?_,?_,?_,?_,?_,?_,?_,?_,?_,?_,?_,?_,?_,?_,?_,?_⟩,?_,?_,?_,?_⟩<;>first|(go_keep;done)|(simp;done)|(simp;omega)|omega)))
       (first
       |(go_at_call 42;refine(fj _ _ _ _ _ _ _ _ _ _ _ _ _ _ _ hl _).mono ?_;rintro e w' ⟨rfl,hb⟩;obtain⟨hc,hf,hs⟩:=az hb)
       |(go_at_call 43;refine(jj _ _ _ _ _ _ _ _ _ _ _ _ _ _ _ _ _ _ _ _ _ _ _ _ _ _ _ _).mono ?_;rintro e w' ⟨rfl,hb⟩;obtain⟨hc,hf,hs⟩:=az hb))
      all_goals
       go_wp2
       go_roundw
       case rel=>exact⟨i+1,by omega,by go_num,hN',(el)⟩
       case measure=>simp[intOf];omega
   ·have hq:Hid (cB s t k z p l e v r m xs=true):=ae ((ab hO).trans (by have e9:=ab hN;rwa [show i=xs.length by omega]at e9))
    go_wp2
    go_ret
    exact⟨aD (ab hq).symm,(bC)⟩
 ·have hq:Hid (cB s t k z p l e v r m xs=false):=ae (okOp_n (by omega))
  go_enter Tryz.func17,Tryz.ntmps17
  go_wp2_with (first
   |(go_at_call 41;refine(ca _ _ _ _ _ _ _ _ _ _ _).mono ?_;rintro e w' ⟨rfl,hb⟩;obtain⟨hc,hf,hs⟩:=az hb;(try have hz0:=zA hb w.heap.size);(try have hz1:=zA hb (w.heap.size+1)))
   |(go_at_call 34;refine(aA _ _ _ _).mono ?_;rintro e' w' ⟨rfl,rfl⟩))
  go_ret
  exact⟨aD (ab hq).symm,(bC)⟩
set_option linter.unusedSimpArgs false
/-- A row lies in a box. -/
def ew(W:World)(g:Nat)(x:aC):Prop:=W.heap[g]? =some (.cells #[.int .i64 x.ky,.int .i64 x.st,.int .i64 x.en,.int .i64 x.an,.int .i64 x.asu,.int .i64 x.ale,.int .i64 x.amo,.int .i64 x.fn,.int .i64 x.fsu,.int .i64 x.fle,.int .i64 x.fmo,.int .i64 x.td,.bool x.tm] 57 (0,0))
theorem ew.lt{W:World}{g:Nat}{x:aC}(h:ew W g x):g<W.heap.size:=(Array.getElem?_eq_some_iff.1 h).1
theorem ew.bel{W W':World}{B g:Nat}{x:aC}(h:ew W g x)(hb:Below B W W')(hg:g<B):ew W' g x:=(hb.block g hg).trans h
/-- What a row tells, and what it is behind that. -/
def cy(m:Int)(x:aC):Bool:=decide (x.en≤m)&&decide (0<x.fn)
def cT(x:aC):aC:= {x with td:=x.td+1,tm:=true,fn:=0,fsu:=0,fle:=0,fmo:=0}
def dJ(pc:Bool)(x:aC):cY:=⟨x.ky,x.st,x.en,x.td,if x.tm=true then 2 else 1,if pc=true then x.fn else x.an,if pc=true then x.fsu else x.asu,if pc=true then x.fle else x.ale,if pc=true then x.fmo else x.amo⟩
theorem plO_told(x:aC):aU (cT x)=aU x:=rfl
theorem tel_told(m:Int)(x:aC):cy m (cT x)=false:=by simp[cy,cT]
theorem iw{w w':World}{g:Option Nat}(h:Below w.heap.size w w'):w.grownBy w' g:=⟨h.os,h.tape,h.output,h.size,fun k hk _=>h.block k hk⟩
theorem aK{w w':World}{g:Nat}{p:Addr}(h:w.grownBy w' (some g))(hp:p.block=g∨w.heap.size≤p.block)(v:Value):w.grownBy (w'.setCell p v) (some g):=by
 refine⟨h.os,h.tape,h.output,by rw[World.setCell];simpa using h.size,fun k hk hne=>?_⟩
 have hne':k≠p.block:=by
  rintro rfl
  rcases hp with h9|h9
  ·exact hne (by rw[h9])
  ·omega
 rw[Below.heap_setCell w' p v k hne']
 exact h.block k hk hne
set_option linter.unusedSimpArgs false
/-- An operator while a call lasts. -/
def opV(s t k z q l e:Int)(b:Bool)(v r m:Int)(mb:Nat)(pv lv:Value):Array Value:=#[.int .i64 s,.int .i64 t,.int .i64 k,.int .i64 z,.int .i64 q,.int .i64 l,.int .i64 e,.bool b,.int .i64 v,.int .i64 r,.int .i64 m,.map (some mb),pv,lv]
def shutB(l m en:Int):Bool:=decide (en+l≤m)
set_option maxRecDepth 20000 in
set_option maxHeartbeats 2000000 in
theorem isshut_any(Bo:Nat)(s t k z q l e:Int)(b:Bool)(v r m:Int)(mb:Nat)(pv lv:Value)(st en:Int)(w:World)(h:w.heap[Bo]? =some (.cells (opV s t k z q l e b v r m mb pv lv) 75 (0,0)))(hb: -1000≤en∧en≤1000∧0≤l∧l≤20):Calls Tryz.prog 80 #[.pointer (some ⟨Bo,0,none⟩),.agg #[.int .i64 st,.int .i64 en]] w fun e' w'=>e'= .returned (.bool (shutB l m en))∧Below w.heap.size w w':=by
 have hB:Bo<w.heap.size:=(Array.getElem?_eq_some_iff.1 h).1
 have c5:w.cell? ⟨Bo,5,none⟩=some (.int .i64 l):=cA h 5
 have cZ:w.cell? ⟨Bo,10,none⟩=some (.int .i64 m):=cA h 10
 have hwr:IntKind.i64.wrap (en+l)=en+l:=IntWalk.i64_in _ ⟨by omega,by omega⟩
 go_enter Tryz.func80,Tryz.ntmps80
 go_wp2_with fail
 go_quiet (fail)
 go_wp2
 go_ret
 exact⟨rfl,bh (aq _ _) _⟩
open Go.Maps
set_option linter.unusedSimpArgs false
theorem b6.store{w:World}{b n:Nat}{m:P3→Option Value}(h:b6 w b n m)(hn:n<maxLen)(q:P3)(hq:gx q)(val:Value):
  ∃w',(Instr.mapUpdate 73 (.map (some b)) (.agg #[.int .i64 q.1,.int .i64 q.2.1,.int .i64 q.2.2]) val).run Tryz.prog w= .ok () w'∧b6 w' b (n+1) (fun x=>if x=q then some val else m x)∧w.grownBy w' (some b):=
 bp.store h key3 Tryz.underlying73 hn some3 inj3 q hq val (ps:=[]) rfl
theorem b6.ne_cells{w:World}{b n g:Nat}{m:P3→Option Value}{cs:Array Value}{ty:TypeId}(h:b6 w b n m)(hx:w.heap[g]? =some (.cells cs ty (0,0))):g≠b:=by
 rintro rfl
 obtain⟨D,⟨es,clock,h1,_⟩,_⟩:=h
 rw[hx]at h1
 cases h1
theorem b6.bel{w w':World}{b n:Nat}{m:P3→Option Value}(h:b6 w b n m)(hb:Below w.heap.size w w'):b6 w' b n m:=bp.below h hb
/-- Rows in boxes, and the map that points to them. -/
structure bD(W:World)(B mb nn:Nat)(es:List bz):Prop where
 map:b6 W mb nn (fun q=>(cP es q).map Value.pointer)
 box:∀e ∈ es,ew W e.1 e.2
 ge:∀e ∈ es,B≤e.1
 nd:(es.map (fun e=>e.1)).Nodup
theorem bD.bel{W W':World}{B mb nn:Nat}{es:List bz}(h:bD W B mb nn es)(hb:Below W.heap.size W W'):bD W' B mb nn es:=
 ⟨h.map.bel hb,fun e he=>(h.box e he).bel hb (h.box e he).lt,h.ge,h.nd⟩
theorem bD.snoc{W W':World}{B mb nn:Nat}{es:List bz}(h:bD W B mb nn es)(g:Nat)(x:aC)(hx:ew W g x)(hg:B≤g)(hn:∀e ∈ es,e.1<g)(hm:b6 W' mb (nn+1) (fun q=>(cP (es++[(g,x)]) q).map Value.pointer))(hgr:W.grownBy W' (some mb)):bD W' B mb (nn+1) (es++[(g,x)]):=by
 have hkeep:∀k y,ew W k y→ew W' k y:=fun k y hy=>(hgr.block k hy.lt (fun e9=>h.map.ne_cells hy (Option.some.inj e9))).trans hy
 refine⟨hm,?_,?_,?_⟩
 ·intro e he
  rcases List.mem_append.1 he with h9|h9
  ·exact hkeep _ _ (h.box e h9)
  ·rw[List.mem_singleton.1 h9]
   exact hkeep _ _ hx
 ·intro e he
  rcases List.mem_append.1 he with h9|h9
  ·exact h.ge e h9
  ·rw[List.mem_singleton.1 h9]
   exact hg
 ·rw[List.map_append,List.nodup_append]
  refine⟨h.nd,by simp,?_⟩
  intro a ha b hb
  obtain⟨e,he,rfl⟩:=List.mem_map.1 ha
  simp at hb
  have:=hn e he
  omega
set_option maxRecDepth 20000 in
set_option maxHeartbeats 4000000 in
theorem operof_any(s t k z q l e:Int)(b:Bool)(v r m:Int)(a:Option Addr)(len cap:Nat)(xs:List aC)(w:World)(h:cO w a len xs)(hl:len≤1000)(hok:∀x ∈ xs,gx (aU x))(hrs:xs.Pairwise (fun x y=>bQ (aU x) (aU y))):Calls Tryz.prog 29 #[.agg #[.int .i64 s,.int .i64 t,.int .i64 k,.int .i64 z,.int .i64 q,.int .i64 l,.int .i64 e,.bool b,.int .i64 v,.int .i64 r],.agg #[.int .i64 m,.slice a len cap]] w fun e' w'=>∃es:List bz,e'= .returned (.pointer (some ⟨w.heap.size+1+1+1,0,none⟩))∧es.map (fun e=>e.2)=xs∧bD w' w.heap.size (w.heap.size+1+1) len es∧w'.heap[w.heap.size+1+1+1]? =some (.cells (opV s t k z q l e b v r m (w.heap.size+1+1) (.slice none 0 0) (.slice none 0 0)) 75 (0,0))∧Below w.heap.size w w':=by
 have hxl:=h.1
 have hmk:∀u:World,(Instr.makeMap 73 none).run Tryz.prog u= .ok (.map (some u.heap.size)) (u.alloc (.map #[] 0)):=fun _=>rfl
 go_enter Tryz.func29,Tryz.ntmps29
 go_wp2
 clear hmk
 go_loopw [17] (fun iv wr=>∃(i:Nat) (es:List bz),i≤len∧iv= .int .i64 i∧Hid (es.map (fun e=>e.2)=xs.take i)∧Hid (bD wr (w.heap.size+4) (w.heap.size+1+1) i es)∧Hid (wr.heap[w.heap.size+1+1+1]? =some (.cells #[.int .i64 s,.int .i64 t,.int .i64 k,.int .i64 z,.int .i64 q,.int .i64 l,.int .i64 e,.bool b,.int .i64 v,.int .i64 r,.int .i64 m,.map (some (w.heap.size+1+1)),.slice none 0 0,.slice none 0 0] 75 (0,0)))∧Below w.heap.size w wr) (fun iv _=>len - (intOf iv).toNat)
 case atStart=>
  refine⟨0,[],Nat.zero_le _,rfl,ae rfl,ae ⟨?_,by simp,by simp,by simp⟩,ae ?_,ag (ag (ag (aq _ _) _) _) _⟩
  ·have h9:=bp.made ((w.alloc (.cells #[.int .i64 s,.int .i64 t,.int .i64 k,.int .i64 z,.int .i64 q,.int .i64 l,.int .i64 e,.bool b,.int .i64 v,.int .i64 r] 24)).alloc (.cells #[.int .i64 m,.slice a len cap] 27)) Tryz.prog 87 rdV v3 gx DataW.held
   rw[World.size_alloc,World.size_alloc]at h9
   exact bp.below h9 (aq _ _)
  ·have h9:=World.alloc_heap_new (((w.alloc (.cells #[.int .i64 s,.int .i64 t,.int .i64 k,.int .i64 z,.int .i64 q,.int .i64 l,.int .i64 e,.bool b,.int .i64 v,.int .i64 r] 24)).alloc (.cells #[.int .i64 m,.slice a len cap] 27)).alloc (.map #[] 0)) (.cells #[.int .i64 s,.int .i64 t,.int .i64 k,.int .i64 z,.int .i64 q,.int .i64 l,.int .i64 e,.bool b,.int .i64 v,.int .i64 r,.int .i64 m,.map (some (w.heap.size+1+1)),.slice none 0 0,.slice none 0 0] 75)
   rw[World.size_alloc,World.size_alloc,World.size_alloc]at h9
   exact h9
 case round=>
  obtain⟨i,es,hil,rfl,HE,HR,HO,hbw⟩:=hrel
  have hBO:w.heap.size+1+1+1<wr.heap.size:=(Array.getElem?_eq_some_iff.1 (ab HO)).1
  by_cases hlt:i<len
  ·obtain⟨_,_,hy⟩:=h
   obtain⟨g,o,rfl,hr⟩:=hy.resolve_left (by omega)
   obtain⟨x,hxk⟩:∃x,xs[i]? =some x:=⟨_,List.getElem?_eq_getElem (by omega)⟩
   have hg:g<w.heap.size:=hr.lt (by omega)
   obtain⟨c0,c1,c2,c3,c4,c5,c6,c7,c8,c9,cZ,c11,c12⟩:=(hr i _ hxk).below hbw hg
   have hxo:=hok x (List.mem_of_getElem? hxk)
   have hnew:∀e9 ∈ es,¬ aU e9.2=aU x:=by
    intro e9 he e8
    have h1:e9.2 ∈ xs.take i:=by rw[←ab HE];exact List.mem_map.2 ⟨e9,he,rfl⟩
    obtain⟨j,hj⟩:=List.mem_iff_getElem?.1 h1
    have hji:j<i:=by have:=(List.getElem?_eq_some_iff.1 hj).1;rw[List.length_take]at this;omega
    rw[List.getElem?_take_of_lt hji]at hj
    obtain⟨q1,q2⟩:=List.getElem?_eq_some_iff.1 hj
    obtain⟨q3,q4⟩:=List.getElem?_eq_some_iff.1 hxk
    have h2:=List.pairwise_iff_getElem.1 hrs j i q1 q3 hji
    rw[q2,q4,e8]at h2
    exact bL _ h2
   have HE2:Hid ((es++[(wr.heap.size,x)]).map (fun e=>e.2)=xs.take (i+1)):=ae (by rw[List.map_append,ab HE,List.take_add_one,hxk];rfl)
   have HN:=ae hnew
   have HXO:=ae hxo
   have hlow:∀e9 ∈ es,e9.1<wr.heap.size:=fun e9 he=>((ab HR).box e9 he).lt
   have HL:=ae hlow
   clear hr hy hxk hnew hlow
   obtain⟨ky,st,en,an,asu,ale,amo,fn,fsu,fle,fmo,td,tm⟩:=x
   dsimp only at c0 c1 c2 c3 c4 c5 c6 c7 c8 c9 cZ c11 c12
   have hgr:g<wr.heap.size:=Nat.lt_of_lt_of_le hg hbw.size
   have bO:(wr.alloc (.cells #[.int .i64 ky,.int .i64 st,.int .i64 en,.int .i64 an,.int .i64 asu,.int .i64 ale,.int .i64 amo,.int .i64 fn,.int .i64 fsu,.int .i64 fle,.int .i64 fmo,.int .i64 td,.bool tm] 57)).drew.heap[w.heap.size+1+1+1]? =some (.cells #[.int .i64 s,.int .i64 t,.int .i64 k,.int .i64 z,.int .i64 q,.int .i64 l,.int .i64 e,.bool b,.int .i64 v,.int .i64 r,.int .i64 m,.map (some (w.heap.size+1+1)),.slice none 0 0,.slice none 0 0] 75 (0,0)):=(Below.heap_alloc _ _ _ hBO).trans (ab HO)
   have bR:(wr.alloc (.cells #[.int .i64 ky,.int .i64 st,.int .i64 en,.int .i64 an,.int .i64 asu,.int .i64 ale,.int .i64 amo,.int .i64 fn,.int .i64 fsu,.int .i64 fle,.int .i64 fmo,.int .i64 td,.bool tm] 57)).drew.heap[wr.heap.size]? =some (.cells #[.int .i64 ky,.int .i64 st,.int .i64 en,.int .i64 an,.int .i64 asu,.int .i64 ale,.int .i64 amo,.int .i64 fn,.int .i64 fsu,.int .i64 fle,.int .i64 fmo,.int .i64 td,.bool tm] 57 (0,0)):=World.alloc_heap_new wr _
   go_wp2_with fail
   clear c0 c1 c2 c3 c4 c5 c6 c7 c8 c9 cZ c11 c12
   refine wp_region_held_drew (S:=(fun W=>W.heap[w.heap.size+1+1+1]? =some (.cells #[.int .i64 s,.int .i64 t,.int .i64 k,.int .i64 z,.int .i64 q,.int .i64 l,.int .i64 e,.bool b,.int .i64 v,.int .i64 r,.int .i64 m,.map (some (w.heap.size+1+1)),.slice none 0 0,.slice none 0 0] 75 (0,0))∧W.heap[wr.heap.size]? =some (.cells #[.int .i64 ky,.int .i64 st,.int .i64 en,.int .i64 an,.int .i64 asu,.int .i64 ale,.int .i64 amo,.int .i64 fn,.int .i64 fsu,.int .i64 fle,.int .i64 fmo,.int .i64 td,.bool tm] 57 (0,0)))) (oc) ?_ (fun hHeld=>?_)
   ·(try dsimp only);exact⟨bO,bR⟩
   refine kV 0 ?_
   refine kV 1 ?_
   refine kV 2 ?_
   refine kT 3 ?_ ?_ ?_
   rotate_left
   ·(intro w9 hSw;(try dsimp only at hSw);obtain⟨q0,q1⟩:=hSw;have g0x0:=cA q0 0;have g0x1:=cA q0 1;have g0x2:=cA q0 2;have g0x3:=cA q0 3;have g0x4:=cA q0 4;have g0x5:=cA q0 5;have g0x6:=cA q0 6;have g0x7:=cA q0 7;have g0x8:=cA q0 8;have g0x9:=cA q0 9;have g0x10:=cA q0 10;simp only[gA,gZ,gS]at g0x0 g0x1 g0x2 g0x3 g0x4 g0x5 g0x6 g0x7 g0x8 g0x9 g0x10;have g0x11:w9.cell? ⟨w.heap.size+1+1+1,11,none⟩=some (.map (some (w.heap.size+1+1))):=(by simp[World.cell?,q0,go_sem]);have g0x12:=cA q0 12;have g0x13:=cA q0 13;simp only[gA,gZ,gS]at g0x12 g0x13;go_simp<;>with_reducible rfl)
   try simp only[Act.put,tA,tZ,tS]
   refine kT 4 ?_ ?_ ?_
   rotate_left
   ·(intro w9 hSw;(try dsimp only at hSw);obtain⟨q0,q1⟩:=hSw;obtain⟨g1x0,g1x1,g1x2,g1x3,g1x4,g1x5,g1x6,g1x7,g1x8,g1x9,g1x10,g1x11,g1x12⟩:=eu q1;go_simp<;>with_reducible rfl)
   try simp only[Act.put,tA,tZ,tS]
   refine rD 5 (fun K hK=>?_)
   go_simp
   (go_at_call 58;refine(aT _ _ _ _ _ _ _ _ _ _ _ _ _ _).mono ?_;rintro e9 wv ⟨rfl,hbwv⟩)
   (try go_wp2_with fail)
   have zwv:=hbwv.size
   (try simp at zwv)
   have bO:=(hbwv.block (w.heap.size+1+1+1) (sB)).trans bO
   have bR:=(hbwv.block (wr.heap.size) (sB)).trans bR
   clear hHeld
   refine hK.out _ _ ?_ (fun hHeld=>?_)
   ·(try dsimp only);exact⟨bO,bR⟩
   clear hK K
   try simp only[Act.put,tA,tZ,tS]
   have hbv:Below wr.heap.size wr wv:=am (ap (aq _ _)) hbwv
   have HRv:=(ab HR).bel hbv
   obtain⟨wu,hst,hOu,hgu⟩:=HRv.map.store (by unfold maxLen;omega) (ky,st,en) (ab HXO) (.pointer (some ⟨wr.heap.size,0,none⟩))
   dsimp only at hst
   refine rD 6 (fun K hK=>?_)
   go_simp
   have bOu:wu.heap[w.heap.size+1+1+1]? =some (.cells #[.int .i64 s,.int .i64 t,.int .i64 k,.int .i64 z,.int .i64 q,.int .i64 l,.int .i64 e,.bool b,.int .i64 v,.int .i64 r,.int .i64 m,.map (some (w.heap.size+1+1)),.slice none 0 0,.slice none 0 0] 75 (0,0)):=(hgu.block _ (Array.getElem?_eq_some_iff.1 bO).1 (fun e9=>HRv.map.ne_cells bO (Option.some.inj e9))).trans bO
   have bRu:wu.heap[wr.heap.size]? =some (.cells #[.int .i64 ky,.int .i64 st,.int .i64 en,.int .i64 an,.int .i64 asu,.int .i64 ale,.int .i64 amo,.int .i64 fn,.int .i64 fsu,.int .i64 fle,.int .i64 fmo,.int .i64 td,.bool tm] 57 (0,0)):=(hgu.block _ (Array.getElem?_eq_some_iff.1 bR).1 (fun e9=>HRv.map.ne_cells bR (Option.some.inj e9))).trans bR
   refine hK.out _ _ ?_ (fun mj=>?_)
   ·(try dsimp only);exact⟨bOu,bRu⟩
   clear hK K hHeld mj
   try simp only[Act.put,tA,tZ,tS]
   refine wpAnyH_done (oc) ?_ _
   rw[show(fun x9:P3=>if x9=(ky,st,en)then some (Value.pointer (some ⟨wr.heap.size,0,none⟩))else(cP es x9).map Value.pointer)=fun q9=>(cP (es++[(wr.heap.size,(⟨ky,st,en,an,asu,ale,amo,fn,fsu,fle,fmo,td,tm⟩:aC))]) q9).map Value.pointer from mapE_snoc (e:=(wr.heap.size,(⟨ky,st,en,an,asu,ale,amo,fn,fsu,fle,fmo,td,tm⟩:aC))) (ab HN)]at hOu
   have HRu:=ae (HRv.snoc wr.heap.size ⟨ky,st,en,an,asu,ale,amo,fn,fsu,fle,fmo,td,tm⟩ bR (by omega) (ab HL) hOu hgu)
   have hbu:Below w.heap.size w wu:=by
    have h9:=am hbw hbv
    refine⟨hgu.os.trans h9.os,hgu.tape.trans h9.tape,hgu.output.trans h9.output,Nat.le_trans h9.size hgu.size,fun k9 hk9=>?_⟩
    exact(hgu.block k9 (Nat.lt_of_lt_of_le hk9 h9.size) (fun e9=>by have:=Option.some.inj e9;omega)).trans (h9.block k9 hk9)
   clear hst hOu hgu bO bR bRu hbwv HRv zwv hbv
   go_wp2
   refine⟨⟨i+1,es++[(wr.heap.size,⟨ky,st,en,an,asu,ale,amo,fn,fsu,fle,fmo,td,tm⟩)],by omega,by go_num,HE2,HRu,ae bOu,hbu⟩,by simp[intOf];omega⟩
  ·obtain rfl:i=len:=by omega
   have hE:es.map (fun e=>e.2)=xs:=by have h9:=ab HE;rw[List.take_of_length_le (by omega)]at h9;exact h9
   go_wp2
   go_ret
   refine⟨es,rfl,hE,⟨(ab HR).map,(ab HR).box,fun e9 he=>by have:=(ab HR).ge e9 he;omega,(ab HR).nd⟩,ab HO,hbw⟩
set_option linter.unusedSimpArgs false
/-- The types of what turns while an operator is at work. -/
def ks(ty:TypeId):Bool:=ty==57||ty==52||ty==75||ty==27
/-- What is no cells, and all cells of other types, lie as they lay. -/
def gi(W W':World):Prop:=W.heap.size≤W'.heap.size∧∀(k:Nat) (o:Obj),W.heap[k]? =some o→(o.isCells=false∨∃(cs:Array Value) (ty:TypeId),ks ty=false∧o= .cells cs ty (0,0))→W'.heap[k]? =some o
theorem gi.trans{A B C:World}(h:gi A B)(k:gi B C):gi A C:=⟨Nat.le_trans h.1 k.1,fun i o hi ho=>k.2 i o (h.2 i o hi ho) ho⟩
theorem gi.bel{W W':World}(hb:Below W.heap.size W W'):gi W W':=⟨hb.size,fun k o hk _=>(hb.block k (Array.getElem?_eq_some_iff.1 hk).1).trans hk⟩
theorem gi.grown{W W':World}{row:Option Nat}(hg:W.grownBy W' row)(hr:∀r,row=some r→∃cs ty,W.heap[r]? =some (.cells cs ty (0,0))∧ks ty=true):gi W W':=by
 refine⟨hg.size,fun k o hk ho=>(hg.block k (Array.getElem?_eq_some_iff.1 hk).1 (fun e=>?_)).trans hk⟩
 obtain⟨cs,ty,h1,h2⟩:=hr k e.symm
 rw[hk]at h1
 cases h1
 rcases ho with h9|⟨cs',ty',h8,h9⟩
 ·cases h9
 ·cases h9
  rw[h2]at h8
  cases h8
theorem gi.set{W:World}{p:Addr}(v:Value){cs:Array Value}{ty:TypeId}(h:W.heap[p.block]? =some (.cells cs ty (0,0)))(h1:ks ty=true):gi W (W.setCell p v):=by
 refine⟨(KeepsWalks.setCell W p v).size,fun k o hk ho=>?_⟩
 have hne:k≠p.block:=by
  rintro rfl
  rw[hk]at h
  cases h
  rcases ho with h9|⟨cs',ty',h8,h9⟩
  ·cases h9
  ·cases h9
   rw[h1]at h8
   cases h8
 exact(Below.heap_setCell W p v k hne).trans hk
theorem gi.kpo{W W':World}(h:gi W W'):gB W W':=by
 refine⟨⟨h.1,fun k o hk ho=>h.2 k o hk (.inl (Obj.not_cells_of_walk ho))⟩,fun b cs ty ht hb=>h.2 b _ hb (.inr ⟨cs,ty,?_,rfl⟩)⟩
 rcases ht with rfl|rfl<;>decide
theorem gi.from{W W':World}(h:gi W W')(B:Nat):KeepsFrom B W W':=⟨h.1,fun k o _ hk ho=>h.2 k o hk (.inl ho)⟩
/-- Entries as what a map of them holds. -/
def evO:Option bz→Value
 |none=> .pointer none
 |some e=> .pointer (some ⟨e.1,0,none⟩)
def gj(es:List bz)(q:P3):Option (Option bz):=(es.find? (fun e=>decide (aU e.2=q))).map some
theorem lg(es:List bz):(fun q=>(gj es q).map evO)=fun q=>(cP es q).map Value.pointer:=by
 funext q
 unfold gj cP
 cases es.find? (fun e=>decide (aU e.2=q))<;>rfl
def PXs(es:List bz)(x:P3×Option bz):Prop:=∃e ∈ es,x.2=some e
theorem lh{es:List bz}{q:P3}{a:Option bz}(h:gj es q=some a):PXs es (q,a):=by
 unfold gj at h
 cases hf:es.find? (fun e=>decide (aU e.2=q))with
 |none=>rw[hf]at h;cases h
 |some e=>
  rw[hf]at h
  simp at h
  exact⟨e,List.mem_of_find?_eq_some hf,h.symm⟩
abbrev eB(es:List bz):= {x:P3×Option bz // PXs es x}
def entZ:bz:=(0,⟨0,0,0,0,0,0,0,0,0,0,0,0,false⟩)
def ak{es:List bz}(x:eB es):bz:=x.1.2.getD entZ
theorem jl{es:List bz}(x:eB es):evO x.1.2= .pointer (some ⟨(ak x).1,0,none⟩):=by
 obtain⟨y,e,he,hy⟩:=x
 unfold ak
 simp only[hy]
 rfl
theorem dG{es:List bz}(x:eB es):ak x ∈ es:=by
 obtain⟨y,e,he,hy⟩:=x
 unfold ak
 simp only[hy]
 exact he
theorem inO{es:List bz}{ys:List (eB es)}(hr:eb es)(hok:∀e ∈ es,gx (aU e.2))(h:InOrd none (gj es) (ys.map (fun y=>y.1))):ys.map ak=es:=by
 obtain⟨ss,⟨hnd,hmem⟩,hy⟩:=h
 have hmm:∀e ∈ es,gj es (aU e.2)=some (some e):=by
  intro e he
  unfold gj
  cases hf:es.find? (fun x=>decide (aU x.2=aU e.2))with
  |none=>
   have:=List.find?_eq_none.1 hf e he
   simp at this
  |some x=>
   have h1:x ∈ es:=List.mem_of_find?_eq_some hf
   have h2:aU x.2=aU e.2:=by simpa using List.find?_some hf
   rw[hr.inj h1 he h2]
   rfl
 have e:es.map (fun e=>aU e.2)=fG ss:=by
  refine rise_eq _ _ (List.pairwise_map.2 hr) (srt_rise hnd) (fun q=>?_)
  rw[(fY ss).mem_iff,hmem]
  constructor
  ·intro hq
   obtain⟨x,hx,rfl⟩:=List.mem_map.1 hq
   exact⟨hok x hx,by rw[hmm x hx];simp⟩
  ·rintro ⟨_,hq⟩
   cases hm:gj es q with
   |none=>exact absurd hm hq
   |some a=>
    unfold gj at hm
    cases hf:es.find? (fun e=>decide (aU e.2=q))with
    |none=>rw[hf]at hm;cases hm
    |some x=>exact List.mem_map.2 ⟨x,List.mem_of_find?_eq_some hf,by simpa using List.find?_some hf⟩
 have e2:ys.map ak=(ys.map (fun y=>y.1)).map (fun x=>x.2.getD entZ):=by rw[List.map_map];rfl
 rw[e2,hy,←e,List.map_map,List.map_map]
 have e3:es.map (((fun x:P3×Option bz=>x.2.getD entZ)∘fun q=>(q,(gj es q).getD none))∘fun e:bz=>aU e.2)=es.map id:=List.map_congr_left (fun x hx=>by simp only[Function.comp];rw[hmm x hx];rfl)
 rw[e3,List.map_id]
theorem zeroEv(u:World):(zeroValue 102).run Tryz.prog u= .ok (evO none) u:=by kernel_rfl
set_option linter.unusedSimpArgs false
theorem ga{s t k z q l e v r m:Int}{xs:List aC}(h:cB s t k z q l e v r m xs=true):xs.length≤300∧(0≤l∧l≤20)∧(0≤m∧m≤1000)∧(∀x ∈ xs,x.okB l m=true)∧xs.Pairwise (fun x y=>bQ (aU x) (aU y)):=by
 unfold cB at h
 simp only[Bool.and_eq_true,decide_eq_true_eq]at h
 refine⟨h.1.2,gQ h.1.1.1,br.1 h.1.1.2,fun x hx=>?_,?_⟩
 ·obtain⟨i,hi⟩:=List.mem_iff_getElem?.1 hx
  exact ld hi (i6 h.2 (List.getElem?_eq_some_iff.1 hi).1)
 ·have hstep:∀(i:Nat) (x y:aC),xs[i]? =some x→xs[i+1]? =some y→bQ (aU x) (aU y):=by
   intro i x y hx hy
   have h9:=i6 h.2 (List.getElem?_eq_some_iff.1 hy).1
   rw[okAt_s hy hx]at h9
   simp only[Bool.and_eq_true,fE,ed]at h9
   have h8:=gE.1 h9.2.2
   unfold bQ aU
   simp only
   omega
  rw[List.pairwise_iff_getElem]
  intro i j hi hj hij
  obtain⟨d,rfl⟩:∃d,j=i+1+d:=⟨j - i - 1,by omega⟩
  clear hij
  induction d with
  |zero=>exact hstep i _ _ (List.getElem?_eq_getElem hi) (List.getElem?_eq_getElem hj)
  |succ d ih=>
   have h1:=ih (by omega)
   exact dC h1 (hstep (i+1+d) _ _ (List.getElem?_eq_getElem (by omega)) (List.getElem?_eq_getElem hj))
theorem dY{l m:Int}{x:aC}(h:x.okB l m=true):(0≤x.ky∧x.ky≤3)∧(0≤x.st∧x.st<x.en∧x.en≤120)∧0≤x.fn∧(0≤x.td∧x.td≤1500)∧m<x.en+l∧x.tm=decide (x.en≤m)∧(x.fn=0↔x.en≤m):=by
 have hw:=i7 h
 simp only[aC.okB,aY,Bool.and_eq_true,decide_eq_true_eq]at h
 obtain⟨⟨⟨⟨⟨⟨⟨⟨⟨⟨h1,h2⟩,h3⟩,h4⟩,h5⟩,h6⟩,h7⟩,h8⟩,h9⟩,h10⟩,h11⟩:=h
 refine⟨br.1 h1,hw,?_,br.1 h5,h8,by simpa using h9,?_⟩
 ·unfold eA at h4
  split at h4
  ·omega
  ·simp only[Bool.and_eq_true]at h4
   have:=br.1 h4.1.1.1
   omega
 ·have h12:=h11
  simp only[beq_iff_eq]at h12
  by_cases hc:x.en≤m
  ·simp[hc]at h12
   simp[hc,h12]
  ·simp[hc]at h12
   simp[hc,h12]
theorem ok_ok3{l m:Int}{x:aC}(h:x.okB l m=true):gx (aU x):=by
 obtain⟨h1,h2,_⟩:=dY h
 exact⟨WalkArith.wf_i64 (show _ from⟨by simp[aU];omega,by simp[aU];omega⟩),WalkArith.wf_i64 (show _ from⟨by simp[aU];omega,by simp[aU];omega⟩),WalkArith.wf_i64 (show _ from⟨by simp[aU];omega,by simp[aU];omega⟩)⟩
theorem tel_no{l m:Int}{x:aC}(h:x.okB l m=true):cy m x=false:=by
 obtain⟨_,_,h3,_,_,h6,h7⟩:=dY h
 unfold cy
 by_cases hc:x.en≤m
 ·have:x.fn=0:=h7.2 hc
  simp[this]
 ·simp[hc]
end Go.Proofs.YtdmhihcipkhecaaGreat
