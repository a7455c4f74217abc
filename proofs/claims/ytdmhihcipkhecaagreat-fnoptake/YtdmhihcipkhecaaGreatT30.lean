/- Laid together: what the claim needs of the texts that were built one by one. -/
import Derived.Test.YtdmhihcipkhecaaGreatT1
import Derived.Test.YtdmhihcipkhecaaGreatT11
import Derived.BigQuiet
import Derived.Test.YtdmhihcipkhecaaGreatT0
import Derived.Test.YtdmhihcipkhecaaGreatT23
import Derived.Test.YtdmhihcipkhecaaGreatT29
set_option linter.unusedVariables false
namespace Go.Proofs.YtdmhihcipkhecaaGreat
open Go.ChangeShapes Go.WideShapes Go.ChangeAt Go.RowKit
set_option linter.unusedSimpArgs false
set_option maxRecDepth 20000 in
set_option maxHeartbeats 1000000 in
theorem frlates_any(a1 a2:Option Addr)(len cap1 cap2:Nat)(xs:List gv)(w:World)(h1:LpRs w a1 len xs)(h2:LpRs w a2 len xs):Calls Tryz.prog 12 #[.slice a1 len cap1,.slice a2 len cap2] w fun e w'=>e= .returned (.bool true)∧Below w.heap.size w w':=by
 have hm:=h1.2.1
 unfold maxLen at hm
 go_enter Tryz.func12,Tryz.ntmps12
 go_wp2
 go_loopw [5] (fun i wr=>∃k:Nat,k≤len∧i= .int .i64 k∧Below w.heap.size w wr) (fun i _=>len - (intOf i).toNat)
 case atStart=>exact⟨0,Nat.zero_le _,rfl,Below.refl _ _⟩
 case round=>
  obtain⟨k,hk,rfl,hbw⟩:=hrel
  by_cases hlt:k<len
  ·obtain⟨hl1,_,hx1⟩:=h1
   obtain⟨hl2,_,hx2⟩:=h2
   obtain⟨g1,o1,rfl,hr1⟩:=hx1.resolve_left (by omega)
   obtain⟨g2,o2,rfl,hr2⟩:=hx2.resolve_left (by omega)
   obtain⟨x,hxk⟩:∃x,xs[k]? =some x:=⟨_,List.getElem?_eq_getElem (by omega)⟩
   have hg1:g1<w.heap.size:=hr1.lt (by omega)
   have hg2:g2<w.heap.size:=hr2.lt (by omega)
   have hltI:(k:Int)<(len:Int):=by omega
   obtain⟨c0,c1,c2,c3,c4,c5,c6⟩:=(hr1 k _ hxk).below hbw hg1
   obtain⟨d0,d1,d2,d3,d4,d5,d6⟩:=(hr2 k _ hxk).below hbw hg2
   clear hx1 hx2 hxk hr1 hr2
   go_wp2_with fail
   go_quiet (fail)
   go_wp2
   go_roundw
   case rel=>exact⟨k+1,by omega,by go_num,(el)⟩
   case measure=>simp[intOf];omega
  ·go_wp2
   go_ret
   exact⟨rfl,hbw⟩
set_option maxRecDepth 20000 in
set_option maxHeartbeats 1000000 in
theorem frpanes_any(a1 a2:Option Addr)(len cap1 cap2:Nat)(xs:List cY)(w:World)(h1:PnRs w a1 len xs)(h2:PnRs w a2 len xs):Calls Tryz.prog 11 #[.slice a1 len cap1,.slice a2 len cap2] w fun e w'=>e= .returned (.bool true)∧Below w.heap.size w w':=by
 have hm:=h1.2.1
 unfold maxLen at hm
 go_enter Tryz.func11,Tryz.ntmps11
 go_wp2
 go_loopw [5] (fun i wr=>∃k:Nat,k≤len∧i= .int .i64 k∧Below w.heap.size w wr) (fun i _=>len - (intOf i).toNat)
 case atStart=>exact⟨0,Nat.zero_le _,rfl,Below.refl _ _⟩
 case round=>
  obtain⟨k,hk,rfl,hbw⟩:=hrel
  by_cases hlt:k<len
  ·obtain⟨hl1,_,hx1⟩:=h1
   obtain⟨hl2,_,hx2⟩:=h2
   obtain⟨g1,o1,rfl,hr1⟩:=hx1.resolve_left (by omega)
   obtain⟨g2,o2,rfl,hr2⟩:=hx2.resolve_left (by omega)
   obtain⟨x,hxk⟩:∃x,xs[k]? =some x:=⟨_,List.getElem?_eq_getElem (by omega)⟩
   have hltI:(k:Int)<(len:Int):=by omega
   obtain⟨c0,c1,c2,c3,c4,c5,c6,c7,c8⟩:=(hr1 k _ hxk).below hbw (hr1 k _ hxk).lt
   obtain⟨d0,d1,d2,d3,d4,d5,d6,d7,d8⟩:=(hr2 k _ hxk).below hbw (hr2 k _ hxk).lt
   clear hx1 hx2 hxk hr1 hr2
   go_wp2_with fail
   go_quiet (fail)
   go_wp2
   go_roundw
   case rel=>exact⟨k+1,by omega,by go_num,(el)⟩
   case measure=>simp[intOf];omega
  ·go_wp2
   go_ret
   exact⟨rfl,hbw⟩
set_option maxRecDepth 20000 in
set_option maxHeartbeats 2000000 in
theorem fW(m:Int)(a1 a2:Option Addr)(len cap1 cap2:Nat)(xs:List aC)(w:World)(h1:cO w a1 len xs)(h2:cO w a2 len xs):Calls Tryz.prog 10 #[.agg #[.int .i64 m,.slice a1 len cap1],.agg #[.int .i64 m,.slice a2 len cap2]] w fun e w'=>e= .returned (.bool true)∧Below w.heap.size w w':=by
 have hm:=h1.2.1
 unfold maxLen at hm
 have hb0:Below w.heap.size w ((w.alloc (.cells #[.int .i64 m,.slice a1 len cap1] 27)).alloc (.cells #[.int .i64 m,.slice a2 len cap2] 27)):=ag (aq _ _) _
 replace h1:=h1.below hb0
 replace h2:=h2.below hb0
 have e1:((w.alloc (.cells #[.int .i64 m,.slice a1 len cap1] 27)).alloc (.cells #[.int .i64 m,.slice a2 len cap2] 27)).cell? ⟨w.heap.size,1,none⟩=some (.slice a1 len cap1):=by simp[go_sem]
 have e2:((w.alloc (.cells #[.int .i64 m,.slice a1 len cap1] 27)).alloc (.cells #[.int .i64 m,.slice a2 len cap2] 27)).cell? ⟨w.heap.size+1,1,none⟩=some (.slice a2 len cap2):=by simp[go_sem]
 have hzs:w.heap.size+1<((w.alloc (.cells #[.int .i64 m,.slice a1 len cap1] 27)).alloc (.cells #[.int .i64 m,.slice a2 len cap2] 27)).heap.size:=by simp
 go_enter Tryz.func10,Tryz.ntmps10
 go_wp2
 generalize ((w.alloc (.cells #[.int .i64 m,.slice a1 len cap1] 27)).alloc (.cells #[.int .i64 m,.slice a2 len cap2] 27))=ws at h1 h2 e1 e2 hb0 hzs ⊢
 go_loopw [5] (fun i wr=>∃k:Nat,k≤len∧i= .int .i64 k∧Below ws.heap.size ws wr) (fun i _=>len - (intOf i).toNat)
 case atStart=>exact⟨0,Nat.zero_le _,rfl,Below.refl _ _⟩
 case round=>
  obtain⟨k,hk,rfl,hbw⟩:=hrel
  have f1:=(hbw.cell (p:=⟨w.heap.size,1,none⟩) (by show w.heap.size<_;omega)).trans e1
  have f2:=(hbw.cell (p:=⟨w.heap.size+1,1,none⟩) (by show w.heap.size+1<_;omega)).trans e2
  have z9:=hbw.size
  have z8:w.heap.size+1<wr.heap.size:=by omega
  have z7:w.heap.size<wr.heap.size:=by omega
  by_cases hlt:k<len
  ·obtain⟨hl1,_,hx1⟩:=h1
   obtain⟨hl2,_,hx2⟩:=h2
   obtain⟨g1,o1,rfl,hr1⟩:=hx1.resolve_left (by omega)
   obtain⟨g2,o2,rfl,hr2⟩:=hx2.resolve_left (by omega)
   obtain⟨x,hxk⟩:∃x,xs[k]? =some x:=⟨_,List.getElem?_eq_getElem (by omega)⟩
   have hg1:g1<ws.heap.size:=hr1.lt (by omega)
   have hg2:g2<ws.heap.size:=hr2.lt (by omega)
   have hltI:(k:Int)<(len:Int):=by omega
   obtain⟨c0,c1,c2,c3,c4,c5,c6,c7,c8,c9,cZ,c11,c12⟩:=(hr1 k _ hxk).below hbw hg1
   obtain⟨d0,d1,d2,d3,d4,d5,d6,d7,d8,d9,d10,d11,d12⟩:=(hr2 k _ hxk).below hbw hg2
   clear hx1 hx2 hxk hr1 hr2 e1 e2
   go_wp2_with fail
   go_quiet (fail)
   go_wp2
   go_roundw
   case rel=>exact⟨k+1,by omega,by go_num,(nc)⟩
   case measure=>simp[intOf];omega
  ·go_wp2
   go_ret
   exact⟨rfl,am hb0 hbw⟩
theorem jS(w:World):Calls Tryz.prog 19 #[] w fun e w'=>e= .returned (.bool true)∧Below w.heap.size w w':=by
 have ho:dN 0 1=true:=by decide
 go_enter Tryz.func19,Tryz.ntmps19
 go_wp2_with (go_at_call 44;refine(jW _ _ _).mono ?_;rintro e w' ⟨rfl,hb⟩)
 go_ret
 exact⟨by first|rfl|rw[ho],(el)⟩
end Go.Proofs.YtdmhihcipkhecaaGreat
namespace Go.Proofs.YtdmhihcipkhecaaGreat
open Go.ChangeShapes Go.WideShapes Go.ChangeAt Go.RowKit Go.Shelf Go.Maps
set_option linter.unusedSimpArgs false
set_option maxRecDepth 100000 in
set_option maxHeartbeats 16000000 in
theorem lawOpTake(a:Option Addr)(len cap:Nat)(w:World)(hlc:len≤cap)(hmx:len≤maxLen)(hb:cK w a len)(hl:∀g o,a=some ⟨g,o,none⟩→0<len→g<w.heap.size)(hn:a=none→cap=0):Calls Tryz.prog 4 #[.slice a len cap] w fun e' w'=>e'= .returned (.bool true)∧Below w.heap.size w w':=by
 unfold maxLen at hmx
 go_enter Tryz.func4,Tryz.ntmps4
 by_cases hm:len≤1048576
 rotate_left
 ·have hd:decide ((1048576:Int)<(len:Int))=true:=by simp;omega
  have hd2:decide (1048576<len)=true:=by simp;omega
  go_wp2_with fail
  go_ret
  exact⟨rfl,Below.refl _ _⟩
 ·have hd:decide ((1048576:Int)<(len:Int))=false:=by simp;omega
  have hd2:decide (1048576<len)=false:=by simp;omega
  go_wp2_with fail
  clear hd hd2
  refine(drawop_any a len cap _ hlc hm hb hl hn).mono ?_
  rintro e' w1 ⟨s,t,k,z,q,l,e,b,v,r,m,au,cu,xs,x1,x2,x3,x4,x5,rfl,hO,hxl,hmb,hb1⟩
  clear hb hl hn
  have hbw2:Below w1.heap.size w1 (((w1.alloc (.cells #[.int .i64 s,.int .i64 t,.int .i64 k,.int .i64 z,.int .i64 q,.int .i64 l,.int .i64 e,.bool b,.int .i64 v,.int .i64 r] 24)).alloc (.cells #[.int .i64 m,.slice au xs.length cu] 27)).alloc (.cells #[.int .i64 x1,.int .i64 x2,.int .i64 x3,.int .i64 x4,.int .i64 x5] 29)):=ag (ag (aq _ _) _) _
  have HB2:=ae (am hb1 hbw2)
  have HBJ:=ae (show(((w1.alloc (.cells #[.int .i64 s,.int .i64 t,.int .i64 k,.int .i64 z,.int .i64 q,.int .i64 l,.int .i64 e,.bool b,.int .i64 v,.int .i64 r] 24)).alloc (.cells #[.int .i64 m,.slice au xs.length cu] 27)).alloc (.cells #[.int .i64 x1,.int .i64 x2,.int .i64 x3,.int .i64 x4,.int .i64 x5] 29)).heap[w1.heap.size]? =some (.cells #[.int .i64 s,.int .i64 t,.int .i64 k,.int .i64 z,.int .i64 q,.int .i64 l,.int .i64 e,.bool b,.int .i64 v,.int .i64 r] 24 (0,0))from aN<|aN<|(by have h9:=World.alloc_heap_new w1 (.cells #[.int .i64 s,.int .i64 t,.int .i64 k,.int .i64 z,.int .i64 q,.int .i64 l,.int .i64 e,.bool b,.int .i64 v,.int .i64 r] 24);exact h9))
  have HBS:=ae (show(((w1.alloc (.cells #[.int .i64 s,.int .i64 t,.int .i64 k,.int .i64 z,.int .i64 q,.int .i64 l,.int .i64 e,.bool b,.int .i64 v,.int .i64 r] 24)).alloc (.cells #[.int .i64 m,.slice au xs.length cu] 27)).alloc (.cells #[.int .i64 x1,.int .i64 x2,.int .i64 x3,.int .i64 x4,.int .i64 x5] 29)).heap[w1.heap.size+1]? =some (.cells #[.int .i64 m,.slice au xs.length cu] 27 (0,0))from aN<|nA)
  have HBX:=ae (show(((w1.alloc (.cells #[.int .i64 s,.int .i64 t,.int .i64 k,.int .i64 z,.int .i64 q,.int .i64 l,.int .i64 e,.bool b,.int .i64 v,.int .i64 r] 24)).alloc (.cells #[.int .i64 m,.slice au xs.length cu] 27)).alloc (.cells #[.int .i64 x1,.int .i64 x2,.int .i64 x3,.int .i64 x4,.int .i64 x5] 29)).heap[w1.heap.size+1+1]? =some (.cells #[.int .i64 x1,.int .i64 x2,.int .i64 x3,.int .i64 x4,.int .i64 x5] 29 (0,0))from nA)
  have HR0:Hid (cO (((w1.alloc (.cells #[.int .i64 s,.int .i64 t,.int .i64 k,.int .i64 z,.int .i64 q,.int .i64 l,.int .i64 e,.bool b,.int .i64 v,.int .i64 r] 24)).alloc (.cells #[.int .i64 m,.slice au xs.length cu] 27)).alloc (.cells #[.int .i64 x1,.int .i64 x2,.int .i64 x3,.int .i64 x4,.int .i64 x5] 29)) au xs.length xs):=ae (by
   obtain⟨a9,c9,e9,h1,h2,_⟩:=eo hO (by omega)
   simp at e9
   obtain⟨rfl,rfl⟩:=e9
   exact h1.below hbw2)
  obtain⟨M,R,P,L,hN0⟩:∃M R P L,de s t k z q l e b v r m xs x1 x2 x3 x4 x5=(M,R,P,L):=⟨_,_,_,_,rfl⟩
  have hle:=tk_le s t k z q l e b v r m xs x1 x2 x3 x4 x5
  rw[hN0]at hle
  obtain⟨hlR,hlP,hlL⟩:=hle
  dsimp only at hlR hlP hlL
  have hN:=ae hN0
  clear hN0 hO hb1 hbw2
  go_upto_region 4 with fail
  have bJ:=ab HBJ
  have bS:=ab HBS
  have bX:=ab HBX
  clear HBJ HBS HBX
  generalize w1.heap.size+1+1=XX at bX ⊢
  generalize w1.heap.size+1=XS at bS ⊢
  generalize w1.heap.size=XJ at bJ ⊢
  generalize (((w1.alloc (.cells #[.int .i64 s,.int .i64 t,.int .i64 k,.int .i64 z,.int .i64 q,.int .i64 l,.int .i64 e,.bool b,.int .i64 v,.int .i64 r] 24)).alloc (.cells #[.int .i64 m,.slice au xs.length cu] 27)).alloc (.cells #[.int .i64 x1,.int .i64 x2,.int .i64 x3,.int .i64 x4,.int .i64 x5] 29))=w2 at HB2 bJ bS bX HR0 ⊢
  obtain⟨cj0,cj1,cj2,cj3,cj4,cj5,cj6,cj7,cj8,cj9⟩:=cZ bJ
  obtain⟨cs0,cs1⟩:=c2 bS
  obtain⟨cx0,cx1,cx2,cx3,cx4⟩:=Go.Proofs.YtdmhihcipkhecaaGreat.c5 bX
  go_wp2_with fail
  refine(impltake_eq s t k z q l e b v r m au xs.length cu xs x1 x2 x3 x4 x5 _ (ab HR0) (by omega) hN).mono ?_
  rintro e' w3 ⟨a3,c3,pa3,pc3,la3,lc3,rfl,hO3,hP3,hL3,hb3⟩
  clear cj0 cj1 cj2 cj3 cj4 cj5 cj6 cj7 cj8 cj9 cs0 cs1 cx0 cx1 cx2 cx3 cx4
  replace bJ:=(hb3.block _ (Array.getElem?_eq_some_iff.1 bJ).1).trans bJ
  replace bS:=(hb3.block _ (Array.getElem?_eq_some_iff.1 bS).1).trans bS
  replace bX:=(hb3.block _ (Array.getElem?_eq_some_iff.1 bX).1).trans bX
  have HB3:Hid (Below w.heap.size w w3):=ae (am (ab HB2) hb3)
  have HR3:=ae ((ab HR0).below hb3)
  have HO3:=ae hO3
  have HL3:=ae hL3
  have HP3:=ae hP3
  clear HB2 HR0 hb3 hO3 hP3 hL3
  have HY:=ae (World.alloc_heap_new w3 (.cells #[.int .i64 M,.slice a3 R.length c3] 27))
  have hbY:=ae (aq w3 (.cells #[.int .i64 M,.slice a3 R.length c3] 27))
  go_upto_region 5 with fail
  have bY:=ab HY
  replace bJ:=((ab hbY).block _ (Array.getElem?_eq_some_iff.1 bJ).1).trans bJ
  replace bS:=((ab hbY).block _ (Array.getElem?_eq_some_iff.1 bS).1).trans bS
  replace bX:=((ab hbY).block _ (Array.getElem?_eq_some_iff.1 bX).1).trans bX
  have HB4:Hid (Below w.heap.size w (w3.alloc (.cells #[.int .i64 M,.slice a3 R.length c3] 27))):=ae (am (ab HB3) (ab hbY))
  have HR4:=ae ((ab HR3).below (ab hbY))
  have HO4:Hid (aS (w3.alloc (.cells #[.int .i64 M,.slice a3 R.length c3] 27)) w2.heap.size (.slice a3 R.length c3) R):=ae (World.ownsRow.alloc (ab HO3) _)
  have HP4:Hid (aR (w3.alloc (.cells #[.int .i64 M,.slice a3 R.length c3] 27)) w2.heap.size (.slice pa3 P.length pc3) P):=ae (World.ownsRow.alloc (ab HP3) _)
  have HL4:Hid (bT (w3.alloc (.cells #[.int .i64 M,.slice a3 R.length c3] 27)) w2.heap.size (.slice la3 L.length lc3) L):=ae (World.ownsRow.alloc (ab HL3) _)
  clear HY hbY HB3 HR3 HO3 HP3 HL3
  generalize w3.heap.size=XY at bY ⊢
  generalize w3.alloc (.cells #[.int .i64 M,.slice a3 R.length c3] 27)=w4 at HB4 HR4 HO4 HP4 HL4 bJ bS bX bY ⊢
  obtain⟨cj0,cj1,cj2,cj3,cj4,cj5,cj6,cj7,cj8,cj9⟩:=cZ bJ
  obtain⟨cs0,cs1⟩:=c2 bS
  obtain⟨cx0,cx1,cx2,cx3,cx4⟩:=Go.Proofs.YtdmhihcipkhecaaGreat.c5 bX
  go_wp2_with fail
  refine(spectake_eq s t k z q l e b v r m au xs.length cu xs x1 x2 x3 x4 x5 _ (ab HR4) (by omega) hN).mono ?_
  rintro e' w5 ⟨a5,c5,pa5,pc5,la5,lc5,rfl,hO5,hP5,hL5,hb5⟩
  clear cj0 cj1 cj2 cj3 cj4 cj5 cj6 cj7 cj8 cj9 cs0 cs1 cx0 cx1 cx2 cx3 cx4
  replace bJ:=(hb5.block _ (Array.getElem?_eq_some_iff.1 bJ).1).trans bJ
  replace bS:=(hb5.block _ (Array.getElem?_eq_some_iff.1 bS).1).trans bS
  replace bX:=(hb5.block _ (Array.getElem?_eq_some_iff.1 bX).1).trans bX
  replace bY:=(hb5.block _ (Array.getElem?_eq_some_iff.1 bY).1).trans bY
  have HB5:Hid (Below w.heap.size w w5):=ae (am (ab HB4) hb5)
  have HR5:=ae ((ab HR4).below hb5)
  have HO5:Hid (aS w5 w2.heap.size (.slice a3 R.length c3) R):=ae (aJ (ab HO4) (aB hb5) (fun _ e9=>by cases e9))
  have HP5:Hid (aR w5 w2.heap.size (.slice pa3 P.length pc3) P):=ae (aJ (ab HP4) (aB hb5) (fun _ e9=>by cases e9))
  have HL5:Hid (bT w5 w2.heap.size (.slice la3 L.length lc3) L):=ae (aJ (ab HL4) (aB hb5) (fun _ e9=>by cases e9))
  have HO5b:=ae hO5
  have HP5b:=ae hP5
  have HL5b:=ae hL5
  clear HB4 HR4 HO4 HP4 HL4 hb5 hO5 hP5 hL5
  have HZ:=ae (World.alloc_heap_new w5 (.cells #[.int .i64 M,.slice a5 R.length c5] 27))
  have hbZ:=ae (aq w5 (.cells #[.int .i64 M,.slice a5 R.length c5] 27))
  go_upto_region 6 with fail
  have bZ:=ab HZ
  replace bJ:=((ab hbZ).block _ (Array.getElem?_eq_some_iff.1 bJ).1).trans bJ
  replace bS:=((ab hbZ).block _ (Array.getElem?_eq_some_iff.1 bS).1).trans bS
  replace bX:=((ab hbZ).block _ (Array.getElem?_eq_some_iff.1 bX).1).trans bX
  replace bY:=((ab hbZ).block _ (Array.getElem?_eq_some_iff.1 bY).1).trans bY
  have HB6:Hid (Below w.heap.size w (w5.alloc (.cells #[.int .i64 M,.slice a5 R.length c5] 27))):=ae (am (ab HB5) (ab hbZ))
  have HR6:=ae ((ab HR5).below (ab hbZ))
  have HO6:Hid (cO (w5.alloc (.cells #[.int .i64 M,.slice a5 R.length c5] 27)) a3 R.length R∧cO (w5.alloc (.cells #[.int .i64 M,.slice a5 R.length c5] 27)) a5 R.length R):=ae (by
   have o1:=eo (World.ownsRow.alloc (ab HO5) (.cells #[.int .i64 M,.slice a5 R.length c5] 27):aS _ _ _ R) hlR
   have o2:=eo (World.ownsRow.alloc (ab HO5b) (.cells #[.int .i64 M,.slice a5 R.length c5] 27):aS _ _ _ R) hlR
   obtain⟨u1,v1,e1,h1,_⟩:=o1
   obtain⟨u2,v2,e2,h2,_⟩:=o2
   simp at e1 e2
   obtain⟨rfl,rfl⟩:=e1
   obtain⟨rfl,rfl⟩:=e2
   exact⟨h1,h2⟩)
  have HP6:Hid (PnRs (w5.alloc (.cells #[.int .i64 M,.slice a5 R.length c5] 27)) pa3 P.length P∧PnRs (w5.alloc (.cells #[.int .i64 M,.slice a5 R.length c5] 27)) pa5 P.length P):=ae (by
   have o1:=kR (World.ownsRow.alloc (ab HP5) (.cells #[.int .i64 M,.slice a5 R.length c5] 27):aR _ _ _ P) hlP
   have o2:=kR (World.ownsRow.alloc (ab HP5b) (.cells #[.int .i64 M,.slice a5 R.length c5] 27):aR _ _ _ P) hlP
   obtain⟨u1,v1,e1,h1,_⟩:=o1
   obtain⟨u2,v2,e2,h2,_⟩:=o2
   simp at e1 e2
   obtain⟨rfl,rfl⟩:=e1
   obtain⟨rfl,rfl⟩:=e2
   exact⟨h1,h2⟩)
  have HL6:Hid (LpRs (w5.alloc (.cells #[.int .i64 M,.slice a5 R.length c5] 27)) la3 L.length L∧LpRs (w5.alloc (.cells #[.int .i64 M,.slice a5 R.length c5] 27)) la5 L.length L):=ae (by
   have o1:=lE (World.ownsRow.alloc (ab HL5) (.cells #[.int .i64 M,.slice a5 R.length c5] 27):bT _ _ _ L) hlL
   have o2:=lE (World.ownsRow.alloc (ab HL5b) (.cells #[.int .i64 M,.slice a5 R.length c5] 27):bT _ _ _ L) hlL
   obtain⟨u1,v1,e1,h1,_⟩:=o1
   obtain⟨u2,v2,e2,h2,_⟩:=o2
   simp at e1 e2
   obtain⟨rfl,rfl⟩:=e1
   obtain⟨rfl,rfl⟩:=e2
   exact⟨h1,h2⟩)
  clear HZ hbZ HB5 HR5 HO5 HL5 HP5 HO5b HP5b HL5b
  generalize w5.heap.size=XZ at bZ ⊢
  generalize w5.alloc (.cells #[.int .i64 M,.slice a5 R.length c5] 27)=w6 at HB6 HR6 HO6 HP6 HL6 bJ bS bX bY bZ ⊢
  obtain⟨cy0,cy1⟩:=c2 bY
  obtain⟨cz0,cz1⟩:=c2 bZ
  go_wp2_with fail
  refine(fW M a3 a5 R.length c3 c5 R _ (ab HO6).1 (ab HO6).2).mono ?_
  rintro e' w7 ⟨rfl,hb7⟩
  clear cy0 cy1 cz0 cz1 bZ
  replace bJ:=(hb7.block _ (Array.getElem?_eq_some_iff.1 bJ).1).trans bJ
  replace bS:=(hb7.block _ (Array.getElem?_eq_some_iff.1 bS).1).trans bS
  replace bX:=(hb7.block _ (Array.getElem?_eq_some_iff.1 bX).1).trans bX
  replace bY:=(hb7.block _ (Array.getElem?_eq_some_iff.1 bY).1).trans bY
  have HB7:Hid (Below w.heap.size w w7):=ae (am (ab HB6) hb7)
  have HR7:=ae ((ab HR6).below hb7)
  have HO7:=ae ((ab HO6).1.below hb7)
  have HP7:=ae (And.intro ((ab HP6).1.below hb7) ((ab HP6).2.below hb7))
  have HL7:=ae (And.intro ((ab HL6).1.below hb7) ((ab HL6).2.below hb7))
  clear HB6 HR6 HO6 HP6 HL6 hb7
  go_wp2_with fail
  refine(frpanes_any pa3 pa5 P.length pc3 pc5 P _ (ab HP7).1 (ab HP7).2).mono ?_
  rintro e' w8 ⟨rfl,hb8⟩
  replace bJ:=(hb8.block _ (Array.getElem?_eq_some_iff.1 bJ).1).trans bJ
  replace bS:=(hb8.block _ (Array.getElem?_eq_some_iff.1 bS).1).trans bS
  replace bX:=(hb8.block _ (Array.getElem?_eq_some_iff.1 bX).1).trans bX
  replace bY:=(hb8.block _ (Array.getElem?_eq_some_iff.1 bY).1).trans bY
  have HB8:Hid (Below w.heap.size w w8):=ae (am (ab HB7) hb8)
  have HR8:=ae ((ab HR7).below hb8)
  have HO8:=ae ((ab HO7).below hb8)
  have HL8:=ae (And.intro ((ab HL7).1.below hb8) ((ab HL7).2.below hb8))
  clear HB7 HR7 HO7 HP7 HL7 hb8
  go_wp2_with fail
  refine(frlates_any la3 la5 L.length lc3 lc5 L _ (ab HL8).1 (ab HL8).2).mono ?_
  rintro e' w9 ⟨rfl,hb9⟩
  replace bJ:=(hb9.block _ (Array.getElem?_eq_some_iff.1 bJ).1).trans bJ
  replace bS:=(hb9.block _ (Array.getElem?_eq_some_iff.1 bS).1).trans bS
  replace bX:=(hb9.block _ (Array.getElem?_eq_some_iff.1 bX).1).trans bX
  replace bY:=(hb9.block _ (Array.getElem?_eq_some_iff.1 bY).1).trans bY
  have HB9:Hid (Below w.heap.size w w9):=ae (am (ab HB8) hb9)
  have HR9:=ae ((ab HR8).below hb9)
  have HO9:=ae ((ab HO8).below hb9)
  have HL9:=ae ((ab HL8).1.below hb9)
  clear HB8 HR8 HO8 HL8 hb9
  obtain⟨cj0,cj1,cj2,cj3,cj4,cj5,cj6,cj7,cj8,cj9⟩:=cZ bJ
  obtain⟨cs0,cs1⟩:=c2 bS
  obtain⟨cx0,cx1,cx2,cx3,cx4⟩:=Go.Proofs.YtdmhihcipkhecaaGreat.c5 bX
  obtain⟨ob,hob⟩:∃ob,cB s t k z q l e v r m xs=ob:=⟨_,rfl⟩
  have HOB:=ae hob
  clear hob
  go_wp2_with fail
  refine(fT s t k z q l e b v r m au xs.length cu xs _ (ab HR9) HOB).mono ?_
  rintro e' w10 ⟨rfl,hb10⟩
  clear cj0 cj1 cj2 cj3 cj4 cj5 cj6 cj7 cj8 cj9 cs0 cs1 cx0 cx1 cx2 cx3 cx4
  replace bJ:=(hb10.block _ (Array.getElem?_eq_some_iff.1 bJ).1).trans bJ
  replace bS:=(hb10.block _ (Array.getElem?_eq_some_iff.1 bS).1).trans bS
  replace bX:=(hb10.block _ (Array.getElem?_eq_some_iff.1 bX).1).trans bX
  replace bY:=(hb10.block _ (Array.getElem?_eq_some_iff.1 bY).1).trans bY
  have HBL:Hid (Below w.heap.size w w10):=ae (am (ab HB9) hb10)
  have HR10:=ae ((ab HR9).below hb10)
  have HQ:=ae ((ab HO9).below hb10)
  have HL10:=ae ((ab HL9).below hb10)
  clear HB9 HR9 HO9 HL9 hb10
  obtain⟨cj0,cj1,cj2,cj3,cj4,cj5,cj6,cj7,cj8,cj9⟩:=cZ bJ
  obtain⟨cs0,cs1⟩:=c2 bS
  obtain⟨cx0,cx1,cx2,cx3,cx4⟩:=Go.Proofs.YtdmhihcipkhecaaGreat.c5 bX
  cases ob with
  |false=>
   have hB:ep s t k z q l e v r m xs x1 x2 x3 x4 x5=false:=by
    unfold ep
    rw[ab HOB]
    rfl
   have hE:=(ab hN).symm.trans (fx (b:=b) hB)
   have hM0:M=0:=congrArg (fun p=>p.1) hE
   have hR0:R=[]:=congrArg (fun p=>p.2.1) hE
   clear hE
   subst hM0 hR0
   obtain⟨cy0,cy1⟩:=c2 bY
   have hl0:([]:List aC).length=0:=rfl
   rw[hl0]at cy1
   go_wp2_with fail
   refine(fW 0 a3 none 0 c3 0 [] _ (ab HQ) ⟨rfl,Nat.zero_le _,Or.inl rfl⟩).mono ?_
   rintro e' w20 ⟨rfl,hb20⟩
   clear cy0 cy1
   go_wp2_with fail
   refine(jS _).mono ?_
   rintro e' w21 ⟨rfl,hb21⟩
   go_wp2_with fail
   go_ret
   exact⟨rfl,am (ab HBL) (am hb20 hb21)⟩
  |true=>
   by_cases hk1:x1=1
   rotate_left
   ·have hB:ep s t k z q l e v r m xs x1 x2 x3 x4 x5=false:=by
     unfold ep dd
     rw[ab HOB,beq_eq_false_iff_ne.2 hk1]
     rfl
    have hne:(x1 != 1)=true:=by simp[hk1]
    clear hk1
    have hE:=(ab hN).symm.trans (fx (b:=b) hB)
    have hM0:M=0:=congrArg (fun p=>p.1) hE
    have hR0:R=[]:=congrArg (fun p=>p.2.1) hE
    clear hE
    subst hM0 hR0
    obtain⟨cy0,cy1⟩:=c2 bY
    have hl0:([]:List aC).length=0:=rfl
    rw[hl0]at cy1
    go_wp2_with fail
    refine(fW 0 a3 none 0 c3 0 [] _ (ab HQ) ⟨rfl,Nat.zero_le _,Or.inl rfl⟩).mono ?_
    rintro e' w20 ⟨rfl,hb20⟩
    clear cy0 cy1
    go_wp2_with fail
    refine(jS _).mono ?_
    rintro e' w21 ⟨rfl,hb21⟩
    go_wp2_with fail
    go_ret
    exact⟨rfl,am (ab HBL) (am hb20 hb21)⟩
   obtain⟨oi,hoi⟩:∃oi,eF x1 x2 x3 x4 x5=oi:=⟨_,rfl⟩
   have HOI:=ae hoi
   have hne:(x1 != 1)=false:=by simp[hk1]
   have HK1:=ae hk1
   clear hoi hk1
   go_wp2_with fail
   refine(iR x1 x2 x3 x4 x5 _).mono ?_
   rintro e' w11 ⟨rfl,hb11⟩
   rw[ab HOI]
   clear cj0 cj1 cj2 cj3 cj4 cj5 cj6 cj7 cj8 cj9 cs0 cs1 cx0 cx1 cx2 cx3 cx4
   replace bJ:=(hb11.block _ (Array.getElem?_eq_some_iff.1 bJ).1).trans bJ
   replace bS:=(hb11.block _ (Array.getElem?_eq_some_iff.1 bS).1).trans bS
   replace bX:=(hb11.block _ (Array.getElem?_eq_some_iff.1 bX).1).trans bX
   replace bY:=(hb11.block _ (Array.getElem?_eq_some_iff.1 bY).1).trans bY
   replace HBL:Hid (Below w.heap.size w w11):=ae (am (ab HBL) hb11)
   replace HR10:=ae ((ab HR10).below hb11)
   replace HQ:=ae ((ab HQ).below hb11)
   replace HL10:=ae ((ab HL10).below hb11)
   clear hb11 hne
   cases oi with
   |false=>
    have hB:ep s t k z q l e v r m xs x1 x2 x3 x4 x5=false:=by
     have h9:=ab HOI
     unfold eF at h9
     rw[if_pos (ab HK1)]at h9
     unfold ep dd
     rw[ab HOB,h9,Bool.and_false]
     rfl
    have hE:=(ab hN).symm.trans (fx (b:=b) hB)
    have hM0:M=0:=congrArg (fun p=>p.1) hE
    have hR0:R=[]:=congrArg (fun p=>p.2.1) hE
    clear hE
    subst hM0 hR0
    obtain⟨cy0,cy1⟩:=c2 bY
    have hl0:([]:List aC).length=0:=rfl
    rw[hl0]at cy1
    go_wp2_with fail
    refine(fW 0 a3 none 0 c3 0 [] _ (ab HQ) ⟨rfl,Nat.zero_le _,Or.inl rfl⟩).mono ?_
    rintro e' w20 ⟨rfl,hb20⟩
    clear cy0 cy1
    go_wp2_with fail
    refine(jS _).mono ?_
    rintro e' w21 ⟨rfl,hb21⟩
    go_wp2_with fail
    go_ret
    exact⟨rfl,am (ab HBL) (am hb20 hb21)⟩
   |true=>
    have hrec:dg x2 x3 x4 x5=true:=by
     have h9:=ab HOI
     unfold eF at h9
     rwa [if_pos (ab HK1)]at h9
    have hT:bH x2 0 60=true:=by
     unfold dg at hrec
     simp only[Bool.and_eq_true]at hrec
     exact hrec.1.1.1
    obtain⟨hMm,hsum,hlw,hall,hlat,hnn⟩:=take_cn (ab HOB) (show dd x1 x2 x3 x4 x5=true by unfold dd;rw[hrec,ab HK1];rfl) hxl (ab hN)
    subst hMm
    obtain⟨_,hll,hmb2,hokx,_⟩:=ga (ab HOB)
    have hxn:∀x ∈ xs,0≤x.an∧x.an≤1000:=fun x hx=>(ig (hokx x hx)).1
    have hcx:=cnO_bd hxn
    have hwl:=jD k z q x2
    have hWA:eY s t k z q l e v r x2=aQ k z q x2:=gK (fl (ab HOB)) hT
    clear hokx hrec HOI
    have HT:=br.1 hT
    obtain⟨ws,hws⟩:∃ws,aQ k z q x2=ws:=⟨_,rfl⟩
    rw[hws]at hsum hlw hall hWA hwl
    have HC:=gu s t k z q l e b v r x2 w11
    rw[hWA]at HC
    have HC:=ae HC
    have HXN:=ae hxn
    have HNN:=ae hnn
    have HLAT:=ae hlat
    have HALL:=ae hall
    have HSUM:=ae hsum
    have HCX:=ae hcx
    have HT2:=ae HT
    clear hWA hws hT hxn hnn hlat hall hsum hcx HT
    obtain⟨cj0,cj1,cj2,cj3,cj4,cj5,cj6,cj7,cj8,cj9⟩:=cZ bJ
    obtain⟨cs0,cs1⟩:=c2 bS
    obtain⟨cx0,cx1,cx2,cx3,cx4⟩:=Go.Proofs.YtdmhihcipkhecaaGreat.c5 bX
    go_wp2_with fail
    refine(ab HC).mono ?_
    rintro e' w12 ⟨v12,rfl,hO12,hb12⟩
    obtain⟨aw,cw,rfl⟩:∃aw cw,v12= .slice aw ws.length cw:=by
     obtain⟨u9,c9,e9,_⟩:=holdWn hO12 (by omega)
     exact⟨u9,c9,e9⟩
    clear cj0 cj1 cj2 cj3 cj4 cj5 cj6 cj7 cj8 cj9 cs0 cs1 cx0 cx1 cx2 cx3 cx4 HC hO12
    replace bJ:=(hb12.block _ (Array.getElem?_eq_some_iff.1 bJ).1).trans bJ
    replace bS:=(hb12.block _ (Array.getElem?_eq_some_iff.1 bS).1).trans bS
    replace bX:=(hb12.block _ (Array.getElem?_eq_some_iff.1 bX).1).trans bX
    replace bY:=(hb12.block _ (Array.getElem?_eq_some_iff.1 bY).1).trans bY
    replace HBL:Hid (Below w.heap.size w w12):=ae (am (ab HBL) hb12)
    replace HR10:=ae ((ab HR10).below hb12)
    replace HQ:=ae ((ab HQ).below hb12)
    replace HL10:=ae ((ab HL10).below hb12)
    clear hb12
    have hw0:IntKind.i64.wrap ((ws.length:Int) - (L.length:Int))=(ws.length:Int) - (L.length:Int):=IntWalk.i64_in _ ⟨by omega,by omega⟩
    obtain⟨N0,hN0⟩:∃N0:Int,(ws.length:Int) - (L.length:Int)=N0:=⟨_,rfl⟩
    have HN0:=ae hN0
    have hN0b:0≤N0∧N0≤61:=by omega
    rw[hN0]at hw0
    have hw0':IntKind.i64.wrap ((ws.length:Int) - (L.length:Int))=N0:=by rw[hN0];exact hw0
    clear hw0 hN0
    go_wp2_with fail
    clear hw0'
    go_loopw [13,14] (fun nv iv wr=>∃(i:Nat) (y:Int),i≤xs.length∧nv= .int .i64 y∧iv= .int .i64 i∧Hid (y=N0+dL (xs.take i))∧Below w12.heap.size w12 wr) (fun _ iv _=>xs.length - (intOf iv).toNat)
    case atStart=>exact⟨0,N0,Nat.zero_le _,rfl,rfl,ae (by show N0=N0+0;omega),Below.refl _ _⟩
    case round=>
    obtain⟨i,y,hi,rfl,rfl,HYv,hbw⟩:=hrel
    have bSr:=(hbw.block _ (Array.getElem?_eq_some_iff.1 bS).1).trans bS
    obtain⟨cs0,cs1⟩:=c2 bSr
    by_cases hlt:i<xs.length
    ·obtain⟨_,_,hx9⟩:=(ab HR10).below hbw
     obtain⟨g,o,rfl,hr⟩:=hx9.resolve_left (by omega)
     obtain⟨x,hx⟩:∃x,xs[i]? =some x:=⟨_,List.getElem?_eq_getElem (by omega)⟩
     obtain⟨r0,r1,r2,r3,r4,r5,r6,r7,r8,r9,r10,r11,r12⟩:=hr i x hx
     have hpa:=jR (fun y hy=>(ab HXN y hy).1) i
     have hxb:=ab HXN x (List.mem_of_getElem? hx)
     have hcx:=ab HCX
     have hyv:=ab HYv
     have hw1:IntKind.i64.wrap (y+x.an)=y+x.an:=IntWalk.i64_in _ ⟨by omega,by omega⟩
     have HY2:=ae (show y+x.an=N0+dL (xs.take (i+1)) by rw[cnO_take hx];omega)
     have hltI:(i:Int)<(xs.length:Int):=by omega
     clear hx9 hr hx hpa hxb hcx hyv r0 r1 r2 r4 r5 r6 r7 r8 r9 r10 r11 r12
     go_wp2_with fail
     go_roundw
     case rel=>exact⟨i+1,y+x.an,by omega,rfl,by go_num,HY2,hbw⟩
     case measure=>simp[intOf];omega
    ·have hge:¬ (i:Int)<(xs.length:Int):=by omega
     have HY2:Hid (y=N0+dL xs):=ae (by have h9:=ab HYv;rwa [List.take_of_length_le (by omega)]at h9)
     replace HBL:Hid (Below w.heap.size w wr):=ae (am (ab HBL) hbw)
     replace HR10:=ae ((ab HR10).below hbw)
     replace HQ:=ae ((ab HQ).below hbw)
     replace HL10:=ae ((ab HL10).below hbw)
     replace bJ:=(hbw.block _ (Array.getElem?_eq_some_iff.1 bJ).1).trans bJ
     replace bS:=(hbw.block _ (Array.getElem?_eq_some_iff.1 bS).1).trans bS
     replace bX:=(hbw.block _ (Array.getElem?_eq_some_iff.1 bX).1).trans bX
     replace bY:=(hbw.block _ (Array.getElem?_eq_some_iff.1 bY).1).trans bY
     clear hlt bSr
     go_wp2_with fail
     clear cs0 cs1 hge hi hbw HYv
     generalize wr=w13 at*
     go_loopw [13,15] (fun nv iv wr=>∃(i:Nat) (y2:Int),i≤R.length∧nv= .int .i64 y2∧iv= .int .i64 i∧Hid (y2=y - dL (R.take i))∧Below w13.heap.size w13 wr) (fun _ iv _=>R.length - (intOf iv).toNat)
     case atStart=>exact⟨0,y,Nat.zero_le _,rfl,rfl,ae (by show y=y - 0;omega),Below.refl _ _⟩
     case round=>
     obtain⟨i2,y2,hi,rfl,rfl,HYw,hbw⟩:=hrel
     have bYr:=(hbw.block _ (Array.getElem?_eq_some_iff.1 bY).1).trans bY
     obtain⟨cy0,cy1⟩:=c2 bYr
     by_cases hlt:i2<R.length
     ·obtain⟨_,_,hx9⟩:=(ab HQ).below hbw
      obtain⟨g,o,rfl,hr⟩:=hx9.resolve_left (by omega)
      obtain⟨x,hx⟩:∃x,R[i2]? =some x:=⟨_,List.getElem?_eq_getElem (by omega)⟩
      obtain⟨r0,r1,r2,r3,r4,r5,r6,r7,r8,r9,r10,r11,r12⟩:=hr i2 x hx
      have hpa:=jR (ab HNN) i2
      have hpb:=jR (ab HNN) (i2+1)
      have hct:=cnO_take hx
      have hxb:=ab HNN x (List.mem_of_getElem? hx)
      have hcx:=ab HCX
      have hyv:=ab HY2
      have hyw:=ab HYw
      have hsm:=ab HSUM
      have hw1:IntKind.i64.wrap (y2 - x.an)=y2 - x.an:=IntWalk.i64_in _ ⟨by omega,by omega⟩
      have HY3:=ae (show y2 - x.an=y - dL (R.take (i2+1)) by omega)
      have hltI:(i2:Int)<(R.length:Int):=by omega
      clear hx9 hr hx hpa hpb hct hxb hcx hyv hyw hsm r0 r1 r2 r4 r5 r6 r7 r8 r9 r10 r11 r12
      go_wp2_with fail
      go_roundw
      case rel=>exact⟨i2+1,y2 - x.an,by omega,rfl,by go_num,HY3,hbw⟩
      case measure=>simp[intOf];omega
     ·have hge:¬ (i2:Int)<(R.length:Int):=by omega
      have hy0:y2=0:=by
       have h9:=ab HYw
       rw[List.take_of_length_le (by omega)]at h9
       have h8:=ab HY2
       have h7:=ab HSUM
       have h6:=ab HN0
       omega
      subst hy0
      replace HBL:Hid (Below w.heap.size w wr):=ae (am (ab HBL) hbw)
      replace HR10:=ae ((ab HR10).below hbw)
      replace HQ:=ae ((ab HQ).below hbw)
      replace HL10:=ae ((ab HL10).below hbw)
      replace bJ:=(hbw.block _ (Array.getElem?_eq_some_iff.1 bJ).1).trans bJ
      replace bS:=(hbw.block _ (Array.getElem?_eq_some_iff.1 bS).1).trans bS
      replace bX:=(hbw.block _ (Array.getElem?_eq_some_iff.1 bX).1).trans bX
      replace bY:=(hbw.block _ (Array.getElem?_eq_some_iff.1 bY).1).trans bY
      clear hlt bYr
      go_wp2_with fail
      clear cy0 cy1 hge hi hbw HYw HY2 HSUM HCX HN0 HNN HXN
      generalize wr=w14 at*
      go_loopw [16] (fun iv wr=>∃i:Nat,i≤L.length∧iv= .int .i64 i∧Below w14.heap.size w14 wr) (fun iv _=>L.length - (intOf iv).toNat)
      case atStart=>exact⟨0,Nat.zero_le _,rfl,Below.refl _ _⟩
      case round=>
      obtain⟨i3,hi,rfl,hbw⟩:=hrel
      replace bJ:=(hbw.block _ (Array.getElem?_eq_some_iff.1 bJ).1).trans bJ
      replace bS:=(hbw.block _ (Array.getElem?_eq_some_iff.1 bS).1).trans bS
      replace bX:=(hbw.block _ (Array.getElem?_eq_some_iff.1 bX).1).trans bX
      replace bY:=(hbw.block _ (Array.getElem?_eq_some_iff.1 bY).1).trans bY
      by_cases hlt:i3<L.length
      ·obtain⟨_,_,hx9⟩:=(ab HL10).below hbw
       obtain⟨g,o,rfl,hr⟩:=hx9.resolve_left (by omega)
       obtain⟨x,hx⟩:∃x,L[i3]? =some x:=⟨_,List.getElem?_eq_getElem (by omega)⟩
       obtain⟨r0,r1,r2,r3,r4,r5,r6⟩:=hr i3 x hx
       obtain⟨⟨f0,f1,f2,f3,f4⟩,hlq⟩:=ab HLAT x (List.mem_of_getElem? hx)
       rw[f0]at r0
       rw[f1]at r1
       rw[f2]at r2
       rw[f3]at r3
       rw[f4]at r4
       have hltI:(i3:Int)<(L.length:Int):=by omega
       clear hx9 hr hx f0 f1 f2 f3 f4
       have HX4:=ae (bh hbw 0)
       obtain⟨cj0,cj1,cj2,cj3,cj4,cj5,cj6,cj7,cj8,cj9⟩:=cZ bJ
       obtain⟨cs0,cs1⟩:=c2 bS
       obtain⟨cx0,cx1,cx2,cx3,cx4⟩:=Go.Proofs.YtdmhihcipkhecaaGreat.c5 bX
       by_cases hk3:k=3
       ·have hd3:(k != 3)=false:=by simp[hk3]
        clear hlq hk3
        go_wp2_with fail
        go_quiet (fail)
        go_wp2
        go_roundw
        case rel=>exact⟨i3+1,by omega,by go_num,(nc)⟩
        case measure=>simp[intOf];omega
       ·have hd3:(k != 3)=true:=by simp[hk3]
        obtain⟨hq1,hq2⟩:=hlq hk3
        have hq3:=ab HT2
        have hw1:IntKind.i64.wrap (x.en+l)=x.en+l:=IntWalk.i64_in _ ⟨by omega,by omega⟩
        have hd4:decide (M<x.en+l)=false:=decide_eq_false (by omega)
        clear hlq hk3 hq1 hq2 hq3
        go_wp2_with fail
        go_quiet (fail)
        go_wp2
        go_roundw
        case rel=>exact⟨i3+1,by omega,by go_num,(nc)⟩
        case measure=>simp[intOf];omega
      ·have hge:¬ (i3:Int)<(L.length:Int):=by omega
       replace HBL:Hid (Below w.heap.size w wr):=ae (am (ab HBL) hbw)
       replace HR10:=ae ((ab HR10).below hbw)
       replace HQ:=ae ((ab HQ).below hbw)
       by_cases hlw2:L.length<ws.length
       ·go_wp2_with fail
        go_ret
        exact⟨rfl,ab HBL⟩
       ·obtain⟨hRx,hPx⟩:=ab HALL (by omega)
        clear HALL hlw
        subst hRx hPx
        have hp0:([]:List cY).length=0:=rfl
        rw[hp0]
        obtain⟨cy0,cy1⟩:=c2 bY
        obtain⟨cs0,cs1⟩:=c2 bS
        go_wp2_with fail
        refine(fW M a3 au R.length c3 cu R _ (ab HQ) (ab HR10)).mono ?_
        rintro e' w15 ⟨rfl,hb15⟩
        clear cy0 cy1 cs0 cs1
        go_wp2_with fail
        go_ret
        exact⟨rfl,am (ab HBL) hb15⟩
end Go.Proofs.YtdmhihcipkhecaaGreat
