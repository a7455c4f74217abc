/- Laid together: what the claim needs of the texts that were built one by one. -/
import Derived.Test.YtdmhihcipkhecaaGreatR23
import Derived.Test.YtdmhihcipkhecaaGreatR24
import Derived.Test.YtdmhihcipkhecaaGreatR29
import Derived.Test.YtdmhihcipkhecaaGreatR14
import Derived.Test.YtdmhihcipkhecaaGreatR0
set_option linter.unusedVariables false
namespace Go.Proofs.YtdmhihcipkhecaaGreat
open Go.ChangeShapes Go.WideShapes Go.ChangeAt Go.RowKit Go.Shelf Go.Maps
set_option linter.unusedSimpArgs false
set_option maxRecDepth 100000 in
set_option maxHeartbeats 16000000 in
theorem lawOpEnd(a:Option Addr)(len cap:Nat)(w:World)(hlc:len≤cap)(hmx:len≤maxLen)(hb:cU w a len)(hl:∀g o,a=some ⟨g,o,none⟩→0<len→g<w.heap.size)(hn:a=none→cap=0):Calls Tryz.prog 6 #[.slice a len cap] w fun e' w'=>e'= .returned (.bool true)∧Below w.heap.size w w':=by
 unfold maxLen at hmx
 go_enter Tryz.func6,Tryz.ntmps6
 by_cases hm:len≤1048576
 rotate_left
 ·have hd:decide ((1048576:Int)<(len:Int))=true:=by simp;omega
  have hd2:decide (1048576<len)=true:=by simp;omega
  go_wp2_with fail
  go_ret
  exact⟨rfl,Below.refl _ _⟩
 ·have hd:decide ((1048576:Int)<(len:Int))=false:=by simp;omega
  have hd2:decide (1048576<len)=false:=by simp;omega
  go_wp2_with fail
  clear hd hd2
  refine(drawop_any a len cap _ hlc hm hb hl hn).mono ?_
  rintro e' w1 ⟨s,t,k,z,q,l,e,b,v,r,m,au,cu,xs,x1,x2,x3,x4,x5,rfl,hO,hxl,hmb,hb1⟩
  clear hb hl hn
  have hbw2:Below w1.heap.size w1 (((w1.alloc (.cells #[.int .i64 s,.int .i64 t,.int .i64 k,.int .i64 z,.int .i64 q,.int .i64 l,.int .i64 e,.bool b,.int .i64 v,.int .i64 r] 24)).alloc (.cells #[.int .i64 m,.slice au xs.length cu] 27)).alloc (.cells #[.int .i64 x1,.int .i64 x2,.int .i64 x3,.int .i64 x4,.int .i64 x5] 29)):=ag (ag (ax _ _) _) _
  have HB2:=ae (am hb1 hbw2)
  have HBJ:=ae (show(((w1.alloc (.cells #[.int .i64 s,.int .i64 t,.int .i64 k,.int .i64 z,.int .i64 q,.int .i64 l,.int .i64 e,.bool b,.int .i64 v,.int .i64 r] 24)).alloc (.cells #[.int .i64 m,.slice au xs.length cu] 27)).alloc (.cells #[.int .i64 x1,.int .i64 x2,.int .i64 x3,.int .i64 x4,.int .i64 x5] 29)).heap[w1.heap.size]? =some (.cells #[.int .i64 s,.int .i64 t,.int .i64 k,.int .i64 z,.int .i64 q,.int .i64 l,.int .i64 e,.bool b,.int .i64 v,.int .i64 r] 24 (0,0))from aN<|aN<|(by have h9:=World.alloc_heap_new w1 (.cells #[.int .i64 s,.int .i64 t,.int .i64 k,.int .i64 z,.int .i64 q,.int .i64 l,.int .i64 e,.bool b,.int .i64 v,.int .i64 r] 24);exact h9))
  have HBS:=ae (show(((w1.alloc (.cells #[.int .i64 s,.int .i64 t,.int .i64 k,.int .i64 z,.int .i64 q,.int .i64 l,.int .i64 e,.bool b,.int .i64 v,.int .i64 r] 24)).alloc (.cells #[.int .i64 m,.slice au xs.length cu] 27)).alloc (.cells #[.int .i64 x1,.int .i64 x2,.int .i64 x3,.int .i64 x4,.int .i64 x5] 29)).heap[w1.heap.size+1]? =some (.cells #[.int .i64 m,.slice au xs.length cu] 27 (0,0))from aN<|nA)
  have HBX:=ae (show(((w1.alloc (.cells #[.int .i64 s,.int .i64 t,.int .i64 k,.int .i64 z,.int .i64 q,.int .i64 l,.int .i64 e,.bool b,.int .i64 v,.int .i64 r] 24)).alloc (.cells #[.int .i64 m,.slice au xs.length cu] 27)).alloc (.cells #[.int .i64 x1,.int .i64 x2,.int .i64 x3,.int .i64 x4,.int .i64 x5] 29)).heap[w1.heap.size+1+1]? =some (.cells #[.int .i64 x1,.int .i64 x2,.int .i64 x3,.int .i64 x4,.int .i64 x5] 29 (0,0))from nA)
  have HR0:Hid (bV (((w1.alloc (.cells #[.int .i64 s,.int .i64 t,.int .i64 k,.int .i64 z,.int .i64 q,.int .i64 l,.int .i64 e,.bool b,.int .i64 v,.int .i64 r] 24)).alloc (.cells #[.int .i64 m,.slice au xs.length cu] 27)).alloc (.cells #[.int .i64 x1,.int .i64 x2,.int .i64 x3,.int .i64 x4,.int .i64 x5] 29)) au xs.length xs):=ae (by
   obtain⟨a9,c9,e9,h1,h2,_⟩:=dP hO (by omega)
   simp at e9
   obtain⟨rfl,rfl⟩:=e9
   exact h1.below hbw2)
  obtain⟨M,R,P,hN0⟩:∃M R P,bM s t k z q l e b v r m xs 1000=(M,R,P):=⟨_,_,_,rfl⟩
  have hle:=mk_le s t k z q l e b v r m xs 1000
  rw[hN0]at hle
  obtain⟨hlR,hlP⟩:=hle
  dsimp only at hlR hlP
  have HN:=ae hN0
  clear hN0 hO hb1 hbw2
  go_upto_region 4 with fail
  have bJ:=ab HBJ
  have bS:=ab HBS
  have bX:=ab HBX
  clear HBJ HBS HBX
  generalize w1.heap.size+1+1=XX at bX ⊢
  generalize w1.heap.size+1=XS at bS ⊢
  generalize w1.heap.size=XJ at bJ ⊢
  generalize (((w1.alloc (.cells #[.int .i64 s,.int .i64 t,.int .i64 k,.int .i64 z,.int .i64 q,.int .i64 l,.int .i64 e,.bool b,.int .i64 v,.int .i64 r] 24)).alloc (.cells #[.int .i64 m,.slice au xs.length cu] 27)).alloc (.cells #[.int .i64 x1,.int .i64 x2,.int .i64 x3,.int .i64 x4,.int .i64 x5] 29))=w2 at HB2 bJ bS bX HR0 ⊢
  obtain⟨cj0,cj1,cj2,cj3,cj4,cj5,cj6,cj7,cj8,cj9⟩:=cT bJ
  obtain⟨cs0,cs1⟩:=Go.Proofs.YtdmhihcipkhecaaGreat.c2 bS
  go_wp2_with fail
  refine(implmark_eq s t k z q l e b v r m au xs.length cu xs 1000 _ (ab HR0) (by omega) HN).mono ?_
  rintro e' w3 ⟨a3,c3,pa3,pc3,rfl,hO3,hP3,hb3⟩
  clear cj0 cj1 cj2 cj3 cj4 cj5 cj6 cj7 cj8 cj9 cs0 cs1
  replace bJ:=(hb3.block _ (Array.getElem?_eq_some_iff.1 bJ).1).trans bJ
  replace bS:=(hb3.block _ (Array.getElem?_eq_some_iff.1 bS).1).trans bS
  replace bX:=(hb3.block _ (Array.getElem?_eq_some_iff.1 bX).1).trans bX
  have HB3:Hid (Below w.heap.size w w3):=ae (am (ab HB2) hb3)
  have HR3:=ae ((ab HR0).below hb3)
  have HO3:=ae hO3
  have HL3:=ae hP3
  clear HB2 HR0 hb3 hO3 hP3
  have HY:=ae (World.alloc_heap_new w3 (.cells #[.int .i64 M,.slice a3 R.length c3] 27))
  have hbY:=ae (ax w3 (.cells #[.int .i64 M,.slice a3 R.length c3] 27))
  go_upto_region 5 with fail
  have bY:=ab HY
  replace bJ:=((ab hbY).block _ (Array.getElem?_eq_some_iff.1 bJ).1).trans bJ
  replace bS:=((ab hbY).block _ (Array.getElem?_eq_some_iff.1 bS).1).trans bS
  replace bX:=((ab hbY).block _ (Array.getElem?_eq_some_iff.1 bX).1).trans bX
  have HB4:Hid (Below w.heap.size w (w3.alloc (.cells #[.int .i64 M,.slice a3 R.length c3] 27))):=ae (am (ab HB3) (ab hbY))
  have HR4:=ae ((ab HR3).below (ab hbY))
  have HO4:Hid (aR (w3.alloc (.cells #[.int .i64 M,.slice a3 R.length c3] 27)) w2.heap.size (.slice a3 R.length c3) R):=ae (World.ownsRow.alloc (ab HO3) _)
  have HL4:Hid (aQ (w3.alloc (.cells #[.int .i64 M,.slice a3 R.length c3] 27)) w2.heap.size (.slice pa3 P.length pc3) P):=ae (World.ownsRow.alloc (ab HL3) _)
  clear HY hbY HB3 HR3 HO3 HL3
  generalize w3.heap.size=XY at bY ⊢
  generalize w3.alloc (.cells #[.int .i64 M,.slice a3 R.length c3] 27)=w4 at HB4 HR4 HO4 HL4 bJ bS bX bY ⊢
  obtain⟨cj0,cj1,cj2,cj3,cj4,cj5,cj6,cj7,cj8,cj9⟩:=cT bJ
  obtain⟨cs0,cs1⟩:=Go.Proofs.YtdmhihcipkhecaaGreat.c2 bS
  go_wp2_with fail
  refine(specmark_eq s t k z q l e b v r m au xs.length cu xs 1000 _ (ab HR4) (by omega) HN).mono ?_
  rintro e' w5 ⟨a5,c5,pa5,pc5,rfl,hO5,hP5,hb5⟩
  clear cj0 cj1 cj2 cj3 cj4 cj5 cj6 cj7 cj8 cj9 cs0 cs1
  replace bJ:=(hb5.block _ (Array.getElem?_eq_some_iff.1 bJ).1).trans bJ
  replace bS:=(hb5.block _ (Array.getElem?_eq_some_iff.1 bS).1).trans bS
  replace bX:=(hb5.block _ (Array.getElem?_eq_some_iff.1 bX).1).trans bX
  replace bY:=(hb5.block _ (Array.getElem?_eq_some_iff.1 bY).1).trans bY
  have HB5:Hid (Below w.heap.size w w5):=ae (am (ab HB4) hb5)
  have HR5:=ae ((ab HR4).below hb5)
  have HO5:Hid (aR w5 w2.heap.size (.slice a3 R.length c3) R):=ae (aK (ab HO4) (aB hb5) (fun _ e9=>by cases e9))
  have HL5:Hid (aQ w5 w2.heap.size (.slice pa3 P.length pc3) P):=ae (aK (ab HL4) (aB hb5) (fun _ e9=>by cases e9))
  have HP5:=ae hO5
  have HQ5:=ae hP5
  clear HB4 HR4 HO4 HL4 hb5 hO5 hP5
  have HZ:=ae (World.alloc_heap_new w5 (.cells #[.int .i64 M,.slice a5 R.length c5] 27))
  have hbZ:=ae (ax w5 (.cells #[.int .i64 M,.slice a5 R.length c5] 27))
  go_upto_region 6 with fail
  have bZ:=ab HZ
  replace bJ:=((ab hbZ).block _ (Array.getElem?_eq_some_iff.1 bJ).1).trans bJ
  replace bS:=((ab hbZ).block _ (Array.getElem?_eq_some_iff.1 bS).1).trans bS
  replace bX:=((ab hbZ).block _ (Array.getElem?_eq_some_iff.1 bX).1).trans bX
  replace bY:=((ab hbZ).block _ (Array.getElem?_eq_some_iff.1 bY).1).trans bY
  have HB6:Hid (Below w.heap.size w (w5.alloc (.cells #[.int .i64 M,.slice a5 R.length c5] 27))):=ae (am (ab HB5) (ab hbZ))
  have HR6:Hid (bV (w5.alloc (.cells #[.int .i64 M,.slice a5 R.length c5] 27)) au xs.length xs∧bV (w5.alloc (.cells #[.int .i64 M,.slice a5 R.length c5] 27)) a3 R.length R∧bV (w5.alloc (.cells #[.int .i64 M,.slice a5 R.length c5] 27)) a5 R.length R∧jZ (w5.alloc (.cells #[.int .i64 M,.slice a5 R.length c5] 27)) pa3 P.length P∧jZ (w5.alloc (.cells #[.int .i64 M,.slice a5 R.length c5] 27)) pa5 P.length P):=ae (by
   have o1:=dP (World.ownsRow.alloc (ab HO5) (.cells #[.int .i64 M,.slice a5 R.length c5] 27):aR _ _ _ R) (by omega)
   have o2:=dP (World.ownsRow.alloc (ab HP5) (.cells #[.int .i64 M,.slice a5 R.length c5] 27):aR _ _ _ R) (by omega)
   have o3:=jj (World.ownsRow.alloc (ab HL5) (.cells #[.int .i64 M,.slice a5 R.length c5] 27):aQ _ _ _ P) (by omega)
   have o4:=jj (World.ownsRow.alloc (ab HQ5) (.cells #[.int .i64 M,.slice a5 R.length c5] 27):aQ _ _ _ P) (by omega)
   obtain⟨u1,v1,e1,h1,_⟩:=o1
   obtain⟨u2,v2,e2,h2,_⟩:=o2
   obtain⟨u3,v3,e3,h3,_⟩:=o3
   obtain⟨u4,v4,e4,h4,_⟩:=o4
   simp at e1 e2 e3 e4
   obtain⟨rfl,rfl⟩:=e1
   obtain⟨rfl,rfl⟩:=e2
   obtain⟨rfl,rfl⟩:=e3
   obtain⟨rfl,rfl⟩:=e4
   exact⟨(ab HR5).below (ab hbZ),h1,h2,h3,h4⟩)
  clear HZ hbZ HB5 HR5 HO5 HL5 HP5 HQ5
  generalize w5.heap.size=XZ at bZ ⊢
  generalize w5.alloc (.cells #[.int .i64 M,.slice a5 R.length c5] 27)=w6 at HB6 HR6 bJ bS bX bY bZ ⊢
  obtain⟨cy0,cy1⟩:=Go.Proofs.YtdmhihcipkhecaaGreat.c2 bY
  obtain⟨cz0,cz1⟩:=Go.Proofs.YtdmhihcipkhecaaGreat.c2 bZ
  go_wp2_with fail
  refine(jV M a3 a5 R.length c3 c5 R _ (ab HR6).2.1 (ab HR6).2.2.1).mono ?_
  rintro e' w7 ⟨rfl,hb7⟩
  clear cy0 cy1 cz0 cz1 bZ
  replace bJ:=(hb7.block _ (Array.getElem?_eq_some_iff.1 bJ).1).trans bJ
  replace bS:=(hb7.block _ (Array.getElem?_eq_some_iff.1 bS).1).trans bS
  replace bX:=(hb7.block _ (Array.getElem?_eq_some_iff.1 bX).1).trans bX
  replace bY:=(hb7.block _ (Array.getElem?_eq_some_iff.1 bY).1).trans bY
  have HB7:Hid (Below w.heap.size w w7):=ae (am (ab HB6) hb7)
  have HR7:Hid (bV w7 au xs.length xs∧bV w7 a3 R.length R∧bV w7 a5 R.length R∧jZ w7 pa3 P.length P∧jZ w7 pa5 P.length P):=ae ⟨(ab HR6).1.below hb7,(ab HR6).2.1.below hb7,(ab HR6).2.2.1.below hb7,(ab HR6).2.2.2.1.below hb7,(ab HR6).2.2.2.2.below hb7⟩
  clear HB6 HR6 hb7
  go_wp2_with fail
  refine(frpanes_any pa3 pa5 P.length pc3 pc5 P _ (ab HR7).2.2.2.1 (ab HR7).2.2.2.2).mono ?_
  rintro e' w8 ⟨rfl,hb8⟩
  replace bJ:=(hb8.block _ (Array.getElem?_eq_some_iff.1 bJ).1).trans bJ
  replace bS:=(hb8.block _ (Array.getElem?_eq_some_iff.1 bS).1).trans bS
  replace bX:=(hb8.block _ (Array.getElem?_eq_some_iff.1 bX).1).trans bX
  replace bY:=(hb8.block _ (Array.getElem?_eq_some_iff.1 bY).1).trans bY
  have HB8:Hid (Below w.heap.size w w8):=ae (am (ab HB7) hb8)
  have HR8:Hid (bV w8 au xs.length xs∧bV w8 a3 R.length R):=ae ⟨(ab HR7).1.below hb8,(ab HR7).2.1.below hb8⟩
  clear HB7 HR7 hb8
  obtain⟨cj0,cj1,cj2,cj3,cj4,cj5,cj6,cj7,cj8,cj9⟩:=cT bJ
  obtain⟨cs0,cs1⟩:=Go.Proofs.YtdmhihcipkhecaaGreat.c2 bS
  obtain⟨ob,hob⟩:∃ob,b6 s t k z q l e v r m xs=ob:=⟨_,rfl⟩
  have HOB:=ae hob
  clear hob
  go_wp2_with fail
  refine(fW s t k z q l e b v r m au xs.length cu xs _ (ab HR8).1 HOB).mono ?_
  rintro e' w9 ⟨rfl,hb9⟩
  clear cj0 cj1 cj2 cj3 cj4 cj5 cj6 cj7 cj8 cj9 cs0 cs1
  replace bJ:=(hb9.block _ (Array.getElem?_eq_some_iff.1 bJ).1).trans bJ
  replace bS:=(hb9.block _ (Array.getElem?_eq_some_iff.1 bS).1).trans bS
  replace bX:=(hb9.block _ (Array.getElem?_eq_some_iff.1 bX).1).trans bX
  replace bY:=(hb9.block _ (Array.getElem?_eq_some_iff.1 bY).1).trans bY
  have HB9:Hid (Below w.heap.size w w9):=ae (am (ab HB8) hb9)
  have HR9:Hid (bV w9 au xs.length xs∧bV w9 a3 R.length R):=ae ⟨(ab HR8).1.below hb9,(ab HR8).2.below hb9⟩
  clear HB8 HR8 hb9
  cases ob with
  |false=>
   have h9:=(ab HN).symm.trans (mark_no (by rw[ab HOB];rfl))
   simp only[Prod.mk.injEq]at h9
   obtain⟨rfl,rfl,rfl⟩:=h9
   simp only[List.length_nil]at*
   clear HN
   obtain⟨cy0,cy1⟩:=Go.Proofs.YtdmhihcipkhecaaGreat.c2 bY
   go_wp2_with fail
   refine(jV 0 a3 none 0 c3 0 [] _ (ab HR9).2 (orNil _)).mono ?_
   rintro e' wj ⟨rfl,hbj⟩
   have HBj:=ae (am (ab HB9) hbj)
   go_wp2_with fail
   refine(frok_any _).mono ?_
   rintro e' wk ⟨rfl,hbk⟩
   go_wp2_with fail
   go_ret
   exact⟨rfl,am (ab HBj) hbk⟩
  |true=>
   have h9:=(ab HN).symm.trans (end_mark (ab HOB))
   simp only[Prod.mk.injEq]at h9
   obtain⟨rfl,rfl,h92⟩:=h9
   have HPe:Hid (P=br b 1000 xs):=ae h92
   simp only[List.length_nil]at*
   have hxs3:=(dS (ab HOB)).1
   clear HN h92
   have HSB:=ae bS
   obtain⟨cs0,cs1⟩:=Go.Proofs.YtdmhihcipkhecaaGreat.c2 bS
   have zS:XS<w9.heap.size:=(Array.getElem?_eq_some_iff.1 bS).1
   have HBJ:=ae bJ
   have HBX:=ae bX
   have HBY:=ae bY
   clear bJ bX bY
   go_upto_region 11 with fail
   clear cs0 cs1 zS bS
   go_wp2
   go_loopw [10,11] (fun nv iv wr=>∃ix:Nat,ix≤xs.length∧iv= .int .i64 ix∧nv= .int .i64 (iF 1000 xs ix:Nat)∧Below w9.heap.size w9 wr) (fun _ iv _=>xs.length - (intOf iv).toNat)
   case atStart=>exact⟨0,Nat.zero_le _,rfl,rfl,Below.refl _ _⟩
   case round=>
    obtain⟨ix,hk,rfl,rfl,hbw⟩:=hrel
    have bS:=(hbw.block _ (Array.getElem?_eq_some_iff.1 (ab HSB)).1).trans (ab HSB)
    obtain⟨cs0,cs1⟩:=Go.Proofs.YtdmhihcipkhecaaGreat.c2 bS
    have zS:XS<wr.heap.size:=(Array.getElem?_eq_some_iff.1 bS).1
    have hnle:=nTel_le 1000 xs ix
    clear bS
    by_cases hlt:ix<xs.length
    ·obtain⟨x,hx⟩:∃x,xs[ix]? =some x:=⟨_,List.getElem?_eq_getElem (by omega)⟩
     have htel:=end_tel (ab HOB) (List.mem_of_getElem? hx)
     obtain⟨gr,or_,hau,hrA⟩:=(ab HR9).1.2.2.resolve_left (by omega)
     subst hau
     obtain⟨c0,c1,c2,c3x,c4,c5x,c6,c7,c8,c9x,cT,c11,c12⟩:=(hrA ix _ hx).below hbw (hrA ix _ hx).lt
     have zr:gr<wr.heap.size:=Nat.lt_of_lt_of_le (hrA ix _ hx).lt hbw.size
     have HX:=ae hx
     have hltI:(ix:Int)<(xs.length:Int):=by omega
     have HTE:=ae htel
     clear hrA hx htel c0 c1 c2 c3x c4 c5x c6 c7 c8 c9x cT c11
     have hwn:IntKind.i64.wrap ((iF 1000 xs ix:Int)+1)=(iF 1000 xs ix:Int)+1:=IntWalk.i64_in _ ⟨by omega,by omega⟩
     have htm:x.tm=true∨x.tm=false:=by cases x.tm<;>simp
     rcases htm with htm|htm
     ·have HNT:=ae (nTel_n (ab HX) (by rw[ab HTE,htm];rfl))
      go_wp2
      go_roundw
      case rel=>exact⟨ix+1,by omega,by go_num,by rw[ab HNT],by repeat(first|(with_reducible exact hbw)|(with_reducible refine aZ ?_ _)|(with_reducible refine ap ?_))⟩
      case measure=>simp[intOf];omega
     ·have HNT:=ae (nTel_s (ab HX) (by rw[ab HTE,htm];rfl))
      go_wp2
      go_roundw
      case rel=>exact⟨ix+1,by omega,by go_num,by rw[ab HNT];go_num,by repeat(first|(with_reducible exact hbw)|(with_reducible refine aZ ?_ _)|(with_reducible refine ap ?_))⟩
      case measure=>simp[intOf];omega
    ·obtain rfl:ix=xs.length:=by omega
     have e1:iF 1000 xs xs.length=P.length:=by rw[ab HPe];exact nTel_end b 1000 (Nat.le_refl _)
     rw[e1]
     clear e1 hnle
     have HRa:Hid (bV wr a3 0 []):=ae ((ab HR9).2.below hbw)
     have HBr:=ae (am (ab HB9) hbw)
     have bJ:=(hbw.block _ (Array.getElem?_eq_some_iff.1 (ab HBJ)).1).trans (ab HBJ)
     have bX:=(hbw.block _ (Array.getElem?_eq_some_iff.1 (ab HBX)).1).trans (ab HBX)
     have bY:=(hbw.block _ (Array.getElem?_eq_some_iff.1 (ab HBY)).1).trans (ab HBY)
     clear HBJ HBX HBY HSB HR9 HB9 hbw
     obtain⟨M2,R2,P2,L2,hN2⟩:∃M2 R2 P2 L2,dq s t k z q l e b v r 1000 [] x1 x2 x3 x4 x5=(M2,R2,P2,L2):=⟨_,_,_,_,rfl⟩
     have hle2:=tk_le s t k z q l e b v r 1000 [] x1 x2 x3 x4 x5
     rw[hN2]at hle2
     obtain⟨hl2R,hl2P,hl2L⟩:=hle2
     dsimp only at hl2R hl2P hl2L
     have HN2:=ae hN2
     clear hN2
     go_upto_region 16 with fail
     clear cs0 cs1 zS
     obtain⟨cj0,cj1,cj2,cj3,cj4,cj5,cj6,cj7,cj8,cj9⟩:=cT bJ
     obtain⟨cx0,cx1,cx2,cx3,cx4⟩:=Go.Proofs.YtdmhihcipkhecaaGreat.c5 bX
     obtain⟨cy0,cy1⟩:=Go.Proofs.YtdmhihcipkhecaaGreat.c2 bY
     go_wp2_with fail
     refine(impltake_eq s t k z q l e b v r 1000 a3 0 c3 [] x1 x2 x3 x4 x5 _ (ab HRa) (by omega) HN2).mono ?_
     rintro e' wt ⟨a7,c7,pa7,pc7,la7,lc7,rfl,hO7,hP7,hL7,hbt⟩
     clear cj0 cj1 cj2 cj3 cj4 cj5 cj6 cj7 cj8 cj9 cx0 cx1 cx2 cx3 cx4 cy0 cy1
     replace bJ:=(hbt.block _ (Array.getElem?_eq_some_iff.1 bJ).1).trans bJ
     replace bX:=(hbt.block _ (Array.getElem?_eq_some_iff.1 bX).1).trans bX
     replace bY:=(hbt.block _ (Array.getElem?_eq_some_iff.1 bY).1).trans bY
     have HBt:Hid (Below w.heap.size w wt):=ae (am (ab HBr) hbt)
     have HRt:=ae ((ab HRa).below hbt)
     have HOt:=ae hO7
     clear HRa HBr hbt hO7 hP7 hL7
     have HT:=ae (World.alloc_heap_new wt (.cells #[.int .i64 M2,.slice a7 R2.length c7] 27))
     have hbT:=ae (ax wt (.cells #[.int .i64 M2,.slice a7 R2.length c7] 27))
     go_upto_region 17 with fail
     have bT:=ab HT
     replace bJ:=((ab hbT).block _ (Array.getElem?_eq_some_iff.1 bJ).1).trans bJ
     replace bX:=((ab hbT).block _ (Array.getElem?_eq_some_iff.1 bX).1).trans bX
     replace bY:=((ab hbT).block _ (Array.getElem?_eq_some_iff.1 bY).1).trans bY
     have HBu:Hid (Below w.heap.size w (wt.alloc (.cells #[.int .i64 M2,.slice a7 R2.length c7] 27))):=ae (am (ab HBt) (ab hbT))
     have HRu:Hid (bV (wt.alloc (.cells #[.int .i64 M2,.slice a7 R2.length c7] 27)) a3 0 []∧bV (wt.alloc (.cells #[.int .i64 M2,.slice a7 R2.length c7] 27)) a7 R2.length R2):=ae (by
      have o1:=dP (World.ownsRow.alloc (ab HOt) (.cells #[.int .i64 M2,.slice a7 R2.length c7] 27):aR _ _ _ R2) (by omega)
      obtain⟨u1,v1,e1,h1,_⟩:=o1
      simp at e1
      obtain⟨rfl,rfl⟩:=e1
      exact⟨(ab HRt).below (ab hbT),h1⟩)
     clear HT hbT HBt HRt HOt
     generalize wt.heap.size=XT at bT ⊢
     generalize wt.alloc (.cells #[.int .i64 M2,.slice a7 R2.length c7] 27)=wu at HBu HRu bJ bX bY bT ⊢
     obtain⟨cj0,cj1,cj2,cj3,cj4,cj5,cj6,cj7,cj8,cj9⟩:=cT bJ
     obtain⟨cx0,cx1,cx2,cx3,cx4⟩:=Go.Proofs.YtdmhihcipkhecaaGreat.c5 bX
     obtain⟨cy0,cy1⟩:=Go.Proofs.YtdmhihcipkhecaaGreat.c2 bY
     obtain⟨ct0,ct1⟩:=Go.Proofs.YtdmhihcipkhecaaGreat.c2 bT
     by_cases hq1:x1=1
     rotate_left
     ·have hq2:(x1==1)=false:=by simpa using hq1
      clear hq1
      go_wp2
      go_ret
      exact⟨rfl,by repeat(first|(with_reducible exact ab HBu)|(with_reducible refine aZ ?_ _)|(with_reducible refine ap ?_))⟩
     ·have hq2:(x1==1)=true:=by simpa using hq1
      obtain⟨io,hio⟩:∃io,eU x1 x2 x3 x4 x5=io:=⟨_,rfl⟩
      have HIR:Hid (dx x1 x2 x3 x4 x5=io):=ae (by rw[←hio];unfold dx eU;rw[hq2,if_pos hq1];rfl)
      clear hq1
      go_wp2_with fail
      refine(iT x1 x2 x3 x4 x5 _).mono ?_
      rw[hio]
      rintro e' wv ⟨rfl,hbv⟩
      clear hio cj0 cj1 cj2 cj3 cj4 cj5 cj6 cj7 cj8 cj9 cx0 cx1 cx2 cx3 cx4 cy0 cy1 ct0 ct1
      replace bJ:=(hbv.block _ (Array.getElem?_eq_some_iff.1 bJ).1).trans bJ
      replace bX:=(hbv.block _ (Array.getElem?_eq_some_iff.1 bX).1).trans bX
      replace bY:=(hbv.block _ (Array.getElem?_eq_some_iff.1 bY).1).trans bY
      replace bT:=(hbv.block _ (Array.getElem?_eq_some_iff.1 bT).1).trans bT
      have HBv:=ae (am (ab HBu) hbv)
      have HRv:Hid (bV wv a3 0 []∧bV wv a7 R2.length R2):=ae ⟨(ab HRu).1.below hbv,(ab HRu).2.below hbv⟩
      clear HBu HRu hbv
      obtain⟨cj0,cj1,cj2,cj3,cj4,cj5,cj6,cj7,cj8,cj9⟩:=cT bJ
      obtain⟨cx0,cx1,cx2,cx3,cx4⟩:=Go.Proofs.YtdmhihcipkhecaaGreat.c5 bX
      obtain⟨cy0,cy1⟩:=Go.Proofs.YtdmhihcipkhecaaGreat.c2 bY
      obtain⟨ct0,ct1⟩:=Go.Proofs.YtdmhihcipkhecaaGreat.c2 bT
      cases io with
      |false=>
       go_wp2
       go_ret
       exact⟨rfl,by repeat(first|(with_reducible exact ab HBv)|(with_reducible refine aZ ?_ _)|(with_reducible refine ap ?_))⟩
      |true=>
       obtain⟨hT,_⟩:=jN (ab HIR)
       have h9:=(ab HN2).symm.trans (end_take (ab HOB) (ab HIR) hT)
       simp only[Prod.mk.injEq]at h9
       obtain⟨rfl,rfl,rfl,h94⟩:=h9
       have hLl:L2.length=(aW k z q x2).length:=by rw[h94,List.length_map]
       have hWl:(eT s t k z q l e v r x2).length=L2.length:=by rw[gL (ga (ab HOB)) (jh hT.1 hT.2),hLl]
       have hWb:=winsOf_len k z q x2
       simp only[List.length_nil]at*
       clear HN2 h94
       go_wp2_with fail
       refine(jV 1000 a7 a3 0 c7 c3 [] _ (ab HRv).2 (ab HRv).1).mono ?_
       rintro e' wx ⟨rfl,hbx⟩
       clear cj0 cj1 cj2 cj3 cj4 cj5 cj6 cj7 cj8 cj9 cx0 cx1 cx2 cx3 cx4 cy0 cy1 ct0 ct1 bT
       replace bJ:=(hbx.block _ (Array.getElem?_eq_some_iff.1 bJ).1).trans bJ
       replace bX:=(hbx.block _ (Array.getElem?_eq_some_iff.1 bX).1).trans bX
       replace bY:=(hbx.block _ (Array.getElem?_eq_some_iff.1 bY).1).trans bY
       have HBx:=ae (am (ab HBv) hbx)
       clear HBv HRv hbx
       obtain⟨cj0,cj1,cj2,cj3,cj4,cj5,cj6,cj7,cj8,cj9⟩:=cT bJ
       obtain⟨cx0,cx1,cx2,cx3,cx4⟩:=Go.Proofs.YtdmhihcipkhecaaGreat.c5 bX
       obtain⟨cy0,cy1⟩:=Go.Proofs.YtdmhihcipkhecaaGreat.c2 bY
       go_wp2_with fail
       refine(gy s t k z q l e b v r x2 _).mono ?_
       rintro e' wy ⟨vw,rfl,hOw,hby⟩
       obtain⟨aw,cw,rfl,_⟩:=holdWn hOw (by omega)
       rw[hWl]
       clear cj0 cj1 cj2 cj3 cj4 cj5 cj6 cj7 cj8 cj9 cx0 cx1 cx2 cx3 cx4 cy0 cy1 hOw
       replace bJ:=(hby.block _ (Array.getElem?_eq_some_iff.1 bJ).1).trans bJ
       replace bX:=(hby.block _ (Array.getElem?_eq_some_iff.1 bX).1).trans bX
       replace bY:=(hby.block _ (Array.getElem?_eq_some_iff.1 bY).1).trans bY
       have HBy:=ae (am (ab HBx) hby)
       clear HBx hby
       obtain⟨cy0,cy1⟩:=Go.Proofs.YtdmhihcipkhecaaGreat.c2 bY
       go_wp2
       go_ret
       exact⟨rfl,by repeat(first|(with_reducible exact ab HBy)|(with_reducible refine aZ ?_ _)|(with_reducible refine ap ?_))⟩
end Go.Proofs.YtdmhihcipkhecaaGreat
