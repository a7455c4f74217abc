/- Laid together: what the claim needs of the texts that were built one by one. -/
import Derived.Test.YtdmhihcipkhecaaR24
import Derived.Test.YtdmhihcipkhecaaR25
import Derived.Test.YtdmhihcipkhecaaR15
import Derived.BigQuiet
import Derived.Test.YtdmhihcipkhecaaR0
set_option linter.unusedVariables false
namespace Go.Proofs.Ytdmhihcipkhecaa
open Go.ChangeShapes Go.WideShapes Go.ChangeAt Go.RowKit Go.Shelf Go.Maps
set_option linter.unusedSimpArgs false
set_option maxRecDepth 100000 in
set_option maxHeartbeats 16000000 in
theorem lawOpMark(a:Option Addr)(len cap:Nat)(w:World)(hlc:len≤cap)(hmx:len≤maxLen)(hb:ck w a len)(hl:∀g o,a=some ⟨g,o,none⟩→0<len→g<w.heap.size)(hn:a=none→cap=0):Calls Try.prog 3 #[.slice a len cap] w fun e' w'=>e'= .returned (.bool true)∧Below w.heap.size w w':=by
 unfold maxLen at hmx
 go_enter Try.func3,Try.ntmps3
 by_cases hm:len≤1048576
 rotate_left
 ·have hd:decide ((1048576:Int)<(len:Int))=true:=by simp;omega
  have hd2:decide (1048576<len)=true:=by simp;omega
  go_wp2_with fail
  go_ret
  exact⟨rfl,Below.refl _ _⟩
 ·have hd:decide ((1048576:Int)<(len:Int))=false:=by simp;omega
  have hd2:decide (1048576<len)=false:=by simp;omega
  go_wp2_with fail
  clear hd hd2
  refine(drawmk_any a len cap _ hlc hm hb hl hn).mono ?_
  rintro e' w1 ⟨s,t,k,z,q,l,e,b,v,r,m,au,cu,xs,mk,rfl,hO,hxl,hmb,hkb,hb1⟩
  clear hb hl hn
  have hbw2:Below w1.heap.size w1 ((w1.alloc (.cells #[.int .i64 s,.int .i64 t,.int .i64 k,.int .i64 z,.int .i64 q,.int .i64 l,.int .i64 e,.bool b,.int .i64 v,.int .i64 r] 24)).alloc (.cells #[.int .i64 m,.slice au xs.length cu] 27)):=af (ax _ _) _
  have HB2:=ae (ap hb1 hbw2)
  have HBJ:=ae (show((w1.alloc (.cells #[.int .i64 s,.int .i64 t,.int .i64 k,.int .i64 z,.int .i64 q,.int .i64 l,.int .i64 e,.bool b,.int .i64 v,.int .i64 r] 24)).alloc (.cells #[.int .i64 m,.slice au xs.length cu] 27)).heap[w1.heap.size]? =some (.cells #[.int .i64 s,.int .i64 t,.int .i64 k,.int .i64 z,.int .i64 q,.int .i64 l,.int .i64 e,.bool b,.int .i64 v,.int .i64 r] 24 (0,0))from aN<|(by have h9:=World.alloc_heap_new w1 (.cells #[.int .i64 s,.int .i64 t,.int .i64 k,.int .i64 z,.int .i64 q,.int .i64 l,.int .i64 e,.bool b,.int .i64 v,.int .i64 r] 24);exact h9))
  have HBS:=ae (show((w1.alloc (.cells #[.int .i64 s,.int .i64 t,.int .i64 k,.int .i64 z,.int .i64 q,.int .i64 l,.int .i64 e,.bool b,.int .i64 v,.int .i64 r] 24)).alloc (.cells #[.int .i64 m,.slice au xs.length cu] 27)).heap[w1.heap.size+1]? =some (.cells #[.int .i64 m,.slice au xs.length cu] 27 (0,0))from nA)
  have HR0:Hid (bw ((w1.alloc (.cells #[.int .i64 s,.int .i64 t,.int .i64 k,.int .i64 z,.int .i64 q,.int .i64 l,.int .i64 e,.bool b,.int .i64 v,.int .i64 r] 24)).alloc (.cells #[.int .i64 m,.slice au xs.length cu] 27)) au xs.length xs):=ae (by
   obtain⟨a9,c9,e9,h1,h2,_⟩:=dS hO (by omega)
   simp at e9
   obtain⟨rfl,rfl⟩:=e9
   exact h1.below hbw2)
  obtain⟨M,R,P,hN0⟩:∃M R P,bA s t k z q l e b v r m xs mk=(M,R,P):=⟨_,_,_,rfl⟩
  have hle:=mk_le s t k z q l e b v r m xs mk
  rw[hN0]at hle
  obtain⟨hlR,hlP⟩:=hle
  dsimp only at hlR hlP
  have HN:=ae hN0
  clear hN0 hO hb1 hbw2
  go_upto_region 4 with fail
  have bJ:=ab HBJ
  have bS:=ab HBS
  clear HBJ HBS
  generalize w1.heap.size+1=XS at bS ⊢
  generalize w1.heap.size=XJ at bJ ⊢
  generalize ((w1.alloc (.cells #[.int .i64 s,.int .i64 t,.int .i64 k,.int .i64 z,.int .i64 q,.int .i64 l,.int .i64 e,.bool b,.int .i64 v,.int .i64 r] 24)).alloc (.cells #[.int .i64 m,.slice au xs.length cu] 27))=w2 at HB2 bJ bS HR0 ⊢
  obtain⟨cj0,cj1,cj2,cj3,cj4,cj5,cj6,cj7,cj8,cj9⟩:=bH bJ
  obtain⟨cs0,cs1⟩:=Go.Proofs.Ytdmhihcipkhecaa.c2 bS
  go_wp2_with fail
  refine(implmark_eq s t k z q l e b v r m au xs.length cu xs mk _ (ab HR0) (by omega) HN).mono ?_
  rintro e' w3 ⟨a3,c3,pa3,pc3,rfl,hO3,hP3,hb3⟩
  clear cj0 cj1 cj2 cj3 cj4 cj5 cj6 cj7 cj8 cj9 cs0 cs1
  replace bJ:=(hb3.block _ (Array.getElem?_eq_some_iff.1 bJ).1).trans bJ
  replace bS:=(hb3.block _ (Array.getElem?_eq_some_iff.1 bS).1).trans bS
  have HB3:Hid (Below w.heap.size w w3):=ae (ap (ab HB2) hb3)
  have HR3:=ae ((ab HR0).below hb3)
  have HO3:=ae hO3
  have HL3:=ae hP3
  clear HB2 HR0 hb3 hO3 hP3
  have HY:=ae (World.alloc_heap_new w3 (.cells #[.int .i64 M,.slice a3 R.length c3] 27))
  have hbY:=ae (ax w3 (.cells #[.int .i64 M,.slice a3 R.length c3] 27))
  go_upto_region 5 with fail
  have bY:=ab HY
  replace bJ:=((ab hbY).block _ (Array.getElem?_eq_some_iff.1 bJ).1).trans bJ
  replace bS:=((ab hbY).block _ (Array.getElem?_eq_some_iff.1 bS).1).trans bS
  have HB4:Hid (Below w.heap.size w (w3.alloc (.cells #[.int .i64 M,.slice a3 R.length c3] 27))):=ae (ap (ab HB3) (ab hbY))
  have HR4:=ae ((ab HR3).below (ab hbY))
  have HO4:Hid (aR (w3.alloc (.cells #[.int .i64 M,.slice a3 R.length c3] 27)) w2.heap.size (.slice a3 R.length c3) R):=ae (World.ownsRow.alloc (ab HO3) _)
  have HL4:Hid (aS (w3.alloc (.cells #[.int .i64 M,.slice a3 R.length c3] 27)) w2.heap.size (.slice pa3 P.length pc3) P):=ae (World.ownsRow.alloc (ab HL3) _)
  clear HY hbY HB3 HR3 HO3 HL3
  generalize w3.heap.size=XY at bY ⊢
  generalize w3.alloc (.cells #[.int .i64 M,.slice a3 R.length c3] 27)=w4 at HB4 HR4 HO4 HL4 bJ bS bY ⊢
  obtain⟨cj0,cj1,cj2,cj3,cj4,cj5,cj6,cj7,cj8,cj9⟩:=bH bJ
  obtain⟨cs0,cs1⟩:=Go.Proofs.Ytdmhihcipkhecaa.c2 bS
  go_wp2_with fail
  refine(specmark_eq s t k z q l e b v r m au xs.length cu xs mk _ (ab HR4) (by omega) HN).mono ?_
  rintro e' w5 ⟨a5,c5,pa5,pc5,rfl,hO5,hP5,hb5⟩
  clear cj0 cj1 cj2 cj3 cj4 cj5 cj6 cj7 cj8 cj9 cs0 cs1
  replace bJ:=(hb5.block _ (Array.getElem?_eq_some_iff.1 bJ).1).trans bJ
  replace bS:=(hb5.block _ (Array.getElem?_eq_some_iff.1 bS).1).trans bS
  replace bY:=(hb5.block _ (Array.getElem?_eq_some_iff.1 bY).1).trans bY
  have HB5:Hid (Below w.heap.size w w5):=ae (ap (ab HB4) hb5)
  have HR5:=ae ((ab HR4).below hb5)
  have HO5:Hid (aR w5 w2.heap.size (.slice a3 R.length c3) R):=ae (aU (ab HO4) (aJ hb5) (fun _ e9=>by cases e9))
  have HL5:Hid (aS w5 w2.heap.size (.slice pa3 P.length pc3) P):=ae (aU (ab HL4) (aJ hb5) (fun _ e9=>by cases e9))
  have HP5:=ae hO5
  have HQ5:=ae hP5
  clear HB4 HR4 HO4 HL4 hb5 hO5 hP5
  have HZ:=ae (World.alloc_heap_new w5 (.cells #[.int .i64 M,.slice a5 R.length c5] 27))
  have hbZ:=ae (ax w5 (.cells #[.int .i64 M,.slice a5 R.length c5] 27))
  go_upto_region 6 with fail
  have bZ:=ab HZ
  replace bJ:=((ab hbZ).block _ (Array.getElem?_eq_some_iff.1 bJ).1).trans bJ
  replace bS:=((ab hbZ).block _ (Array.getElem?_eq_some_iff.1 bS).1).trans bS
  replace bY:=((ab hbZ).block _ (Array.getElem?_eq_some_iff.1 bY).1).trans bY
  have HB6:Hid (Below w.heap.size w (w5.alloc (.cells #[.int .i64 M,.slice a5 R.length c5] 27))):=ae (ap (ab HB5) (ab hbZ))
  have HR6:Hid (bw (w5.alloc (.cells #[.int .i64 M,.slice a5 R.length c5] 27)) au xs.length xs∧bw (w5.alloc (.cells #[.int .i64 M,.slice a5 R.length c5] 27)) a3 R.length R∧bw (w5.alloc (.cells #[.int .i64 M,.slice a5 R.length c5] 27)) a5 R.length R∧eQ (w5.alloc (.cells #[.int .i64 M,.slice a5 R.length c5] 27)) pa3 P.length P∧eQ (w5.alloc (.cells #[.int .i64 M,.slice a5 R.length c5] 27)) pa5 P.length P):=ae (by
   have o1:=dS (World.ownsRow.alloc (ab HO5) (.cells #[.int .i64 M,.slice a5 R.length c5] 27):aR _ _ _ R) (by omega)
   have o2:=dS (World.ownsRow.alloc (ab HP5) (.cells #[.int .i64 M,.slice a5 R.length c5] 27):aR _ _ _ R) (by omega)
   have o3:=kj (World.ownsRow.alloc (ab HL5) (.cells #[.int .i64 M,.slice a5 R.length c5] 27):aS _ _ _ P) (by omega)
   have o4:=kj (World.ownsRow.alloc (ab HQ5) (.cells #[.int .i64 M,.slice a5 R.length c5] 27):aS _ _ _ P) (by omega)
   obtain⟨u1,v1,e1,h1,_⟩:=o1
   obtain⟨u2,v2,e2,h2,_⟩:=o2
   obtain⟨u3,v3,e3,h3,_⟩:=o3
   obtain⟨u4,v4,e4,h4,_⟩:=o4
   simp at e1 e2 e3 e4
   obtain⟨rfl,rfl⟩:=e1
   obtain⟨rfl,rfl⟩:=e2
   obtain⟨rfl,rfl⟩:=e3
   obtain⟨rfl,rfl⟩:=e4
   exact⟨(ab HR5).below (ab hbZ),h1,h2,h3,h4⟩)
  clear HZ hbZ HB5 HR5 HO5 HL5 HP5 HQ5
  generalize w5.heap.size=XZ at bZ ⊢
  generalize w5.alloc (.cells #[.int .i64 M,.slice a5 R.length c5] 27)=w6 at HB6 HR6 bJ bS bY bZ ⊢
  obtain⟨cy0,cy1⟩:=Go.Proofs.Ytdmhihcipkhecaa.c2 bY
  obtain⟨cz0,cz1⟩:=Go.Proofs.Ytdmhihcipkhecaa.c2 bZ
  go_wp2_with fail
  refine(fM M a3 a5 R.length c3 c5 R _ (ab HR6).2.1 (ab HR6).2.2.1).mono ?_
  rintro e' w7 ⟨rfl,hb7⟩
  clear cy0 cy1 cz0 cz1 bZ
  replace bJ:=(hb7.block _ (Array.getElem?_eq_some_iff.1 bJ).1).trans bJ
  replace bS:=(hb7.block _ (Array.getElem?_eq_some_iff.1 bS).1).trans bS
  replace bY:=(hb7.block _ (Array.getElem?_eq_some_iff.1 bY).1).trans bY
  have HB7:Hid (Below w.heap.size w w7):=ae (ap (ab HB6) hb7)
  have HR7:Hid (bw w7 au xs.length xs∧bw w7 a3 R.length R∧bw w7 a5 R.length R∧eQ w7 pa3 P.length P∧eQ w7 pa5 P.length P):=ae ⟨(ab HR6).1.below hb7,(ab HR6).2.1.below hb7,(ab HR6).2.2.1.below hb7,(ab HR6).2.2.2.1.below hb7,(ab HR6).2.2.2.2.below hb7⟩
  clear HB6 HR6 hb7
  go_wp2_with fail
  refine(frpanes_any pa3 pa5 P.length pc3 pc5 P _ (ab HR7).2.2.2.1 (ab HR7).2.2.2.2).mono ?_
  rintro e' w8 ⟨rfl,hb8⟩
  replace bJ:=(hb8.block _ (Array.getElem?_eq_some_iff.1 bJ).1).trans bJ
  replace bS:=(hb8.block _ (Array.getElem?_eq_some_iff.1 bS).1).trans bS
  replace bY:=(hb8.block _ (Array.getElem?_eq_some_iff.1 bY).1).trans bY
  have HB8:Hid (Below w.heap.size w w8):=ae (ap (ab HB7) hb8)
  have HR8:Hid (bw w8 au xs.length xs∧bw w8 a3 R.length R∧bw w8 a5 R.length R∧eQ w8 pa3 P.length P∧eQ w8 pa5 P.length P):=ae ⟨(ab HR7).1.below hb8,(ab HR7).2.1.below hb8,(ab HR7).2.2.1.below hb8,(ab HR7).2.2.2.1.below hb8,(ab HR7).2.2.2.2.below hb8⟩
  clear HB7 HR7 hb8
  obtain⟨cj0,cj1,cj2,cj3,cj4,cj5,cj6,cj7,cj8,cj9⟩:=bH bJ
  obtain⟨cs0,cs1⟩:=Go.Proofs.Ytdmhihcipkhecaa.c2 bS
  obtain⟨ob,hob⟩:∃ob,bT s t k z q l e v r m xs=ob:=⟨_,rfl⟩
  have HOB:=ae hob
  clear hob
  go_wp2_with fail
  refine(fI s t k z q l e b v r m au xs.length cu xs _ (ab HR8).1 HOB).mono ?_
  rintro e' w9 ⟨rfl,hb9⟩
  clear cj0 cj1 cj2 cj3 cj4 cj5 cj6 cj7 cj8 cj9 cs0 cs1
  replace bJ:=(hb9.block _ (Array.getElem?_eq_some_iff.1 bJ).1).trans bJ
  replace bS:=(hb9.block _ (Array.getElem?_eq_some_iff.1 bS).1).trans bS
  replace bY:=(hb9.block _ (Array.getElem?_eq_some_iff.1 bY).1).trans bY
  have HB9:Hid (Below w.heap.size w w9):=ae (ap (ab HB8) hb9)
  have HR9:Hid (bw w9 au xs.length xs∧bw w9 a3 R.length R∧bw w9 a5 R.length R∧eQ w9 pa3 P.length P∧eQ w9 pa5 P.length P):=ae ⟨(ab HR8).1.below hb9,(ab HR8).2.1.below hb9,(ab HR8).2.2.1.below hb9,(ab HR8).2.2.2.1.below hb9,(ab HR8).2.2.2.2.below hb9⟩
  clear HB8 HR8 hb9
  obtain⟨cj0,cj1,cj2,cj3,cj4,cj5,cj6,cj7,cj8,cj9⟩:=bH bJ
  obtain⟨cs0,cs1⟩:=Go.Proofs.Ytdmhihcipkhecaa.c2 bS
  obtain⟨cy0,cy1⟩:=Go.Proofs.Ytdmhihcipkhecaa.c2 bY
  cases ob with
  |false=>
   have h9:=(ab HN).symm.trans (mark_no (by rw[ab HOB];rfl))
   simp only[Prod.mk.injEq]at h9
   obtain⟨rfl,rfl,rfl⟩:=h9
   simp only[List.length_nil]at*
   clear HN
   go_wp2_with fail
   refine(fM 0 a3 none 0 c3 0 [] _ (ab HR9).2.1 (orNil _)).mono ?_
   rintro e' wj ⟨rfl,hbj⟩
   have HBj:=ae (ap (ab HB9) hbj)
   go_wp2_with fail
   refine(jr _).mono ?_
   rintro e' wk ⟨rfl,hbk⟩
   go_wp2_with fail
   go_ret
   exact⟨rfl,ap (ab HBj) hbk⟩
  |true=>
   by_cases hin:bz mk 0 1000=true
   rotate_left
   ·have hin2:bz mk 0 1000=false:=by simpa using hin
    have h9:=(ab HN).symm.trans (mark_no (by rw[ab HOB,hin2];rfl))
    simp only[Prod.mk.injEq]at h9
    obtain⟨rfl,rfl,rfl⟩:=h9
    simp only[List.length_nil]at*
    clear hin
    rcases inB_niff.1 hin2 with hlo|hhi
    ·have hd1:decide (mk<0)=true:=decide_eq_true hlo
     clear hin2
     clear HN
     go_wp2_with fail
     refine(fM 0 a3 none 0 c3 0 [] _ (ab HR9).2.1 (orNil _)).mono ?_
     rintro e' wj ⟨rfl,hbj⟩
     have HBj:=ae (ap (ab HB9) hbj)
     go_wp2_with fail
     refine(jr _).mono ?_
     rintro e' wk ⟨rfl,hbk⟩
     go_wp2_with fail
     go_ret
     exact⟨rfl,ap (ab HBj) hbk⟩
    ·have hd1:decide (mk<0)=false:=decide_eq_false (by omega)
     have hd2:decide ((1000:Int)<mk)=true:=decide_eq_true hhi
     clear hin2
     clear HN
     go_wp2_with fail
     refine(fM 0 a3 none 0 c3 0 [] _ (ab HR9).2.1 (orNil _)).mono ?_
     rintro e' wj ⟨rfl,hbj⟩
     have HBj:=ae (ap (ab HB9) hbj)
     go_wp2_with fail
     refine(jr _).mono ?_
     rintro e' wk ⟨rfl,hbk⟩
     go_wp2_with fail
     go_ret
     exact⟨rfl,ap (ab HBj) hbk⟩
   ·obtain⟨hk0,hk1⟩:=bB.1 hin
    have hd1:decide (mk<0)=false:=decide_eq_false (by omega)
    have hd2:decide ((1000:Int)<mk)=false:=decide_eq_false (by omega)
    have HIN:=ae hin
    clear hin
    by_cases hmm:m<mk
    rotate_left
    ·have hd3:decide (mk≤m)=true:=decide_eq_true (by omega)
     have h9:=(ab HN).symm.trans (mark_old (ab HOB) (ab HIN) hmm)
     simp only[Prod.mk.injEq]at h9
     obtain⟨rfl,rfl,rfl⟩:=h9
     simp only[List.length_nil]at*
     go_wp2_with fail
     refine(fM _ a3 au _ c3 cu _ _ (ab HR9).2.1 (ab HR9).1).mono ?_
     rintro e' wj ⟨rfl,hbj⟩
     go_wp2_with fail
     go_ret
     exact⟨rfl,ap (ab HB9) hbj⟩
    ·have hd3:decide (mk≤m)=false:=decide_eq_false (by omega)
     have h9:=(ab HN).symm.trans (mark_new (ab HOB) (ab HIN) hmm)
     simp only[Prod.mk.injEq]at h9
     obtain⟨h90,h91,h92⟩:=h9
     have HRe:Hid (R=aW l mk xs):=ae h91
     have HPe:Hid (P=bg b mk xs):=ae h92
     obtain⟨hx3,hll,hmb2,hokx,hrs⟩:=eT (ab HOB)
     have HOX:=ae hokx
     have HJB:=ae bJ
     have HSB:=ae bS
     have HYB:=ae bY
     clear h90 h91 h92 hrs hokx HN HIN
     go_upto_region 12 with fail
     clear cj0 cj1 cj2 cj3 cj4 cj5 cj6 cj7 cj8 cj9 cs0 cs1 cy0 cy1 bJ bS bY
     go_wp2
     go_loopw [10,11,12] (fun nv kv iv wr=>∃ix:Nat,ix≤xs.length∧iv= .int .i64 ix∧nv= .int .i64 (fd mk xs ix:Nat)∧kv= .int .i64 (fe l mk xs ix:Nat)∧Below w9.heap.size w9 wr) (fun _ _ iv _=>xs.length - (intOf iv).toNat)
     case atStart=>exact⟨0,Nat.zero_le _,rfl,rfl,rfl,Below.refl _ _⟩
     case round=>
      obtain⟨ix,hk,rfl,rfl,rfl,hbw⟩:=hrel
      have bJ:=(hbw.block _ (Array.getElem?_eq_some_iff.1 (ab HJB)).1).trans (ab HJB)
      have bS:=(hbw.block _ (Array.getElem?_eq_some_iff.1 (ab HSB)).1).trans (ab HSB)
      have bY:=(hbw.block _ (Array.getElem?_eq_some_iff.1 (ab HYB)).1).trans (ab HYB)
      have cj5:=cA bJ 5
      obtain⟨cs0,cs1⟩:=Go.Proofs.Ytdmhihcipkhecaa.c2 bS
      obtain⟨cy0,cy1⟩:=Go.Proofs.Ytdmhihcipkhecaa.c2 bY
      simp only[gA,gZ,gS]at cj5
      have zJ:XJ<wr.heap.size:=(Array.getElem?_eq_some_iff.1 bJ).1
      have zS:XS<wr.heap.size:=(Array.getElem?_eq_some_iff.1 bS).1
      have zY:XY<wr.heap.size:=(Array.getElem?_eq_some_iff.1 bY).1
      have hnle:=nTel_le mk xs ix
      have hkle:=nLft_le l mk xs ix
      by_cases hlt:ix<xs.length
      ·obtain⟨x,hx⟩:∃x,xs[ix]? =some x:=⟨_,List.getElem?_eq_getElem (by omega)⟩
       have hXb:=dl (ab HOX x (List.mem_of_getElem? hx))
       obtain⟨hxk,⟨hxs0,hxs1,hxs2⟩,hxf,hxt,hxm,hxtm,_⟩:=hXb
       obtain⟨gr,or_,hau,hrA⟩:=(ab HR9).1.2.2.resolve_left (by omega)
       subst hau
       obtain⟨c0,c1,c2,c3x,c4,c5x,c6,c7,c8,c9x,bH,c11,c12⟩:=(hrA ix _ hx).below hbw (hrA ix _ hx).lt
       have zr:gr<wr.heap.size:=Nat.lt_of_lt_of_le (hrA ix _ hx).lt hbw.size
       have HX:=ae hx
       have hltI:(ix:Int)<(xs.length:Int):=by omega
       have htt:=ae hxtm
       clear hrA hx hxtm
       have HTE:=ae (tel_iff (mark:=mk) (x:=x))
       have hwe:IntKind.i64.wrap (x.en+l)=x.en+l:=IntWalk.i64_in _ ⟨by omega,by omega⟩
       by_cases hlf:mk<x.en+l
       ·clear bJ bS bY
        have hd5:decide (mk<x.en+l)=true:=decide_eq_true hlf
        have HNL:=ae (nLft_s (ab HX) hlf)
        obtain⟨f1,f2,f3,f4,f5,f6,hfnd⟩:=found_is (ab HOB) (ab HX) hlf
        rw[←ab HRe]at hfnd
        have HF:=ae hfnd
        clear hfnd
        by_cases htl:cT mk x=true
        ·obtain⟨htm,hen⟩:=(ab HTE).1 htl
         have hd4:decide (x.en≤mk)=true:=decide_eq_true hen
         have hP:=ae (pan_at b (ab HX) htl)
         have HNT:=ae (nTel_s (ab HX) htl)
         have htd:x.td=0:=by
          have h9:=ab HOX x (List.mem_of_getElem? (ab HX))
          obtain⟨ky,st,en,an,asu,ale,amo,fn,fsu,fle,fmo,td,tm⟩:=x
          dsimp only at htm
          subst htm
          exact td_zero h9
         have hPl:fd mk xs ix<P.length:=by
          have h9:=ab hP
          rw[←ab HPe]at h9
          exact(List.getElem?_eq_some_iff.1 h9).1
         obtain⟨gp,op,hpa,hpA⟩:=(ab HR9).2.2.2.1.2.2.resolve_left (by omega)
         subst hpa
         have hP2:P[fd mk xs ix]? =some (ga b x):=by rw[ab HPe];exact ab hP
         have hpr:=hpA _ _ hP2
         obtain⟨p0,p1,p2,p3,p4,_⟩:=hpr.below hbw hpr.lt
         have zp:gp<wr.heap.size:=Nat.lt_of_lt_of_le hpr.lt hbw.size
         simp only[ga,htd]at p0 p1 p2 p3 p4
         obtain⟨nn,hnn⟩:∃nn,nn=fd mk xs ix:=⟨_,rfl⟩
         rw[←hnn]at p0 p1 p2 p3 p4 hPl HNT ⊢
         have hd6:decide ((P.length:Int)≤(nn:Int))=false:=decide_eq_false (by omega)
         have hd7:decide (P.length≤nn)=false:=decide_eq_false (by omega)
         have hnI:(nn:Int)<(P.length:Int):=by omega
         have hnx:nn≤xs.length:=by omega
         clear hpA hP2 hpr hP htl htd hen hnn hnle
         have hwn:IntKind.i64.wrap ((nn:Int)+1)=(nn:Int)+1:=IntWalk.i64_in _ ⟨by omega,by omega⟩
         have hwk:IntKind.i64.wrap ((fe l mk xs ix:Int)+1)=(fe l mk xs ix:Int)+1:=IntWalk.i64_in _ ⟨by omega,by omega⟩
         go_wp2_with fail
         go_quiet (fail)
         go_wp2_with fail
         refine(ff M a3 R.length c3 R x.ky x.st x.en _ ((ab HR9).2.1.below (by repeat(first|(with_reducible exact hbw)|(with_reducible refine af ?_ _)|(with_reducible refine aQ ?_ _)|(with_reducible refine aq ?_)))) HF).mono ?_
         rintro e' wf ⟨rfl,hbf⟩
         obtain⟨hcf,hff,hsf⟩:=aC hbf
         have HBF:=ae hbf
         have hb9f:Below w9.heap.size w9 wf:=(by repeat(first|(with_reducible exact hbw)|(with_reducible refine af ?_ _)|(with_reducible refine aQ ?_ _)|(with_reducible refine aq ?_)|(with_reducible refine ap ?_ hbf)))
         have bYf:=(hb9f.block _ (Array.getElem?_eq_some_iff.1 (ab HYB)).1).trans (ab HYB)
         have zYf:XY<wf.heap.size:=(Array.getElem?_eq_some_iff.1 bYf).1
         obtain⟨cyf0,cyf1⟩:=Go.Proofs.Ytdmhihcipkhecaa.c2 bYf
         have zRf:wr.heap.size<wf.heap.size:=(by have h9:=hbf.size;simp at h9;omega)
         have rf3:wf.cell? ⟨wr.heap.size,3,none⟩=some (.int .i64 x.an):=(hcf _ _ (by simp)).trans (ne)
         have rf4:wf.cell? ⟨wr.heap.size,4,none⟩=some (.int .i64 x.asu):=(hcf _ _ (by simp)).trans (ne)
         have rf5:wf.cell? ⟨wr.heap.size,5,none⟩=some (.int .i64 x.ale):=(hcf _ _ (by simp)).trans (ne)
         have rf6:wf.cell? ⟨wr.heap.size,6,none⟩=some (.int .i64 x.amo):=(hcf _ _ (by simp)).trans (ne)
         clear hbf bYf hb9f
         go_wp2_with fail
         refine(fh M a3 R.length c3 R x.ky x.st x.en _ ((ab HR9).2.1.below (by repeat(first|(with_reducible exact hbw)|(with_reducible refine af ?_ _)|(with_reducible refine aQ ?_ _)|(with_reducible refine aq ?_)|(with_reducible refine ap ?_ (ab HBF))))) HF).mono ?_
         rintro e' wg ⟨rfl,hbg⟩
         obtain⟨hcg,hfg,hsg⟩:=aC hbg
         have HBG:=ae hbg
         have zRg:wr.heap.size<wg.heap.size:=(by have h9:=hbg.size;simp at h9;omega)
         have zQg:wf.heap.size<wg.heap.size:=(by have h9:=hbg.size;simp at h9;omega)
         have rg3:wg.cell? ⟨wr.heap.size,3,none⟩=some (.int .i64 x.an):=(hcg _ _ (nh)).trans (((ax wf _).cell (p:=⟨wr.heap.size,3,none⟩) zRf).trans rf3)
         have rg4:wg.cell? ⟨wr.heap.size,4,none⟩=some (.int .i64 x.asu):=(hcg _ _ (nh)).trans (((ax wf _).cell (p:=⟨wr.heap.size,4,none⟩) zRf).trans rf4)
         have rg5:wg.cell? ⟨wr.heap.size,5,none⟩=some (.int .i64 x.ale):=(hcg _ _ (nh)).trans (((ax wf _).cell (p:=⟨wr.heap.size,5,none⟩) zRf).trans rf5)
         have rg6:wg.cell? ⟨wr.heap.size,6,none⟩=some (.int .i64 x.amo):=(hcg _ _ (nh)).trans (((ax wf _).cell (p:=⟨wr.heap.size,6,none⟩) zRf).trans rf6)
         have qg0:wg.cell? ⟨wf.heap.size,0,none⟩=some (.int .i64 x.ky):=(hcg _ _ (by simp)).trans (ne)
         have qg1:wg.cell? ⟨wf.heap.size,1,none⟩=some (.int .i64 x.st):=(hcg _ _ (by simp)).trans (ne)
         have qg2:wg.cell? ⟨wf.heap.size,2,none⟩=some (.int .i64 x.en):=(hcg _ _ (by simp)).trans (ne)
         have qg3:wg.cell? ⟨wf.heap.size,3,none⟩=some (.int .i64 x.an):=(hcg _ _ (by simp)).trans (ne)
         have qg4:wg.cell? ⟨wf.heap.size,4,none⟩=some (.int .i64 x.asu):=(hcg _ _ (by simp)).trans (ne)
         have qg5:wg.cell? ⟨wf.heap.size,5,none⟩=some (.int .i64 x.ale):=(hcg _ _ (by simp)).trans (ne)
         have qg6:wg.cell? ⟨wf.heap.size,6,none⟩=some (.int .i64 x.amo):=(hcg _ _ (by simp)).trans (ne)
         have qg7:wg.cell? ⟨wf.heap.size,7,none⟩=some (.int .i64 f1):=(hcg _ _ (by simp)).trans (ne)
         have qg8:wg.cell? ⟨wf.heap.size,8,none⟩=some (.int .i64 f2):=(hcg _ _ (by simp)).trans (ne)
         have qg9:wg.cell? ⟨wf.heap.size,9,none⟩=some (.int .i64 f3):=(hcg _ _ (by simp)).trans (ne)
         have qg10:wg.cell? ⟨wf.heap.size,10,none⟩=some (.int .i64 f4):=(hcg _ _ (by simp)).trans (ne)
         have qg11:wg.cell? ⟨wf.heap.size,11,none⟩=some (.int .i64 f5):=(hcg _ _ (by simp)).trans (ne)
         have qg12:wg.cell? ⟨wf.heap.size,12,none⟩=some (.bool f6):=(hcg _ _ (by simp)).trans (ne)
         clear hbg hcg hcf
         go_wp2
         go_roundw
         case rel=>exact⟨ix+1,by omega,by go_num,(by rw[ab HNT];try go_num),(by rw[ab HNL];try go_num),(by repeat(first|(with_reducible exact hbw)|(with_reducible refine af ?_ _)|(with_reducible refine aQ ?_ _)|(with_reducible refine aq ?_)|(with_reducible refine ap ?_ (ab HBF))|(with_reducible refine ap ?_ (ab HBG))))⟩
         case measure=>simp[intOf];omega
        ·have htl2:cT mk x=false:=by simpa using htl
         have HNT:=ae (nTel_n (ab HX) htl2)
         have htm:x.tm=true∨(x.tm=false∧decide (x.en≤mk)=false):=by
          cases h8:x.tm
          ·exact Or.inr ⟨rfl,decide_eq_false (fun h9=>htl ((ab HTE).2 ⟨h8,h9⟩))⟩
          ·exact Or.inl rfl
         clear htl htl2
         have hwk:IntKind.i64.wrap ((fe l mk xs ix:Int)+1)=(fe l mk xs ix:Int)+1:=IntWalk.i64_in _ ⟨by omega,by omega⟩
         rcases htm with htm|⟨htm,hd4⟩
         ·skip
          go_wp2_with fail
          refine(ff M a3 R.length c3 R x.ky x.st x.en _ ((ab HR9).2.1.below (by repeat(first|(with_reducible exact hbw)|(with_reducible refine af ?_ _)|(with_reducible refine aQ ?_ _)|(with_reducible refine aq ?_)))) HF).mono ?_
          rintro e' wf ⟨rfl,hbf⟩
          obtain⟨hcf,hff,hsf⟩:=aC hbf
          have HBF:=ae hbf
          have hb9f:Below w9.heap.size w9 wf:=(by repeat(first|(with_reducible exact hbw)|(with_reducible refine af ?_ _)|(with_reducible refine aQ ?_ _)|(with_reducible refine aq ?_)|(with_reducible refine ap ?_ hbf)))
          have bYf:=(hb9f.block _ (Array.getElem?_eq_some_iff.1 (ab HYB)).1).trans (ab HYB)
          have zYf:XY<wf.heap.size:=(Array.getElem?_eq_some_iff.1 bYf).1
          obtain⟨cyf0,cyf1⟩:=Go.Proofs.Ytdmhihcipkhecaa.c2 bYf
          have zRf:wr.heap.size<wf.heap.size:=(by have h9:=hbf.size;simp at h9;omega)
          have rf3:wf.cell? ⟨wr.heap.size,3,none⟩=some (.int .i64 x.an):=(hcf _ _ (by simp)).trans (ne)
          have rf4:wf.cell? ⟨wr.heap.size,4,none⟩=some (.int .i64 x.asu):=(hcf _ _ (by simp)).trans (ne)
          have rf5:wf.cell? ⟨wr.heap.size,5,none⟩=some (.int .i64 x.ale):=(hcf _ _ (by simp)).trans (ne)
          have rf6:wf.cell? ⟨wr.heap.size,6,none⟩=some (.int .i64 x.amo):=(hcf _ _ (by simp)).trans (ne)
          clear hbf bYf hb9f
          go_wp2_with fail
          refine(fh M a3 R.length c3 R x.ky x.st x.en _ ((ab HR9).2.1.below (by repeat(first|(with_reducible exact hbw)|(with_reducible refine af ?_ _)|(with_reducible refine aQ ?_ _)|(with_reducible refine aq ?_)|(with_reducible refine ap ?_ (ab HBF))))) HF).mono ?_
          rintro e' wg ⟨rfl,hbg⟩
          obtain⟨hcg,hfg,hsg⟩:=aC hbg
          have HBG:=ae hbg
          have zRg:wr.heap.size<wg.heap.size:=(by have h9:=hbg.size;simp at h9;omega)
          have zQg:wf.heap.size<wg.heap.size:=(by have h9:=hbg.size;simp at h9;omega)
          have rg3:wg.cell? ⟨wr.heap.size,3,none⟩=some (.int .i64 x.an):=(hcg _ _ (nh)).trans (((ax wf _).cell (p:=⟨wr.heap.size,3,none⟩) zRf).trans rf3)
          have rg4:wg.cell? ⟨wr.heap.size,4,none⟩=some (.int .i64 x.asu):=(hcg _ _ (nh)).trans (((ax wf _).cell (p:=⟨wr.heap.size,4,none⟩) zRf).trans rf4)
          have rg5:wg.cell? ⟨wr.heap.size,5,none⟩=some (.int .i64 x.ale):=(hcg _ _ (nh)).trans (((ax wf _).cell (p:=⟨wr.heap.size,5,none⟩) zRf).trans rf5)
          have rg6:wg.cell? ⟨wr.heap.size,6,none⟩=some (.int .i64 x.amo):=(hcg _ _ (nh)).trans (((ax wf _).cell (p:=⟨wr.heap.size,6,none⟩) zRf).trans rf6)
          have qg0:wg.cell? ⟨wf.heap.size,0,none⟩=some (.int .i64 x.ky):=(hcg _ _ (by simp)).trans (ne)
          have qg1:wg.cell? ⟨wf.heap.size,1,none⟩=some (.int .i64 x.st):=(hcg _ _ (by simp)).trans (ne)
          have qg2:wg.cell? ⟨wf.heap.size,2,none⟩=some (.int .i64 x.en):=(hcg _ _ (by simp)).trans (ne)
          have qg3:wg.cell? ⟨wf.heap.size,3,none⟩=some (.int .i64 x.an):=(hcg _ _ (by simp)).trans (ne)
          have qg4:wg.cell? ⟨wf.heap.size,4,none⟩=some (.int .i64 x.asu):=(hcg _ _ (by simp)).trans (ne)
          have qg5:wg.cell? ⟨wf.heap.size,5,none⟩=some (.int .i64 x.ale):=(hcg _ _ (by simp)).trans (ne)
          have qg6:wg.cell? ⟨wf.heap.size,6,none⟩=some (.int .i64 x.amo):=(hcg _ _ (by simp)).trans (ne)
          have qg7:wg.cell? ⟨wf.heap.size,7,none⟩=some (.int .i64 f1):=(hcg _ _ (by simp)).trans (ne)
          have qg8:wg.cell? ⟨wf.heap.size,8,none⟩=some (.int .i64 f2):=(hcg _ _ (by simp)).trans (ne)
          have qg9:wg.cell? ⟨wf.heap.size,9,none⟩=some (.int .i64 f3):=(hcg _ _ (by simp)).trans (ne)
          have qg10:wg.cell? ⟨wf.heap.size,10,none⟩=some (.int .i64 f4):=(hcg _ _ (by simp)).trans (ne)
          have qg11:wg.cell? ⟨wf.heap.size,11,none⟩=some (.int .i64 f5):=(hcg _ _ (by simp)).trans (ne)
          have qg12:wg.cell? ⟨wf.heap.size,12,none⟩=some (.bool f6):=(hcg _ _ (by simp)).trans (ne)
          clear hbg hcg hcf
          go_wp2
          go_roundw
          case rel=>exact⟨ix+1,by omega,by go_num,(by rw[ab HNT];try go_num),(by rw[ab HNL];try go_num),(by repeat(first|(with_reducible exact hbw)|(with_reducible refine af ?_ _)|(with_reducible refine aQ ?_ _)|(with_reducible refine aq ?_)|(with_reducible refine ap ?_ (ab HBF))|(with_reducible refine ap ?_ (ab HBG))))⟩
          case measure=>simp[intOf];omega
         ·skip
          go_wp2_with fail
          refine(ff M a3 R.length c3 R x.ky x.st x.en _ ((ab HR9).2.1.below (by repeat(first|(with_reducible exact hbw)|(with_reducible refine af ?_ _)|(with_reducible refine aQ ?_ _)|(with_reducible refine aq ?_)))) HF).mono ?_
          rintro e' wf ⟨rfl,hbf⟩
          obtain⟨hcf,hff,hsf⟩:=aC hbf
          have HBF:=ae hbf
          have hb9f:Below w9.heap.size w9 wf:=(by repeat(first|(with_reducible exact hbw)|(with_reducible refine af ?_ _)|(with_reducible refine aQ ?_ _)|(with_reducible refine aq ?_)|(with_reducible refine ap ?_ hbf)))
          have bYf:=(hb9f.block _ (Array.getElem?_eq_some_iff.1 (ab HYB)).1).trans (ab HYB)
          have zYf:XY<wf.heap.size:=(Array.getElem?_eq_some_iff.1 bYf).1
          obtain⟨cyf0,cyf1⟩:=Go.Proofs.Ytdmhihcipkhecaa.c2 bYf
          have zRf:wr.heap.size<wf.heap.size:=(by have h9:=hbf.size;simp at h9;omega)
          have rf3:wf.cell? ⟨wr.heap.size,3,none⟩=some (.int .i64 x.an):=(hcf _ _ (by simp)).trans (ne)
          have rf4:wf.cell? ⟨wr.heap.size,4,none⟩=some (.int .i64 x.asu):=(hcf _ _ (by simp)).trans (ne)
          have rf5:wf.cell? ⟨wr.heap.size,5,none⟩=some (.int .i64 x.ale):=(hcf _ _ (by simp)).trans (ne)
          have rf6:wf.cell? ⟨wr.heap.size,6,none⟩=some (.int .i64 x.amo):=(hcf _ _ (by simp)).trans (ne)
          clear hbf bYf hb9f
          go_wp2_with fail
          refine(fh M a3 R.length c3 R x.ky x.st x.en _ ((ab HR9).2.1.below (by repeat(first|(with_reducible exact hbw)|(with_reducible refine af ?_ _)|(with_reducible refine aQ ?_ _)|(with_reducible refine aq ?_)|(with_reducible refine ap ?_ (ab HBF))))) HF).mono ?_
          rintro e' wg ⟨rfl,hbg⟩
          obtain⟨hcg,hfg,hsg⟩:=aC hbg
          have HBG:=ae hbg
          have zRg:wr.heap.size<wg.heap.size:=(by have h9:=hbg.size;simp at h9;omega)
          have zQg:wf.heap.size<wg.heap.size:=(by have h9:=hbg.size;simp at h9;omega)
          have rg3:wg.cell? ⟨wr.heap.size,3,none⟩=some (.int .i64 x.an):=(hcg _ _ (nh)).trans (((ax wf _).cell (p:=⟨wr.heap.size,3,none⟩) zRf).trans rf3)
          have rg4:wg.cell? ⟨wr.heap.size,4,none⟩=some (.int .i64 x.asu):=(hcg _ _ (nh)).trans (((ax wf _).cell (p:=⟨wr.heap.size,4,none⟩) zRf).trans rf4)
          have rg5:wg.cell? ⟨wr.heap.size,5,none⟩=some (.int .i64 x.ale):=(hcg _ _ (nh)).trans (((ax wf _).cell (p:=⟨wr.heap.size,5,none⟩) zRf).trans rf5)
          have rg6:wg.cell? ⟨wr.heap.size,6,none⟩=some (.int .i64 x.amo):=(hcg _ _ (nh)).trans (((ax wf _).cell (p:=⟨wr.heap.size,6,none⟩) zRf).trans rf6)
          have qg0:wg.cell? ⟨wf.heap.size,0,none⟩=some (.int .i64 x.ky):=(hcg _ _ (by simp)).trans (ne)
          have qg1:wg.cell? ⟨wf.heap.size,1,none⟩=some (.int .i64 x.st):=(hcg _ _ (by simp)).trans (ne)
          have qg2:wg.cell? ⟨wf.heap.size,2,none⟩=some (.int .i64 x.en):=(hcg _ _ (by simp)).trans (ne)
          have qg3:wg.cell? ⟨wf.heap.size,3,none⟩=some (.int .i64 x.an):=(hcg _ _ (by simp)).trans (ne)
          have qg4:wg.cell? ⟨wf.heap.size,4,none⟩=some (.int .i64 x.asu):=(hcg _ _ (by simp)).trans (ne)
          have qg5:wg.cell? ⟨wf.heap.size,5,none⟩=some (.int .i64 x.ale):=(hcg _ _ (by simp)).trans (ne)
          have qg6:wg.cell? ⟨wf.heap.size,6,none⟩=some (.int .i64 x.amo):=(hcg _ _ (by simp)).trans (ne)
          have qg7:wg.cell? ⟨wf.heap.size,7,none⟩=some (.int .i64 f1):=(hcg _ _ (by simp)).trans (ne)
          have qg8:wg.cell? ⟨wf.heap.size,8,none⟩=some (.int .i64 f2):=(hcg _ _ (by simp)).trans (ne)
          have qg9:wg.cell? ⟨wf.heap.size,9,none⟩=some (.int .i64 f3):=(hcg _ _ (by simp)).trans (ne)
          have qg10:wg.cell? ⟨wf.heap.size,10,none⟩=some (.int .i64 f4):=(hcg _ _ (by simp)).trans (ne)
          have qg11:wg.cell? ⟨wf.heap.size,11,none⟩=some (.int .i64 f5):=(hcg _ _ (by simp)).trans (ne)
          have qg12:wg.cell? ⟨wf.heap.size,12,none⟩=some (.bool f6):=(hcg _ _ (by simp)).trans (ne)
          clear hbg hcg hcf
          go_wp2
          go_roundw
          case rel=>exact⟨ix+1,by omega,by go_num,(by rw[ab HNT];try go_num),(by rw[ab HNL];try go_num),(by repeat(first|(with_reducible exact hbw)|(with_reducible refine af ?_ _)|(with_reducible refine aQ ?_ _)|(with_reducible refine aq ?_)|(with_reducible refine ap ?_ (ab HBF))|(with_reducible refine ap ?_ (ab HBG))))⟩
          case measure=>simp[intOf];omega
       ·clear bJ bS bY
        have hd5:decide (mk<x.en+l)=false:=decide_eq_false hlf
        have HNL:=ae (nLft_n (ab HX) hlf)
        by_cases htl:cT mk x=true
        ·obtain⟨htm,hen⟩:=(ab HTE).1 htl
         have hd4:decide (x.en≤mk)=true:=decide_eq_true hen
         have hP:=ae (pan_at b (ab HX) htl)
         have HNT:=ae (nTel_s (ab HX) htl)
         have htd:x.td=0:=by
          have h9:=ab HOX x (List.mem_of_getElem? (ab HX))
          obtain⟨ky,st,en,an,asu,ale,amo,fn,fsu,fle,fmo,td,tm⟩:=x
          dsimp only at htm
          subst htm
          exact td_zero h9
         have hPl:fd mk xs ix<P.length:=by
          have h9:=ab hP
          rw[←ab HPe]at h9
          exact(List.getElem?_eq_some_iff.1 h9).1
         obtain⟨gp,op,hpa,hpA⟩:=(ab HR9).2.2.2.1.2.2.resolve_left (by omega)
         subst hpa
         have hP2:P[fd mk xs ix]? =some (ga b x):=by rw[ab HPe];exact ab hP
         have hpr:=hpA _ _ hP2
         obtain⟨p0,p1,p2,p3,p4,_⟩:=hpr.below hbw hpr.lt
         have zp:gp<wr.heap.size:=Nat.lt_of_lt_of_le hpr.lt hbw.size
         simp only[ga,htd]at p0 p1 p2 p3 p4
         obtain⟨nn,hnn⟩:∃nn,nn=fd mk xs ix:=⟨_,rfl⟩
         rw[←hnn]at p0 p1 p2 p3 p4 hPl HNT ⊢
         have hd6:decide ((P.length:Int)≤(nn:Int))=false:=decide_eq_false (by omega)
         have hd7:decide (P.length≤nn)=false:=decide_eq_false (by omega)
         have hnI:(nn:Int)<(P.length:Int):=by omega
         have hnx:nn≤xs.length:=by omega
         clear hpA hP2 hpr hP htl htd hen hnn hnle
         have hwn:IntKind.i64.wrap ((nn:Int)+1)=(nn:Int)+1:=IntWalk.i64_in _ ⟨by omega,by omega⟩
         have hwk:IntKind.i64.wrap ((fe l mk xs ix:Int)+1)=(fe l mk xs ix:Int)+1:=IntWalk.i64_in _ ⟨by omega,by omega⟩
         go_wp2_with fail
         go_quiet (fail)
         go_wp2
         go_roundw
         case rel=>exact⟨ix+1,by omega,by go_num,(by rw[ab HNT];try go_num),(by rw[ab HNL];try go_num),(by repeat(first|(with_reducible exact hbw)|(with_reducible refine af ?_ _)|(with_reducible refine aQ ?_ _)|(with_reducible refine aq ?_)))⟩
         case measure=>simp[intOf];omega
        ·have htl2:cT mk x=false:=by simpa using htl
         have HNT:=ae (nTel_n (ab HX) htl2)
         have htm:x.tm=true∨(x.tm=false∧decide (x.en≤mk)=false):=by
          cases h8:x.tm
          ·exact Or.inr ⟨rfl,decide_eq_false (fun h9=>htl ((ab HTE).2 ⟨h8,h9⟩))⟩
          ·exact Or.inl rfl
         clear htl htl2
         have hwk:IntKind.i64.wrap ((fe l mk xs ix:Int)+1)=(fe l mk xs ix:Int)+1:=IntWalk.i64_in _ ⟨by omega,by omega⟩
         rcases htm with htm|⟨htm,hd4⟩
         ·skip
          go_wp2
          go_roundw
          case rel=>exact⟨ix+1,by omega,by go_num,(by rw[ab HNT];try go_num),(by rw[ab HNL];try go_num),(by repeat(first|(with_reducible exact hbw)|(with_reducible refine af ?_ _)|(with_reducible refine aQ ?_ _)|(with_reducible refine aq ?_)))⟩
          case measure=>simp[intOf];omega
         ·skip
          go_wp2
          go_roundw
          case rel=>exact⟨ix+1,by omega,by go_num,(by rw[ab HNT];try go_num),(by rw[ab HNL];try go_num),(by repeat(first|(with_reducible exact hbw)|(with_reducible refine af ?_ _)|(with_reducible refine aQ ?_ _)|(with_reducible refine aq ?_)))⟩
          case measure=>simp[intOf];omega
      ·obtain rfl:ix=xs.length:=by omega
       have e1:fd mk xs xs.length=P.length:=by rw[ab HPe];exact nTel_end b mk (Nat.le_refl _)
       have e2:fe l mk xs xs.length=R.length:=by rw[ab HRe];exact nLft_end l mk (Nat.le_refl _)
       rw[e1,e2]
       clear bJ bS bY e1 e2
       have hbF:=ap (ab HB9) hbw
       go_wp2
       go_ret
       exact⟨rfl,by repeat(first|(with_reducible exact hbF)|(with_reducible refine aQ ?_ _)|(with_reducible refine aq ?_))⟩
end Go.Proofs.Ytdmhihcipkhecaa
