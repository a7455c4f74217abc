/- Laid together: what the claim needs of the texts that were built one by one. -/
import Derived.Test.YtdmhihcipkhecaaGreatT3
import Derived.Test.YtdmhihcipkhecaaGreatT13
import Derived.Deep.DeepCutAuto
import Derived.Test.YtdmhihcipkhecaaGreatT0
import Derived.Test.YtdmhihcipkhecaaGreatT12
import Derived.Test.YtdmhihcipkhecaaGreatT5
import Derived.Test.YtdmhihcipkhecaaGreatT11
import Derived.Deep.RegionHeld3
import Derived.Lib.SmallJoins
import Derived.RangeFuncLeaves
set_option linter.unusedVariables false
namespace Go.Proofs.YtdmhihcipkhecaaGreat
open Go.ChangeShapes Go.WideShapes Go.ChangeAt Go.RowKit
theorem fT(s t k z p l e:Int)(b:Bool)(v r:Int)(m:Int)(a:Option Addr)(len cap:Nat)(xs:List aC)(w:World){ob:Bool}(h:cO w a len xs)(hV:Hid (cB s t k z p l e v r m xs=ob)):Calls Tryz.prog 16 #[.agg #[.int .i64 s,.int .i64 t,.int .i64 k,.int .i64 z,.int .i64 p,.int .i64 l,.int .i64 e,.bool b,.int .i64 v,.int .i64 r],.agg #[.int .i64 m,.slice a len cap]] w fun e' w'=>e'= .returned (.bool ob)∧Below w.heap.size w w':=by
 rw[←ab hV];exact lG s t k z p l e b v r m a len cap xs w h
theorem implopok_eq(s t k z p l e:Int)(b:Bool)(v r:Int)(m:Int)(a:Option Addr)(len cap:Nat)(xs:List aC)(w:World){ob:Bool}(h:cO w a len xs)(hV:Hid (cB s t k z p l e v r m xs=ob)):Calls Tryz.prog 17 #[.agg #[.int .i64 s,.int .i64 t,.int .i64 k,.int .i64 z,.int .i64 p,.int .i64 l,.int .i64 e,.bool b,.int .i64 v,.int .i64 r],.agg #[.int .i64 m,.slice a len cap]] w fun e' w'=>e'= .returned (.bool ob)∧Below w.heap.size w w':=by
 rw[←ab hV];exact lf s t k z p l e b v r m a len cap xs w h
end Go.Proofs.YtdmhihcipkhecaaGreat
namespace Go.Proofs.YtdmhihcipkhecaaGreat
open Go.ChangeShapes Go.WideShapes Go.ChangeAt Go.RowKit Go.Shelf Go.Maps
set_option linter.unusedSimpArgs false
def ep(s t k z q l e v r m:Int)(xs:List aC)(x1 x2 x3 x4 x5:Int):Bool:=cB s t k z q l e v r m xs&&(dd x1 x2 x3 x4 x5&&decide (xs.length≤280))
def de(s t k z q l e:Int)(b:Bool)(v r m:Int)(xs:List aC)(x1 x2 x3 x4 x5:Int):Int×List aC×List cY×List gv:=if ep s t k z q l e v r m xs x1 x2 x3 x4 x5=true then(m,(cm (decide (k=3)) b l m x3 x4 xs (aQ k z q x2)).1,(cm (decide (k=3)) b l m x3 x4 xs (aQ k z q x2)).2.1,(cm (decide (k=3)) b l m x3 x4 xs (aQ k z q x2)).2.2.map (eH x1 x2 x3 x4 x5))else(0,[],[],[])
theorem slide_ge{z p t:Int}(hp:0≤p):∀(n:Nat) (s:Int),∀x ∈ bj z p t n s,s≤x.a
 |0,_,x,hx=>by cases hx
 |n+1,s,x,hx=>by
  have ih:=slide_ge (z:=z) (t:=t) hp n (s+p)
  unfold bj at hx
  split at hx
  ·split at hx
   ·rcases List.mem_cons.1 hx with rfl|hx
    ·exact Int.le_refl _
    ·have:=ih x hx;omega
   ·have:=ih x hx;omega
  ·cases hx
theorem jJ{z p t:Int}(hp:1≤p):∀(n:Nat) (s:Int),(bj z p t n s).Pairwise (fun x y=>x.a<y.a)
 |0,_=>List.Pairwise.nil
 |n+1,s=>by
  unfold bj
  split
  ·split
   ·refine List.pairwise_cons.2 ⟨fun y hy=>?_,jJ hp n (s+p)⟩
    have:=slide_ge (z:=z) (t:=t) (by omega:0≤p) n (s+p) y hy
    show s<y.a
    omega
   ·exact jJ hp n (s+p)
  ·exact List.Pairwise.nil
theorem wins_pw{s t k z p l e v r T ky:Int}(hj:aV s t k z p l e v r=true):decide (k=3)=false→(aQ k z p T).Pairwise (fun x y=>bQ (ky,x.a,x.b) (ky,y.a,y.b)):=by
 intro h3
 obtain⟨hk,hz,hp⟩:=bN hj
 have hk3:¬ k=3:=by simpa using h3
 unfold aQ
 split
 ·exact List.pairwise_singleton _ _
 ·(try rw[if_neg hk3])
  have hp1:1≤p:=by
   unfold fD at hp
   split at hp
   ·simp only[Bool.and_eq_true]at hp
    exact(br.1 hp.1).1
   ·omega
  exact(jJ hp1 61 0).imp (fun{x y} hxy=> .inr ⟨rfl,.inl hxy⟩)
theorem isRec_bd{x1 x2 x3 x4 x5:Int}(h:dd x1 x2 x3 x4 x5=true):(0≤x2∧x2≤60)∧(0≤x3∧x3≤3):=by
 unfold dd at h
 simp only[Bool.and_eq_true]at h
 have h9:=h.2
 unfold dg at h9
 simp only[Bool.and_eq_true]at h9
 exact⟨br.1 (by first|exact h9.1.1.1|exact h9.1.1|exact h9.1),br.1 (by first|exact h9.1.1.2|exact h9.1.2|exact h9.2.1)⟩
theorem takB_of{s t k z q l e v r m:Int}{xs:List aC}{x1 x2 x3 x4 x5:Int}(h1:cB s t k z q l e v r m xs=true)(h2:dd x1 x2 x3 x4 x5=true)(h3:xs.length≤280):ep s t k z q l e v r m xs x1 x2 x3 x4 x5=true:=by
 unfold ep
 simp[h1,h2,h3]
theorem fx{s t k z q l e:Int}{b:Bool}{v r m:Int}{xs:List aC}{x1 x2 x3 x4 x5:Int}(h:ep s t k z q l e v r m xs x1 x2 x3 x4 x5=false):de s t k z q l e b v r m xs x1 x2 x3 x4 x5=(0,[],[],[]):=by
 unfold de
 rw[h]
 rfl
theorem fl{s t k z q l e v r m:Int}{xs:List aC}(h:cB s t k z q l e v r m xs=true):aV s t k z q l e v r=true:=by
 unfold cB at h
 simp only[Bool.and_eq_true,decide_eq_true_eq]at h
 exact h.1.1.1
set_option maxRecDepth 100000 in
set_option maxHeartbeats 8000000 in
theorem ic(s t k z q l e:Int)(b:Bool)(v r m:Int)(a:Option Addr)(len cap:Nat)(xs:List aC)(x1 x2 x3 x4 x5:Int)(w:World)(h:cO w a len xs):Calls Tryz.prog 9 #[.agg #[.int .i64 s,.int .i64 t,.int .i64 k,.int .i64 z,.int .i64 q,.int .i64 l,.int .i64 e,.bool b,.int .i64 v,.int .i64 r],.agg #[.int .i64 m,.slice a len cap],.agg #[.int .i64 x1,.int .i64 x2,.int .i64 x3,.int .i64 x4,.int .i64 x5]] w fun e' w'=>∃v1 v2 v3,e'= .returned (.tuple #[.agg #[.int .i64 (de s t k z q l e b v r m xs x1 x2 x3 x4 x5).1,v1],v2,v3])∧aS w' w.heap.size v1 (de s t k z q l e b v r m xs x1 x2 x3 x4 x5).2.1∧aR w' w.heap.size v2 (de s t k z q l e b v r m xs x1 x2 x3 x4 x5).2.2.1∧bT w' w.heap.size v3 (de s t k z q l e b v r m xs x1 x2 x3 x4 x5).2.2.2∧Below w.heap.size w w':=by
 have hxl:=h.1
 have hbE:Below w.heap.size w ((((w.alloc (.cells #[.int .i64 s,.int .i64 t,.int .i64 k,.int .i64 z,.int .i64 q,.int .i64 l,.int .i64 e,.bool b,.int .i64 v,.int .i64 r] 24)).alloc (.cells #[.int .i64 m,.slice a len cap] 27)).alloc (.cells #[.int .i64 x1,.int .i64 x2,.int .i64 x3,.int .i64 x4,.int .i64 x5] 29)).alloc (.cells #[.int .i64 0,.slice none 0 0] 27)):=ag (ag (ag (aq _ _) _) _) _
 have HE:=ae (h.below hbE)
 have eJ:((((w.alloc (.cells #[.int .i64 s,.int .i64 t,.int .i64 k,.int .i64 z,.int .i64 q,.int .i64 l,.int .i64 e,.bool b,.int .i64 v,.int .i64 r] 24)).alloc (.cells #[.int .i64 m,.slice a len cap] 27)).alloc (.cells #[.int .i64 x1,.int .i64 x2,.int .i64 x3,.int .i64 x4,.int .i64 x5] 29)).alloc (.cells #[.int .i64 0,.slice none 0 0] 27)).heap[w.heap.size]? =some (.cells #[.int .i64 s,.int .i64 t,.int .i64 k,.int .i64 z,.int .i64 q,.int .i64 l,.int .i64 e,.bool b,.int .i64 v,.int .i64 r] 24 (0,0)):=aN<|aN<|aN<|nA
 have eS:((((w.alloc (.cells #[.int .i64 s,.int .i64 t,.int .i64 k,.int .i64 z,.int .i64 q,.int .i64 l,.int .i64 e,.bool b,.int .i64 v,.int .i64 r] 24)).alloc (.cells #[.int .i64 m,.slice a len cap] 27)).alloc (.cells #[.int .i64 x1,.int .i64 x2,.int .i64 x3,.int .i64 x4,.int .i64 x5] 29)).alloc (.cells #[.int .i64 0,.slice none 0 0] 27)).heap[w.heap.size+1]? =some (.cells #[.int .i64 m,.slice a len cap] 27 (0,0)):=aN<|aN<|nA
 have eI:((((w.alloc (.cells #[.int .i64 s,.int .i64 t,.int .i64 k,.int .i64 z,.int .i64 q,.int .i64 l,.int .i64 e,.bool b,.int .i64 v,.int .i64 r] 24)).alloc (.cells #[.int .i64 m,.slice a len cap] 27)).alloc (.cells #[.int .i64 x1,.int .i64 x2,.int .i64 x3,.int .i64 x4,.int .i64 x5] 29)).alloc (.cells #[.int .i64 0,.slice none 0 0] 27)).heap[w.heap.size+1+1]? =some (.cells #[.int .i64 x1,.int .i64 x2,.int .i64 x3,.int .i64 x4,.int .i64 x5] 29 (0,0)):=aN<|nA
 have eR:((((w.alloc (.cells #[.int .i64 s,.int .i64 t,.int .i64 k,.int .i64 z,.int .i64 q,.int .i64 l,.int .i64 e,.bool b,.int .i64 v,.int .i64 r] 24)).alloc (.cells #[.int .i64 m,.slice a len cap] 27)).alloc (.cells #[.int .i64 x1,.int .i64 x2,.int .i64 x3,.int .i64 x4,.int .i64 x5] 29)).alloc (.cells #[.int .i64 0,.slice none 0 0] 27)).heap[w.heap.size+1+1+1]? =some (.cells #[.int .i64 0,.slice none 0 0] 27 (0,0)):=nA
 obtain⟨ob,hob⟩:∃ob,cB s t k z q l e v r m xs=ob:=⟨_,rfl⟩
 have HOB:=ae hob
 clear hob
 go_enter Tryz.func9,Tryz.ntmps9
 go_wp2_with fail
 refine(fT s t k z q l e b v r m _ _ _ xs _ (ab HE) HOB).mono ?_
 rintro e' w1 ⟨rfl,hb1⟩
 have bJ:=(hb1.block (w.heap.size) (sA)).trans eJ
 have bS:=(hb1.block (w.heap.size+1) (sA)).trans eS
 have bI:=(hb1.block (w.heap.size+1+1) (sA)).trans eI
 have bR:=(hb1.block (w.heap.size+1+1+1) (sA)).trans eR
 have hbw:Below w.heap.size w w1:=am hbE hb1
 have hz1:w.heap.size+4≤w1.heap.size:=by have:=hb1.size;simp at this;omega
 clear eJ eS eI eR HE hbE hb1
 have hnone:ep s t k z q l e v r m xs x1 x2 x3 x4 x5=false→∀(W:World) (v2 v3:Value),aR W w.heap.size v2 []→bT W w.heap.size v3 []→Below w.heap.size w W→∃v1 v4 v5,(Ending.returned (.tuple #[.agg #[.int .i64 0,.slice none 0 0],v2,v3]))= .returned (.tuple #[.agg #[.int .i64 (de s t k z q l e b v r m xs x1 x2 x3 x4 x5).1,v1],v4,v5])∧aS W w.heap.size v1 (de s t k z q l e b v r m xs x1 x2 x3 x4 x5).2.1∧aR W w.heap.size v4 (de s t k z q l e b v r m xs x1 x2 x3 x4 x5).2.2.1∧bT W w.heap.size v5 (de s t k z q l e b v r m xs x1 x2 x3 x4 x5).2.2.2∧Below w.heap.size w W:=by
  intro h9 W v2 v3 h2 h3 hW
  rw[fx h9]
  exact⟨_,_,_,rfl,World.ownsRow_nil _ _ _ _,h2,h3,hW⟩
 have zw0:w.heap.size<w1.heap.size:=by omega
 have zw1:w.heap.size+1<w1.heap.size:=by omega
 have zw2:w.heap.size+1+1<w1.heap.size:=by omega
 have zw3:w.heap.size+1+1+1<w1.heap.size:=by omega
 obtain⟨j0,j1,j2,j3,j4,j5,j6,j7,j8,j9⟩:=cZ bJ
 obtain⟨ss0,ss1⟩:=c2 bS
 obtain⟨ic0,ic1,ic2,ic3,ic4⟩:=c5 bI
 obtain⟨rr0,rr1⟩:=c2 bR
 obtain⟨rrf0,rrf1⟩:=f2 bR
 cases ob with
 |false=>
  have hno:=ae (hnone (by unfold ep;rw[ab HOB];rfl))
  have hbs:Below w.heap.size w ((w1.setCell ⟨w.heap.size+1+1+1,0,none⟩ (.int .i64 0)).setCell ⟨w.heap.size+1+1+1,1,none⟩ (.slice none 0 0)):=av (av hbw (sA) _) (sA) _
  have hO2:Hid (aR ((((w1.setCell ⟨w.heap.size+1+1+1,0,none⟩ (.int .i64 0)).setCell ⟨w.heap.size+1+1+1,1,none⟩ (.slice none 0 0)).alloc (.cells #[] 52)).alloc (.cells #[] 59)) w.heap.size (.slice (some ⟨w1.heap.size,0,none⟩) 0 0) []):=ae (World.ownsRow.alloc (cE (W:=((w1.setCell ⟨w.heap.size+1+1+1,0,none⟩ (.int .i64 0)).setCell ⟨w.heap.size+1+1+1,1,none⟩ (.slice none 0 0))) (B:=w.heap.size) _ _ (by have:=hbs.size;omega) (by simp)) _)
  have hO3:Hid (bT ((((w1.setCell ⟨w.heap.size+1+1+1,0,none⟩ (.int .i64 0)).setCell ⟨w.heap.size+1+1+1,1,none⟩ (.slice none 0 0)).alloc (.cells #[] 52)).alloc (.cells #[] 59)) w.heap.size (.slice (some ⟨w1.heap.size+1,0,none⟩) 0 0) []):=ae (cE (W:=(((w1.setCell ⟨w.heap.size+1+1+1,0,none⟩ (.int .i64 0)).setCell ⟨w.heap.size+1+1+1,1,none⟩ (.slice none 0 0)).alloc (.cells #[] 52))) (B:=w.heap.size) _ _ (by have:=hbs.size;simp at this ⊢;omega) (by simp))
  have hO4:Hid (Below w.heap.size w ((((w1.setCell ⟨w.heap.size+1+1+1,0,none⟩ (.int .i64 0)).setCell ⟨w.heap.size+1+1+1,1,none⟩ (.slice none 0 0)).alloc (.cells #[] 52)).alloc (.cells #[] 59))):=ae (ag (ag hbs _) _)
  clear hnone bJ bS bI bR hbs
  go_wp2
  refine bodyPost_ret (v:= .tuple #[.agg #[.int .i64 0,.slice none 0 0],.slice (some ⟨w1.heap.size,0,none⟩) 0 0,.slice (some ⟨w1.heap.size+1,0,none⟩) 0 0]) (nu) rfl ?_
  exact ab hno _ _ _ (ab hO2) (ab hO3) (ab hO4)
 |true=>
  by_cases hq:x1=1
  ·have kq:(x1==1)=true:=by simp[hq]
   have kn:(x1 != 1)=false:=by simp[hq]
   obtain⟨io,hio⟩:∃io,eF x1 x2 x3 x4 x5=io:=⟨_,rfl⟩
   have HIR:Hid (dd x1 x2 x3 x4 x5=io):=ae (by rw[←hio];unfold dd eF;rw[kq,if_pos hq];rfl)
   have HCI:=iR x1 x2 x3 x4 x5 w1
   rw[hio]at HCI
   have HCI2:=ae HCI
   clear hio hq HCI
   go_wp2_with fail
   refine(ab HCI2).mono ?_
   rintro e' w2 ⟨rfl,hb2⟩
   clear j0 j1 j2 j3 j4 j5 j6 j7 j8 j9 ss0 ss1 ic0 ic1 ic2 ic3 ic4 rr0 rr1 rrf0 rrf1 HCI2 zw0 zw1 zw2 zw3
   replace bJ:=(hb2.block (w.heap.size) (by omega)).trans bJ
   replace bS:=(hb2.block (w.heap.size+1) (by omega)).trans bS
   replace bI:=(hb2.block (w.heap.size+1+1) (by omega)).trans bI
   replace bR:=(hb2.block (w.heap.size+1+1+1) (by omega)).trans bR
   replace hbw:Below w.heap.size w w2:=am hbw hb2
   have zzw2:=hb2.size
   clear hb2
   have zw0:w.heap.size<w2.heap.size:=by omega
   have zw1:w.heap.size+1<w2.heap.size:=by omega
   have zw2:w.heap.size+1+1<w2.heap.size:=by omega
   have zw3:w.heap.size+1+1+1<w2.heap.size:=by omega
   obtain⟨j0,j1,j2,j3,j4,j5,j6,j7,j8,j9⟩:=cZ bJ
   obtain⟨ss0,ss1⟩:=c2 bS
   obtain⟨ic0,ic1,ic2,ic3,ic4⟩:=c5 bI
   obtain⟨rr0,rr1⟩:=c2 bR
   obtain⟨rrf0,rrf1⟩:=f2 bR
   cases io with
   |false=>
    have hno:=ae (hnone (by unfold ep;rw[ab HOB,ab HIR];rfl))
    have hbs:Below w.heap.size w ((w2.setCell ⟨w.heap.size+1+1+1,0,none⟩ (.int .i64 0)).setCell ⟨w.heap.size+1+1+1,1,none⟩ (.slice none 0 0)):=av (av hbw (sA) _) (sA) _
    have hO2:Hid (aR ((((w2.setCell ⟨w.heap.size+1+1+1,0,none⟩ (.int .i64 0)).setCell ⟨w.heap.size+1+1+1,1,none⟩ (.slice none 0 0)).alloc (.cells #[] 52)).alloc (.cells #[] 59)) w.heap.size (.slice (some ⟨w2.heap.size,0,none⟩) 0 0) []):=ae (World.ownsRow.alloc (cE (W:=((w2.setCell ⟨w.heap.size+1+1+1,0,none⟩ (.int .i64 0)).setCell ⟨w.heap.size+1+1+1,1,none⟩ (.slice none 0 0))) (B:=w.heap.size) _ _ (by have:=hbs.size;omega) (by simp)) _)
    have hO3:Hid (bT ((((w2.setCell ⟨w.heap.size+1+1+1,0,none⟩ (.int .i64 0)).setCell ⟨w.heap.size+1+1+1,1,none⟩ (.slice none 0 0)).alloc (.cells #[] 52)).alloc (.cells #[] 59)) w.heap.size (.slice (some ⟨w2.heap.size+1,0,none⟩) 0 0) []):=ae (cE (W:=(((w2.setCell ⟨w.heap.size+1+1+1,0,none⟩ (.int .i64 0)).setCell ⟨w.heap.size+1+1+1,1,none⟩ (.slice none 0 0)).alloc (.cells #[] 52))) (B:=w.heap.size) _ _ (by have:=hbs.size;simp at this ⊢;omega) (by simp))
    have hO4:Hid (Below w.heap.size w ((((w2.setCell ⟨w.heap.size+1+1+1,0,none⟩ (.int .i64 0)).setCell ⟨w.heap.size+1+1+1,1,none⟩ (.slice none 0 0)).alloc (.cells #[] 52)).alloc (.cells #[] 59))):=ae (ag (ag hbs _) _)
    clear hnone bJ bS bI bR hbs
    go_wp2
    refine bodyPost_ret (v:= .tuple #[.agg #[.int .i64 0,.slice none 0 0],.slice (some ⟨w2.heap.size,0,none⟩) 0 0,.slice (some ⟨w2.heap.size+1,0,none⟩) 0 0]) (nu) rfl ?_
    exact ab hno _ _ _ (ab hO2) (ab hO3) (ab hO4)
   |true=>
    by_cases hn:len≤280
    ·have kd:decide ((300:Int)<(len:Int)+20)=false:=by simp;omega
     have kd2:decide (300<len+20)=false:=by simp;omega
     have kw:IntKind.i64.wrap ((len:Int)+20)=(len:Int)+20:=IntWalk.i64_in _ ⟨by omega,by omega⟩
     obtain⟨hx3,hl,hmb,hokx,hrs⟩:=ga (ab HOB)
     have hj:=fl (ab HOB)
     obtain⟨hT,hx33⟩:=isRec_bd (ab HIR)
     have HTF:Hid (de s t k z q l e b v r m xs x1 x2 x3 x4 x5=(m,(cm (decide (k=3)) b l m x3 x4 xs (aQ k z q x2)).1,(cm (decide (k=3)) b l m x3 x4 xs (aQ k z q x2)).2.1,(cm (decide (k=3)) b l m x3 x4 xs (aQ k z q x2)).2.2.map (eH x1 x2 x3 x4 x5))):=ae (by unfold de;rw[takB_of (ab HOB) (ab HIR) (by omega)];rfl)
     have HBd:Hid (BdO 1500 xs):=ae (fun x hx=>by have h1:=(dY (hokx x hx)).2.1;have h2:=(dY (hokx x hx)).2.2.2.1;omega)
     clear hnone hokx hrs
     go_wp2_with fail
     clear j0 j1 j2 j3 j4 j5 j6 j7 j8 j9 ss0 ss1 ic0 ic1 ic2 ic3 ic4 rr0 rr1 rrf0 rrf1 kd kd2 kw
     refine wp_region_held_drew (S:=(fun W=>W.heap[w.heap.size]? =some (.cells #[.int .i64 s,.int .i64 t,.int .i64 k,.int .i64 z,.int .i64 q,.int .i64 l,.int .i64 e,.bool b,.int .i64 v,.int .i64 r] 24 (0,0))∧W.heap[w.heap.size+1]? =some (.cells #[.int .i64 m,.slice a len cap] 27 (0,0))∧W.heap[w.heap.size+1+1]? =some (.cells #[.int .i64 x1,.int .i64 x2,.int .i64 x3,.int .i64 x4,.int .i64 x5] 29 (0,0)))) (oc) ?_ (fun hHeld=>?_)
     ·((try dsimp only);exact⟨bJ,bS,bI⟩)
     refine kT 0 ?_ ?_ ?_
     rotate_left
     ·(intro w9 hSw;(try dsimp only at hSw);obtain⟨q0,q1,q2⟩:=hSw;obtain⟨ax0,ax1,ax2,ax3,ax4,ax5,ax6,ax7,ax8,ax9⟩:=cZ q0;go_simp<;>with_reducible rfl)
     try simp only[Act.put,tA,tZ,tS]
     refine kT 1 ?_ ?_ ?_
     rotate_left
     ·(intro w9 hSw;(try dsimp only at hSw);obtain⟨q0,q1,q2⟩:=hSw;obtain⟨bx0,bx1⟩:=c2 q1;go_simp<;>with_reducible rfl)
     try simp only[Act.put,tA,tZ,tS]
     refine kT 3 ?_ ?_ ?_
     rotate_left
     ·(intro w9 hSw;(try dsimp only at hSw);obtain⟨q0,q1,q2⟩:=hSw;obtain⟨cx0,cx1,cx2,cx3,cx4⟩:=c5 q2;go_simp<;>with_reducible rfl)
     try simp only[Act.put,tA,tZ,tS]
     refine rD 2 (fun K hK=>?_)
     go_simp
     (go_at_call 33;refine(eT m a len cap xs w2.drew (h.below (ap hbw)) (by omega)).mono ?_;rintro e9 w3 ⟨vc,rfl,hOc,hb3⟩)
     (try go_wp2_with fail)
     replace hb3:Below w2.heap.size w2 w3:=am (ap (Below.refl _ _)) hb3
     obtain⟨a1,c1,rfl⟩:=dr hOc
     have HOc:Hid (aS w3 w.heap.size (.slice a1 len c1) xs):=ae (by unfold aS;rw[hxl];exact World.ownsRow.mono hOc (by show w.heap.size≤w2.heap.size+2;omega))
     replace bJ:=(hb3.block (w.heap.size) (by omega)).trans bJ
     replace bS:=(hb3.block (w.heap.size+1) (by omega)).trans bS
     replace bI:=(hb3.block (w.heap.size+1+1) (by omega)).trans bI
     replace bR:=(hb3.block (w.heap.size+1+1+1) (by omega)).trans bR
     replace hbw:Below w.heap.size w w3:=am hbw hb3
     have zzw3:=hb3.size
     clear hOc hb3
     have HRw:=ae (ja (ab HOc) (by omega))
     clear hHeld
     refine hK.out _ _ ?_ (fun hHeld=>?_)
     ·((try dsimp only);exact⟨bJ,bS,bI⟩)
     clear hK K
     try simp only[Act.put,tA,tZ,tS]
     refine rD 4 (fun K hK=>?_)
     go_simp
     (go_at_call 32;refine(l7take_any s t k z q l e b v r m a1 len c1 xs x1 x2 x3 x4 x5 w3 (ab HRw) (by omega) hj hT (ab HBd)).mono ?_;rintro e9 w4 ⟨v1,v2,v3,rfl,hS4,hP4,hL4,hb4⟩)
     (try go_wp2_with fail)
     obtain⟨⟨ys,ps,lw⟩,hF⟩:∃r9,cm (decide (k=3)) b l m x3 x4 xs (aQ k z q x2)=r9:=⟨_,rfl⟩
     rw[hF]at hS4 hP4 hL4 HTF
     dsimp only at hS4 hP4 hL4
     have hO4:aS w4 w.heap.size v1 ys:=by
      rcases hS4 with⟨rfl,rfl⟩|h9
      ·exact aJ (ab HOc) (aB hb4) (fun _ e9=>by cases e9)
      ·exact World.ownsRow.mono h9 (by omega)
     obtain⟨a4,c4,rfl⟩:=dr hO4
     have HO4:=ae hO4
     have HP4:=ae (World.ownsRow.mono hP4 (show w.heap.size≤w3.heap.size by omega))
     have HL4:=ae (World.ownsRow.mono hL4 (show w.heap.size≤w3.heap.size by omega))
     replace bJ:=(hb4.block (w.heap.size) (by omega)).trans bJ
     replace bS:=(hb4.block (w.heap.size+1) (by omega)).trans bS
     replace bI:=(hb4.block (w.heap.size+1+1) (by omega)).trans bI
     replace bR:=(hb4.block (w.heap.size+1+1+1) (by omega)).trans bR
     replace hbw:Below w.heap.size w w4:=am hbw hb4
     have zzw4:=hb4.size
     clear hS4 hP4 hL4 hO4 hb4 hF
     clear hHeld
     refine hK.out _ _ ?_ (fun hHeld=>?_)
     ·((try dsimp only);exact⟨bJ,bS,bI⟩)
     clear hK K
     try simp only[Act.put,tA,tZ,tS]
     refine kV 5 ?_
     refine kV 6 ?_
     refine kV 7 ?_
     refine rD 8 (fun K hK=>?_)
     obtain⟨rr0,rr1⟩:=c2 bR
     obtain⟨rrf0,rrf1⟩:=f2 bR
     have zr4:w.heap.size+1+1+1<w4.heap.size:=by omega
     go_simp
     clear rr0 rr1 rrf0 rrf1
     have mJ:((w4.setCell ⟨w.heap.size+1+1+1,0,none⟩ (.int .i64 m)).setCell ⟨w.heap.size+1+1+1,1,none⟩ (.slice a4 ys.length c4)).heap[w.heap.size]? =some (.cells #[.int .i64 s,.int .i64 t,.int .i64 k,.int .i64 z,.int .i64 q,.int .i64 l,.int .i64 e,.bool b,.int .i64 v,.int .i64 r] 24 (0,0)):=(Below.heap_setCell _ _ _ _ (by show _≠w.heap.size+1+1+1;omega)).trans ((Below.heap_setCell _ _ _ _ (by show _≠w.heap.size+1+1+1;omega)).trans bJ)
     have mS:((w4.setCell ⟨w.heap.size+1+1+1,0,none⟩ (.int .i64 m)).setCell ⟨w.heap.size+1+1+1,1,none⟩ (.slice a4 ys.length c4)).heap[w.heap.size+1]? =some (.cells #[.int .i64 m,.slice a len cap] 27 (0,0)):=(Below.heap_setCell _ _ _ _ (by show _≠w.heap.size+1+1+1;omega)).trans ((Below.heap_setCell _ _ _ _ (by show _≠w.heap.size+1+1+1;omega)).trans bS)
     have mI:((w4.setCell ⟨w.heap.size+1+1+1,0,none⟩ (.int .i64 m)).setCell ⟨w.heap.size+1+1+1,1,none⟩ (.slice a4 ys.length c4)).heap[w.heap.size+1+1]? =some (.cells #[.int .i64 x1,.int .i64 x2,.int .i64 x3,.int .i64 x4,.int .i64 x5] 29 (0,0)):=(Below.heap_setCell _ _ _ _ (by show _≠w.heap.size+1+1+1;omega)).trans ((Below.heap_setCell _ _ _ _ (by show _≠w.heap.size+1+1+1;omega)).trans bI)
     have mR:((w4.setCell ⟨w.heap.size+1+1+1,0,none⟩ (.int .i64 m)).setCell ⟨w.heap.size+1+1+1,1,none⟩ (.slice a4 ys.length c4)).heap[w.heap.size+1+1+1]? =some (.cells #[.int .i64 m,(.slice a4 ys.length c4)] 27 (0,0)):=Joins.block_setCell (Joins.block_setCell bR _) _
     have hOF:=ae (al (p:=⟨w.heap.size+1+1+1,1,none⟩) (u:=(.slice a4 ys.length c4)) (al (p:=⟨w.heap.size+1+1+1,0,none⟩) (u:= .int .i64 m) (ab HO4) (af (ab HO4) bR (by decide))) (af (ab HO4) bR (by decide)))
     have hPF:=ae (al (p:=⟨w.heap.size+1+1+1,1,none⟩) (u:=(.slice a4 ys.length c4)) (al (p:=⟨w.heap.size+1+1+1,0,none⟩) (u:= .int .i64 m) (ab HP4) (af (ab HP4) bR (by decide))) (af (ab HP4) bR (by decide)))
     have hLF:=ae (al (p:=⟨w.heap.size+1+1+1,1,none⟩) (u:=(.slice a4 ys.length c4)) (al (p:=⟨w.heap.size+1+1+1,0,none⟩) (u:= .int .i64 m) (ab HL4) (af (ab HL4) bR (by decide))) (af (ab HL4) bR (by decide)))
     have hBF:=ae (av (p:=⟨w.heap.size+1+1+1,1,none⟩) (av (p:=⟨w.heap.size+1+1+1,0,none⟩) hbw (sA) (.int .i64 m)) (sA) (.slice a4 ys.length c4))
     clear hHeld
     refine hK.out _ _ ?_ (fun hHeld=>?_)
     ·((try dsimp only);exact⟨mJ,mS,mI⟩)
     clear hK K
     try simp only[Act.put,tA,tZ,tS]
     refine rD 9 (fun K hK=>?_)
     go_simp
     clear hHeld
     refine hK.out _ _ ?_ (fun hHeld=>?_)
     ·((try dsimp only);exact⟨mJ,mS,mI⟩)
     clear hK K
     try simp only[Act.put,tA,tZ,tS]
     refine rD 10 (fun K hK=>?_)
     go_simp
     clear hHeld
     refine hK.out _ _ ?_ (fun hHeld=>?_)
     ·((try dsimp only);exact⟨mJ,mS,mI⟩)
     clear hK K
     try simp only[Act.put,tA,tZ,tS]
     refine wpAnyH_done (oc) ?_ _
     clear hHeld mJ mS mI bJ bS bI bR
     generalize ((w4.setCell ⟨w.heap.size+1+1+1,0,none⟩ (.int .i64 m)).setCell ⟨w.heap.size+1+1+1,1,none⟩ (.slice a4 ys.length c4))=w5 at mR hOF hPF hLF hBF ⊢
     obtain⟨rr0,rr1⟩:=c2 mR
     clear mR
     go_wp2
     refine bodyPost_ret (v:= .tuple #[.agg #[.int .i64 m,(.slice a4 ys.length c4)],v2,v3]) (nu) rfl ?_
     rw[ab HTF]
     exact⟨_,_,_,rfl,ab hOF,ab hPF,ab hLF,ab hBF⟩
    ·have kd:decide ((300:Int)<(len:Int)+20)=true:=by simp;omega
     have kd2:decide (300<len+20)=true:=by simp;omega
     have kw:IntKind.i64.wrap ((len:Int)+20)=(len:Int)+20:=IntWalk.i64_in _ ⟨by have:=h.2.1;unfold maxLen at this;omega,by have:=h.2.1;unfold maxLen at this;have:=ga (ab HOB);omega⟩
     have hno:=ae (hnone (by unfold ep;rw[ab HOB,ab HIR];simp;omega))
     have hbs:Below w.heap.size w ((w2.setCell ⟨w.heap.size+1+1+1,0,none⟩ (.int .i64 0)).setCell ⟨w.heap.size+1+1+1,1,none⟩ (.slice none 0 0)):=av (av hbw (sA) _) (sA) _
     have hO2:Hid (aR ((((w2.setCell ⟨w.heap.size+1+1+1,0,none⟩ (.int .i64 0)).setCell ⟨w.heap.size+1+1+1,1,none⟩ (.slice none 0 0)).alloc (.cells #[] 52)).alloc (.cells #[] 59)) w.heap.size (.slice (some ⟨w2.heap.size,0,none⟩) 0 0) []):=ae (World.ownsRow.alloc (cE (W:=((w2.setCell ⟨w.heap.size+1+1+1,0,none⟩ (.int .i64 0)).setCell ⟨w.heap.size+1+1+1,1,none⟩ (.slice none 0 0))) (B:=w.heap.size) _ _ (by have:=hbs.size;omega) (by simp)) _)
     have hO3:Hid (bT ((((w2.setCell ⟨w.heap.size+1+1+1,0,none⟩ (.int .i64 0)).setCell ⟨w.heap.size+1+1+1,1,none⟩ (.slice none 0 0)).alloc (.cells #[] 52)).alloc (.cells #[] 59)) w.heap.size (.slice (some ⟨w2.heap.size+1,0,none⟩) 0 0) []):=ae (cE (W:=(((w2.setCell ⟨w.heap.size+1+1+1,0,none⟩ (.int .i64 0)).setCell ⟨w.heap.size+1+1+1,1,none⟩ (.slice none 0 0)).alloc (.cells #[] 52))) (B:=w.heap.size) _ _ (by have:=hbs.size;simp at this ⊢;omega) (by simp))
     have hO4:Hid (Below w.heap.size w ((((w2.setCell ⟨w.heap.size+1+1+1,0,none⟩ (.int .i64 0)).setCell ⟨w.heap.size+1+1+1,1,none⟩ (.slice none 0 0)).alloc (.cells #[] 52)).alloc (.cells #[] 59))):=ae (ag (ag hbs _) _)
     clear hnone bJ bS bI bR hbs
     go_wp2
     refine bodyPost_ret (v:= .tuple #[.agg #[.int .i64 0,.slice none 0 0],.slice (some ⟨w2.heap.size,0,none⟩) 0 0,.slice (some ⟨w2.heap.size+1,0,none⟩) 0 0]) (nu) rfl ?_
     exact ab hno _ _ _ (ab hO2) (ab hO3) (ab hO4)
  ·have kq:(x1==1)=false:=by simp[hq]
   have kn:(x1 != 1)=true:=by simp[hq]
   have HIR:Hid (dd x1 x2 x3 x4 x5=false):=ae (by unfold dd;rw[kq];rfl)
   clear hq
   have hno:=ae (hnone (by unfold ep;rw[ab HOB,ab HIR];rfl))
   have hbs:Below w.heap.size w ((w1.setCell ⟨w.heap.size+1+1+1,0,none⟩ (.int .i64 0)).setCell ⟨w.heap.size+1+1+1,1,none⟩ (.slice none 0 0)):=av (av hbw (sA) _) (sA) _
   have hO2:Hid (aR ((((w1.setCell ⟨w.heap.size+1+1+1,0,none⟩ (.int .i64 0)).setCell ⟨w.heap.size+1+1+1,1,none⟩ (.slice none 0 0)).alloc (.cells #[] 52)).alloc (.cells #[] 59)) w.heap.size (.slice (some ⟨w1.heap.size,0,none⟩) 0 0) []):=ae (World.ownsRow.alloc (cE (W:=((w1.setCell ⟨w.heap.size+1+1+1,0,none⟩ (.int .i64 0)).setCell ⟨w.heap.size+1+1+1,1,none⟩ (.slice none 0 0))) (B:=w.heap.size) _ _ (by have:=hbs.size;omega) (by simp)) _)
   have hO3:Hid (bT ((((w1.setCell ⟨w.heap.size+1+1+1,0,none⟩ (.int .i64 0)).setCell ⟨w.heap.size+1+1+1,1,none⟩ (.slice none 0 0)).alloc (.cells #[] 52)).alloc (.cells #[] 59)) w.heap.size (.slice (some ⟨w1.heap.size+1,0,none⟩) 0 0) []):=ae (cE (W:=(((w1.setCell ⟨w.heap.size+1+1+1,0,none⟩ (.int .i64 0)).setCell ⟨w.heap.size+1+1+1,1,none⟩ (.slice none 0 0)).alloc (.cells #[] 52))) (B:=w.heap.size) _ _ (by have:=hbs.size;simp at this ⊢;omega) (by simp))
   have hO4:Hid (Below w.heap.size w ((((w1.setCell ⟨w.heap.size+1+1+1,0,none⟩ (.int .i64 0)).setCell ⟨w.heap.size+1+1+1,1,none⟩ (.slice none 0 0)).alloc (.cells #[] 52)).alloc (.cells #[] 59))):=ae (ag (ag hbs _) _)
   clear hnone bJ bS bI bR hbs
   go_wp2
   refine bodyPost_ret (v:= .tuple #[.agg #[.int .i64 0,.slice none 0 0],.slice (some ⟨w1.heap.size,0,none⟩) 0 0,.slice (some ⟨w1.heap.size+1,0,none⟩) 0 0]) (nu) rfl ?_
   exact ab hno _ _ _ (ab hO2) (ab hO3) (ab hO4)
set_option linter.unusedSimpArgs false
theorem sp_le(ses pc:Bool)(l m ky v:Int)(N:Nat):∀(ws:List dp) (ys:List aC) (ps:List cY) (ls:List dp),ys.length+ws.length≤N→(ws.foldl (b5 ses pc l m ky v) (ys,ps,ls)).1.length≤N∧(ws.foldl (b5 ses pc l m ky v) (ys,ps,ls)).2.1.length≤ps.length+ws.length*N∧(ws.foldl (b5 ses pc l m ky v) (ys,ps,ls)).2.2.length≤ls.length+ws.length
 | [],ys,ps,ls,h=>by
  simp at h
  simp[h]
 |x :: ws,ys,ps,ls,h=>by
  rw[List.length_cons]at h
  obtain⟨⟨ys2,ps2,ok⟩,hs⟩:∃r9,stF ses pc l m ys ky v x.a x.b=r9:=⟨_,rfl⟩
  have hl:=st_len ses pc l m ys ky v x.a x.b
  rw[hs]at hl
  dsimp only at hl
  have hN:(ws.length+1)*N=ws.length*N+N:=Nat.succ_mul _ _
  rw[List.foldl_cons,hU ses pc l m ky v ys ps ls x hs]
  cases ok with
  |true=>
   have h9:=sp_le ses pc l m ky v N ws ys2 (ps++ps2) ls (by omega)
   rw[List.length_append]at h9
   simp only[if_true]at h9 ⊢
   rw[List.length_cons]
   exact⟨h9.1,by omega,by omega⟩
  |false=>
   have h9:=sp_le ses pc l m ky v N ws ys2 (ps++ps2) (ls++[x]) (by omega)
   rw[List.length_append,List.length_append,List.length_singleton]at h9
   simp only[Bool.false_eq_true,if_false]at h9 ⊢
   rw[List.length_cons]
   exact⟨h9.1,by omega,by omega⟩
theorem tk_lo(s t k z q l e:Int)(b:Bool)(v r m:Int)(xs:List aC)(x1 x2 x3 x4 x5:Int):((de s t k z q l e b v r m xs x1 x2 x3 x4 x5).1=m∨(de s t k z q l e b v r m xs x1 x2 x3 x4 x5).1=0)∧(de s t k z q l e b v r m xs x1 x2 x3 x4 x5).2.1.length≤341∧(de s t k z q l e b v r m xs x1 x2 x3 x4 x5).2.2.1.length≤20801∧(de s t k z q l e b v r m xs x1 x2 x3 x4 x5).2.2.2.length≤61:=by
 cases h:ep s t k z q l e v r m xs x1 x2 x3 x4 x5 with
 |false=>
  rw[fx h]
  exact⟨.inr rfl,by simp,by simp,by simp⟩
 |true=>
  have hn:xs.length≤280:=by
   unfold ep at h
   simp only[Bool.and_eq_true,decide_eq_true_eq]at h
   exact h.2.2
  have hw:=jI k z q x2
  have h9:=sp_le (decide (k=3)) b l m x3 x4 341 (aQ k z q x2) xs [] [] (by omega)
  have hm:(aQ k z q x2).length*341≤61*341:=Nat.mul_le_mul_right _ hw
  unfold de cm
  rw[if_pos h]
  simp only[List.length_nil,Nat.zero_add]at h9
  exact⟨.inl rfl,h9.1,Nat.le_trans h9.2.1 (Nat.le_trans hm (by decide)),by rw[List.length_map];exact Nat.le_trans h9.2.2 hw⟩
theorem tk_le(s t k z q l e:Int)(b:Bool)(v r m:Int)(xs:List aC)(x1 x2 x3 x4 x5:Int):(de s t k z q l e b v r m xs x1 x2 x3 x4 x5).2.1.length≤1048576∧(de s t k z q l e b v r m xs x1 x2 x3 x4 x5).2.2.1.length≤1048576∧(de s t k z q l e b v r m xs x1 x2 x3 x4 x5).2.2.2.length≤1048576:=by
 obtain⟨_,h1,h2,h3⟩:=tk_lo s t k z q l e b v r m xs x1 x2 x3 x4 x5
 exact⟨by omega,by omega,by omega⟩
end Go.Proofs.YtdmhihcipkhecaaGreat
namespace Go.Proofs.YtdmhihcipkhecaaGreat
open Go.ChangeShapes Go.WideShapes Go.ChangeAt Go.RowKit
set_option linter.unusedSimpArgs false
set_option maxRecDepth 20000 in
set_option maxHeartbeats 4000000 in
theorem tell_any(g:Nat)(x:aC)(pc:Bool)(w:World)(h:ew w g x)(htd:0≤x.td∧x.td≤100000):Calls Tryz.prog 77 #[.pointer (some ⟨g,0,none⟩),.bool pc] w fun e w'=>e= .returned (.agg #[.int .i64 (dJ pc x).ky,.int .i64 (dJ pc x).st,.int .i64 (dJ pc x).en,.int .i64 (dJ pc x).no,.int .i64 (dJ pc x).kd,.int .i64 (dJ pc x).n,.int .i64 (dJ pc x).su,.int .i64 (dJ pc x).le,.int .i64 (dJ pc x).mo])∧ew w' g (cT x)∧w.grownBy w' (some g):=by
 obtain⟨ky,st,en,an,asu,ale,amo,fn,fsu,fle,fmo,td,tm⟩:=x
 unfold ew at h
 dsimp only at h htd
 have hg:g<w.heap.size:=(Array.getElem?_eq_some_iff.1 h).1
 go_enter Tryz.func77,Tryz.ntmps77
 go_wp2_with fail
 refine wp_region_held_drew (S:=(fun W=>W.heap[g]? =some (.cells #[.int .i64 ky,.int .i64 st,.int .i64 en,.int .i64 an,.int .i64 asu,.int .i64 ale,.int .i64 amo,.int .i64 fn,.int .i64 fsu,.int .i64 fle,.int .i64 fmo,.int .i64 td,.bool tm] 57 (0,0)))) (oc) ?_ (fun hHeld=>?_)
 ·(try dsimp only);exact(Below.heap_alloc _ _ _ hg).trans h
 refine kV 0 ?_
 refine kV 1 ?_
 refine kV 2 ?_
 refine kT 3 ?_ ?_ ?_
 rotate_left
 ·(intro w9 hSw;(try dsimp only at hSw);obtain⟨y0,y1,y2,y3,y4,y5,y6,y7,y8,y9,y10,y11,y12⟩:=eu hSw;go_simp<;>with_reducible rfl)
 try simp only[Act.put,tA,tZ,tS]
 refine kV 4 ?_
 refine kV 5 ?_
 refine kV 6 ?_
 refine kT 7 ?_ ?_ ?_
 rotate_left
 ·(intro w9 hSw;(try dsimp only at hSw);obtain⟨y0,y1,y2,y3,y4,y5,y6,y7,y8,y9,y10,y11,y12⟩:=eu hSw;go_simp<;>with_reducible rfl)
 try simp only[Act.put,tA,tZ,tS]
 refine kV 8 ?_
 refine kV 9 ?_
 refine kV 10 ?_
 refine kT 11 ?_ ?_ ?_
 rotate_left
 ·(intro w9 hSw;(try dsimp only at hSw);obtain⟨y0,y1,y2,y3,y4,y5,y6,y7,y8,y9,y10,y11,y12⟩:=eu hSw;go_simp<;>with_reducible rfl)
 try simp only[Act.put,tA,tZ,tS]
 refine kV 12 ?_
 refine kV 13 ?_
 refine kV 14 ?_
 refine kT 15 ?_ ?_ ?_
 rotate_left
 ·(intro w9 hSw;(try dsimp only at hSw);obtain⟨y0,y1,y2,y3,y4,y5,y6,y7,y8,y9,y10,y11,y12⟩:=eu hSw;go_simp<;>with_reducible rfl)
 try simp only[Act.put,tA,tZ,tS]
 refine kV 16 ?_
 refine rD 17 (fun K hK=>?_)
 go_simp
 clear hHeld
 refine hK.out _ _ ?_ (fun hHeld=>?_)
 ·(try dsimp only);exact(Below.heap_alloc _ _ _ (oa)).trans ((Below.heap_alloc _ _ _ hg).trans h)
 clear hK K
 try simp only[Act.put,tA,tZ,tS]
 refine rD 18 (fun K hK=>?_)
 go_simp
 clear hHeld
 refine hK.out _ _ ?_ (fun hHeld=>?_)
 ·(try dsimp only);exact(Below.heap_alloc _ _ _ (oa)).trans ((Below.heap_alloc _ _ _ hg).trans h)
 clear hK K
 try simp only[Act.put,tA,tZ,tS]
 refine wpAnyH_done (oc) ?_ _
 have hbA:Below w.heap.size w ((w.alloc (.cells #[.int .i64 0,.int .i64 0,.int .i64 0,.int .i64 0,.int .i64 0,.int .i64 0,.int .i64 0,.int .i64 0,.int .i64 0] 52)).alloc (.cells #[.int .i64 ky,.int .i64 st,.int .i64 en,.int .i64 td,.int .i64 1,.int .i64 an,.int .i64 asu,.int .i64 ale,.int .i64 amo] 52)).drew:=ap (ag (aq _ _) _)
 have hgA:((w.alloc (.cells #[.int .i64 0,.int .i64 0,.int .i64 0,.int .i64 0,.int .i64 0,.int .i64 0,.int .i64 0,.int .i64 0,.int .i64 0] 52)).alloc (.cells #[.int .i64 ky,.int .i64 st,.int .i64 en,.int .i64 td,.int .i64 1,.int .i64 an,.int .i64 asu,.int .i64 ale,.int .i64 amo] 52)).drew.heap[g]? =some (.cells #[.int .i64 ky,.int .i64 st,.int .i64 en,.int .i64 an,.int .i64 asu,.int .i64 ale,.int .i64 amo,.int .i64 fn,.int .i64 fsu,.int .i64 fle,.int .i64 fmo,.int .i64 td,.bool tm] 57 (0,0)):=(Below.heap_alloc _ _ _ (oa)).trans ((Below.heap_alloc _ _ _ hg).trans h)
 have hqA:((w.alloc (.cells #[.int .i64 0,.int .i64 0,.int .i64 0,.int .i64 0,.int .i64 0,.int .i64 0,.int .i64 0,.int .i64 0,.int .i64 0] 52)).alloc (.cells #[.int .i64 ky,.int .i64 st,.int .i64 en,.int .i64 td,.int .i64 1,.int .i64 an,.int .i64 asu,.int .i64 ale,.int .i64 amo] 52)).drew.heap[w.heap.size+1]? =some (.cells #[.int .i64 ky,.int .i64 st,.int .i64 en,.int .i64 td,.int .i64 1,.int .i64 an,.int .i64 asu,.int .i64 ale,.int .i64 amo] 52 (0,0)):=by
  have h9:=World.alloc_heap_new (w.alloc (.cells #[.int .i64 0,.int .i64 0,.int .i64 0,.int .i64 0,.int .i64 0,.int .i64 0,.int .i64 0,.int .i64 0,.int .i64 0] 52)) (.cells #[.int .i64 ky,.int .i64 st,.int .i64 en,.int .i64 td,.int .i64 1,.int .i64 an,.int .i64 asu,.int .i64 ale,.int .i64 amo] 52)
  have e9:(w.alloc (.cells #[.int .i64 0,.int .i64 0,.int .i64 0,.int .i64 0,.int .i64 0,.int .i64 0,.int .i64 0,.int .i64 0,.int .i64 0] 52)).heap.size=w.heap.size+1:=by simp
  rw[e9]at h9
  exact h9
 have hrA:((w.alloc (.cells #[.int .i64 0,.int .i64 0,.int .i64 0,.int .i64 0,.int .i64 0,.int .i64 0,.int .i64 0,.int .i64 0,.int .i64 0] 52)).alloc (.cells #[.int .i64 ky,.int .i64 st,.int .i64 en,.int .i64 td,.int .i64 1,.int .i64 an,.int .i64 asu,.int .i64 ale,.int .i64 amo] 52)).drew.heap[w.heap.size]? =some (.cells #[.int .i64 0,.int .i64 0,.int .i64 0,.int .i64 0,.int .i64 0,.int .i64 0,.int .i64 0,.int .i64 0,.int .i64 0] 52 (0,0)):=(Below.heap_alloc _ _ _ (by simp)).trans (World.alloc_heap_new w _)
 clear hHeld
 generalize ((w.alloc (.cells #[.int .i64 0,.int .i64 0,.int .i64 0,.int .i64 0,.int .i64 0,.int .i64 0,.int .i64 0,.int .i64 0,.int .i64 0] 52)).alloc (.cells #[.int .i64 ky,.int .i64 st,.int .i64 en,.int .i64 td,.int .i64 1,.int .i64 an,.int .i64 asu,.int .i64 ale,.int .i64 amo] 52)).drew=wA at hbA hgA hqA hrA ⊢
 have hgs:g<wA.heap.size:=(Array.getElem?_eq_some_iff.1 hgA).1
 have hqs:w.heap.size+1<wA.heap.size:=(Array.getElem?_eq_some_iff.1 hqA).1
 obtain⟨a0,a1,a2,a3,a4,a5,a6,a7,a8,a9,a10,a11,a12⟩:=eu hgA
 obtain⟨q0,q1,q2,q3,q4,q5,q6,q7,q8⟩:=c9 hqA
 obtain⟨r0,r1,r2,r3,r4,r5,r6,r7,r8⟩:=c9 hrA
 have fg:∀j,wA.frozen? ⟨g,j,none⟩=false:=fun j=>by simp[World.frozen?,hgA]
 have fq:∀j,wA.frozen? ⟨w.heap.size+1,j,none⟩=false:=fun j=>by simp[World.frozen?,hqA]
 have fr:∀j,wA.frozen? ⟨w.heap.size,j,none⟩=false:=fun j=>by simp[World.frozen?,hrA]
 have fg7:=fg 7
 have fg8:=fg 8
 have fg9:=fg 9
 have fg10:=fg 10
 have fg11:=fg 11
 have fg12:=fg 12
 have fq4:=fq 4
 have fq5:=fq 5
 have fq6:=fq 6
 have fq7:=fq 7
 have fq8:=fq 8
 have fr0:=fr 0
 have fr1:=fr 1
 have fr2:=fr 2
 have fr3:=fr 3
 have fr4:=fr 4
 have fr5:=fr 5
 have fr6:=fr 6
 have fr7:=fr 7
 have fr8:=fr 8
 have hwr:IntKind.i64.wrap (td+1)=td+1:=IntWalk.i64_in _ ⟨by omega,by omega⟩
 clear fg fq fr h
 have ng1:g≠w.heap.size:=by omega
 have ng2:g≠w.heap.size+1:=by omega
 cases tm<;>cases pc
 ·skip
  go_wp2
  refine bodyPost_ret (v:= .agg #[.int .i64 ky,.int .i64 st,.int .i64 en,.int .i64 td,.int .i64 1,.int .i64 an,.int .i64 asu,.int .i64 ale,.int .i64 amo]) (ni) rfl ⟨rfl,?_,?_⟩
  ·exact((Below.heap_setCell _ _ _ _ (oa)).trans ((Below.heap_setCell _ _ _ _ (oa)).trans ((Below.heap_setCell _ _ _ _ (oa)).trans ((Below.heap_setCell _ _ _ _ (oa)).trans ((Below.heap_setCell _ _ _ _ (oa)).trans ((Below.heap_setCell _ _ _ _ (oa)).trans ((Below.heap_setCell _ _ _ _ (oa)).trans ((Below.heap_setCell _ _ _ _ (oa)).trans ((Below.heap_setCell _ _ _ _ (oa)).trans (Joins.block_setCell (Joins.block_setCell (Joins.block_setCell (Joins.block_setCell (Joins.block_setCell (Joins.block_setCell hgA _) _) _) _) _) _))))))))))
  ·exact(aK (aK (aK (aK (aK (aK (aK (aK (aK (aK (aK (aK (aK (aK (aK (iw hbA) (ny) _) (ny) _) (ny) _) (ny) _) (ny) _) (ny) _) (ny) _) (ny) _) (ny) _) (ny) _) (ny) _) (ny) _) (ny) _) (ny) _) (ny) _)
 ·skip
  go_wp2
  refine bodyPost_ret (v:= .agg #[.int .i64 ky,.int .i64 st,.int .i64 en,.int .i64 td,.int .i64 1,.int .i64 fn,.int .i64 fsu,.int .i64 fle,.int .i64 fmo]) (ni) rfl ⟨rfl,?_,?_⟩
  ·exact((Below.heap_setCell _ _ _ _ (oa)).trans ((Below.heap_setCell _ _ _ _ (oa)).trans ((Below.heap_setCell _ _ _ _ (oa)).trans ((Below.heap_setCell _ _ _ _ (oa)).trans ((Below.heap_setCell _ _ _ _ (oa)).trans ((Below.heap_setCell _ _ _ _ (oa)).trans ((Below.heap_setCell _ _ _ _ (oa)).trans ((Below.heap_setCell _ _ _ _ (oa)).trans ((Below.heap_setCell _ _ _ _ (oa)).trans (Joins.block_setCell (Joins.block_setCell (Joins.block_setCell (Joins.block_setCell (Joins.block_setCell (Joins.block_setCell ((Below.heap_setCell _ _ _ _ (oa)).trans ((Below.heap_setCell _ _ _ _ (oa)).trans ((Below.heap_setCell _ _ _ _ (oa)).trans ((Below.heap_setCell _ _ _ _ (oa)).trans hgA)))) _) _) _) _) _) _))))))))))
  ·exact(aK (aK (aK (aK (aK (aK (aK (aK (aK (aK (aK (aK (aK (aK (aK (aK (aK (aK (aK (iw hbA) (ny) _) (ny) _) (ny) _) (ny) _) (ny) _) (ny) _) (ny) _) (ny) _) (ny) _) (ny) _) (ny) _) (ny) _) (ny) _) (ny) _) (ny) _) (ny) _) (ny) _) (ny) _) (ny) _)
 ·skip
  go_wp2
  refine bodyPost_ret (v:= .agg #[.int .i64 ky,.int .i64 st,.int .i64 en,.int .i64 td,.int .i64 2,.int .i64 an,.int .i64 asu,.int .i64 ale,.int .i64 amo]) (ni) rfl ⟨rfl,?_,?_⟩
  ·exact((Below.heap_setCell _ _ _ _ (oa)).trans ((Below.heap_setCell _ _ _ _ (oa)).trans ((Below.heap_setCell _ _ _ _ (oa)).trans ((Below.heap_setCell _ _ _ _ (oa)).trans ((Below.heap_setCell _ _ _ _ (oa)).trans ((Below.heap_setCell _ _ _ _ (oa)).trans ((Below.heap_setCell _ _ _ _ (oa)).trans ((Below.heap_setCell _ _ _ _ (oa)).trans ((Below.heap_setCell _ _ _ _ (oa)).trans (Joins.block_setCell (Joins.block_setCell (Joins.block_setCell (Joins.block_setCell (Joins.block_setCell (Joins.block_setCell ((Below.heap_setCell _ _ _ _ (oa)).trans hgA) _) _) _) _) _) _))))))))))
  ·exact(aK (aK (aK (aK (aK (aK (aK (aK (aK (aK (aK (aK (aK (aK (aK (aK (iw hbA) (ny) _) (ny) _) (ny) _) (ny) _) (ny) _) (ny) _) (ny) _) (ny) _) (ny) _) (ny) _) (ny) _) (ny) _) (ny) _) (ny) _) (ny) _) (ny) _)
 ·skip
  go_wp2
  refine bodyPost_ret (v:= .agg #[.int .i64 ky,.int .i64 st,.int .i64 en,.int .i64 td,.int .i64 2,.int .i64 fn,.int .i64 fsu,.int .i64 fle,.int .i64 fmo]) (ni) rfl ⟨rfl,?_,?_⟩
  ·exact((Below.heap_setCell _ _ _ _ (oa)).trans ((Below.heap_setCell _ _ _ _ (oa)).trans ((Below.heap_setCell _ _ _ _ (oa)).trans ((Below.heap_setCell _ _ _ _ (oa)).trans ((Below.heap_setCell _ _ _ _ (oa)).trans ((Below.heap_setCell _ _ _ _ (oa)).trans ((Below.heap_setCell _ _ _ _ (oa)).trans ((Below.heap_setCell _ _ _ _ (oa)).trans ((Below.heap_setCell _ _ _ _ (oa)).trans (Joins.block_setCell (Joins.block_setCell (Joins.block_setCell (Joins.block_setCell (Joins.block_setCell (Joins.block_setCell ((Below.heap_setCell _ _ _ _ (oa)).trans ((Below.heap_setCell _ _ _ _ (oa)).trans ((Below.heap_setCell _ _ _ _ (oa)).trans ((Below.heap_setCell _ _ _ _ (oa)).trans ((Below.heap_setCell _ _ _ _ (oa)).trans hgA))))) _) _) _) _) _) _))))))))))
  ·exact(aK (aK (aK (aK (aK (aK (aK (aK (aK (aK (aK (aK (aK (aK (aK (aK (aK (aK (aK (aK (iw hbA) (ny) _) (ny) _) (ny) _) (ny) _) (ny) _) (ny) _) (ny) _) (ny) _) (ny) _) (ny) _) (ny) _) (ny) _) (ny) _) (ny) _) (ny) _) (ny) _) (ny) _) (ny) _) (ny) _) (ny) _)
end Go.Proofs.YtdmhihcipkhecaaGreat
namespace Go.Proofs.YtdmhihcipkhecaaGreat
open Go.RowKit
variable {P : Program} {F : Fence} {n : Nat}
/-- What the body must achieve: one mark, that holds no call. -/
def bodyPost1(P:Program)(fn:Func)(R:Ending→World→Prop):Exit→Act→World→Prop
 | .normal,a,w| .ret,a,w=>∃D w',a.defers=[{target:= .collected D,args:=#[]}]∧(Instr.takeDeferred D).run P w= .ok [] w'∧∃v,(results fn a.tmps).run P w'= .ok v w'∧R (.returned v) w'
 | .outgrown,_,w=>R .outgrown w
 |_,_,_=>False
theorem gn{f:FuncId}{fn:Func}{c:Code}{args:Array Value}{u:FrameMode}{w:World}{R:Ending→World→Prop}
  (hf:P.funcs[f]? =some fn) (hb:fn.body=some c) (hF:F.fn f)
  (h:c.wpIn F n P (bodyPost1 P fn R) {tmps:=args++Array.replicate (fn.ntmps - args.size) undef,defers:=[]} w) (hro:F.round=none:=by rfl):
  CallsDIn F n P f args u w fun e u' w'=>u'=u∧R e w':=by
 refine⟨hF,fun c₀ cs hu hr=>?_⟩
 let b:Frame:= {(default:Frame)with fn:=f,kind:= .deferred,roundOf:=none}
 have henter:Frame.enter P f args .deferred=b.atR {tmps:=args++Array.replicate (fn.ntmps - args.size) undef,defers:=[]} [.code c]:=by
  simp[Frame.enter,Frame.atR,hf,hb,b]
 have hc:({c₀ with mode:=u}:Frame)=c₀:=by subst hu;rfl
 obtain⟨e,a',w',hq,harr⟩:=h b [] (c₀ :: cs) hro.symm hF hr
 rw[←henter]at harr
 cases e with
 |normal=>
  obtain⟨D,w2,hd,htk,v,hr',hR⟩:=hq
  have h1:=step_collected (P:=P) (fr:= {b.atR a' []with mode:= .returning}) (cs:=c₀ :: cs) (w:=w') (by simp) hd rfl htk
  have i1:(lone {b.atR a' []with mode:= .returning} (c₀ :: cs) w').fenced P F:=fenced_out hF hr (by simp) hd (fun g hg=>by simp[Target.leads]at hg)
  exact⟨.returned v,u,w2,_,⟨rfl,hR⟩,(by rw[hc];exact StepsIn.trans (StepsIn.trans harr (.one (fenced_calm (fr:=b.atR a' []) hF hr rfl) (stepR_end rfl))) (.one i1 h1)),rfl,rfl,rfl,rfl,fn,hf,hr'⟩
 |ret=>
  obtain⟨D,w2,hd,htk,v,hr',hR⟩:=hq
  obtain⟨todo,hs⟩:=harr.1 rfl
  have h1:=step_collected (P:=P) (fr:= {b.atR a' todo with mode:= .returning}) (cs:=c₀ :: cs) (w:=w') (by simp) hd rfl htk
  have i1:(lone {b.atR a' todo with mode:= .returning} (c₀ :: cs) w').fenced P F:=fenced_out hF hr (by simp) hd (fun g hg=>by simp[Target.leads]at hg)
  exact⟨.returned v,u,w2,_,⟨rfl,hR⟩,(by rw[hc];exact StepsIn.trans hs (.one i1 h1)),rfl,rfl,rfl,rfl,fn,hf,hr'⟩
 |panic chain=>exact hq.elim
 |exit id=>exact hq.elim
 |goto l=>exact hq.elim
 |outgrown=>exact⟨.outgrown,u,w',b,⟨rfl,hq⟩,harr.resolve_left (by simp[b]),rfl,rfl,trivial⟩
end Go.Proofs.YtdmhihcipkhecaaGreat
