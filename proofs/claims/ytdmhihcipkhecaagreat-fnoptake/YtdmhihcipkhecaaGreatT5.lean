/- Laid together: what the claim needs of the texts that were built one by one. -/
import Derived.Test.YtdmhihcipkhecaaGreatT3
import Derived.Test.YtdmhihcipkhecaaGreatT4
import Derived.Test.YtdmhihcipkhecaaGreatT1
import Derived.Stop.RegionWithIn
import Derived.Test.YtdmhihcipkhecaaGreatT0
import Derived.OrdersHeld
import Derived.Deep.RegionHeld3
import Derived.Lib.SmallJoins
import Derived.Deep.Onto
import Derived.OwnWalk
set_option linter.unusedVariables false
namespace Go.Proofs.YtdmhihcipkhecaaGreat
open Go.ChangeShapes Go.WideShapes Go.ChangeAt Go.RowKit Go.Shelf Go.Maps
set_option linter.unusedSimpArgs false
attribute [local go_sem] Oper.semAt_some
theorem af{W:World}{B b size n:Nat}{e ty:TypeId}{v:Value}{ys:List Value}{cs:Array Value}(h:W.ownsRow B e size v n ys)(hb:W.heap[b]? =some (.cells cs ty (0,0)))(hne:ty≠e):v.ownBlock≠some b:=by
 rcases h.2 with⟨rfl,_⟩|⟨g,cap,cur,rfl,_,hgb,_⟩
 ·simp[Value.ownBlock]
 ·intro e9
  simp[Value.ownBlock]at e9
  subst e9
  rw[hb]at hgb
  simp only[Option.some.injEq,Obj.cells.injEq]at hgb
  exact hne hgb.2.1
theorem own_cells{W:World}{B n:Nat}{v:Value}{ys:List Value}(h:W.ownsRow B 57 13 v n ys)(r:Nat)(e:v.ownBlock=some r):∃cs ty,W.heap[r]? =some (.cells cs ty (0,0))∧ks ty=true:=by
 rcases h.2 with⟨rfl,_⟩|⟨g,cap,cur,rfl,_,hgb,_⟩
 ·cases e
 ·simp[Value.ownBlock]at e
  subst e
  exact⟨_,_,hgb,by decide⟩
theorem aE{W:World}{B size n:Nat}{e:TypeId}{v:Value}{ys:List Value}(h:W.ownsRow B e size v n ys):∀k,v.ownBlock=some k→B≤k:=by
 intro k hk
 rcases h.2 with⟨rfl,_⟩|⟨g,cap,cur,rfl,hg,_⟩
 ·cases hk
 ·simp[Value.ownBlock]at hk;omega
theorem al{W:World}{p:Addr}{u:Value}{B:Nat}{e:TypeId}{size n:Nat}{v:Value}{xs:List Value}(h:W.ownsRow B e size v n xs)(hp:v.ownBlock≠some p.block):(W.setCell p u).ownsRow B e size v n xs:=by
 rcases h with⟨hl,h|⟨g,cap,cur,rfl,hB,hblk,r⟩⟩
 ·exact⟨hl,Or.inl h⟩
 ·exact⟨hl,Or.inr ⟨g,cap,cur,rfl,hB,(Below.heap_setCell _ _ _ _ (fun e=>hp (by rw[←e];rfl))).trans hblk,r⟩⟩
def actS(w:World)(Bo mb:Nat)(m:Int){es:List bz}(x:eB es):Act:= {tmps:=#[.pointer (some ⟨Bo,0,none⟩),undef,.pointer (some ⟨w.heap.size,0,none⟩),.pointer (some ⟨w.heap.size+1,0,none⟩),undef,.pointer (some ⟨(ak x).1,0,none⟩),.pointer (some ⟨Bo,0,none⟩),.pointer (some ⟨Bo,0,none⟩),.pointer (some ⟨Bo,10,none⟩),.int .i64 m,.agg #[.int .i64 m,.slice none 0 0],.pointer (some ⟨Bo,0,none⟩),.pointer (some ⟨Bo,0,none⟩),.pointer (some ⟨Bo,11,none⟩),.map (some mb),(.func (.func 83) #[] #[.pointer (some ⟨w.heap.size+1+1,0,none⟩)]),.agg #[.int .i64 x.1.1.1,.int .i64 x.1.1.2.1,.int .i64 x.1.1.2.2],.pointer (some ⟨(ak x).1,0,none⟩),undef,undef,undef,undef,undef,undef,undef,undef,undef],defers:=[]}
/-- What stands between two rounds. -/
def SttI(w:World)(m:Int)(nn:Nat){es:List bz}(pre:List (eB es))(W:World):Prop:=∃rv,W.heap[w.heap.size+1]? =some (.cells #[.int .i64 m,rv] 27 (0,0))∧W.ownsRow w.heap.size 57 13 rv pre.length (ba (pre.map (fun x=>(ak x).2)))∧pre.length≤nn∧W.heap[w.heap.size]? =some (.cells #[.int .i64 0,.slice none 0 0] 27 (0,0))∧Below w.heap.size w W
theorem dH{W W':World}{row:Option Nat}{k:Nat}{cs:Array Value}{ty:TypeId}(h:W.heap[k]? =some (.cells cs ty (0,0)))(hg:W.grownBy W' row)(hr:∀r,row=some r→∃o:Obj,W.heap[r]? =some o∧o.isCells=false):W'.heap[k]? =some (.cells cs ty (0,0)):=by
 refine(hg.block k (Array.getElem?_eq_some_iff.1 h).1 (fun e=>?_)).trans h
 obtain⟨o,ho,hc⟩:=hr k e.symm
 rw[h]at ho
 cases ho
 cases hc
theorem aJ{W W':World}{row:Option Nat}{B size n:Nat}{e:TypeId}{v:Value}{ys:List Value}(h:W.ownsRow B e size v n ys)(hg:W.grownBy W' row)(hr:∀r,row=some r→∃o:Obj,W.heap[r]? =some o∧o.isCells=false):W'.ownsRow B e size v n ys:=by
 rcases h with⟨hl,h|⟨g,cap,cur,hv,hB,hblk,r⟩⟩
 ·exact⟨hl,Or.inl h⟩
 ·exact⟨hl,Or.inr ⟨g,cap,cur,hv,hB,dH hblk hg hr,r⟩⟩
theorem sttI_own(w:World)(m:Int)(nn:Nat){es:List bz}(B:Nat)(hB:w.heap.size≤B):OwnFrom B (SttI w m nn (es:=es)):=fun s W W' row h hg hr=>by
 obtain⟨rv,h1,h2,h3,h4,h5⟩:=h
 have hr':=fun r e=>(hr r e).2
 exact⟨rv,dH h1 hg hr',aJ h2 hg hr',h3,dH h4 hg hr',h5.grown hg h5.size (fun k e=>by have:=(hr k e).1;omega)⟩
set_option maxRecDepth 100000 in
set_option maxHeartbeats 8000000 in
theorem state_any(Bo B mb nn:Nat)(s t k z q l e:Int)(b:Bool)(v r m:Int)(pv lv:Value)(es:List bz)(w:World)(hO:w.heap[Bo]? =some (.cells (opV s t k z q l e b v r m mb pv lv) 75 (0,0)))(hR:bD w B mb nn es)(hrise:eb es)(hok:∀e ∈ es,gx (aU e.2))(hnn:nn≤1000):
  Calls Tryz.prog 31 #[.pointer (some ⟨Bo,0,none⟩)] w fun e' w'=>∃a c,e'= .returned (.agg #[.int .i64 m,.slice a es.length c])∧aS w' w.heap.size (.slice a es.length c) (es.map (fun e=>e.2))∧Below w.heap.size w w':=by
 obtain⟨i0,hi,hz0',hz1',hz2'⟩:=info_parts Tryz.infoOr
 have hBo:Bo<w.heap.size:=(Array.getElem?_eq_some_iff.1 hO).1
 have cZ:w.cell? ⟨Bo,10,none⟩=some (.int .i64 m):=cA hO 10
 have c11:w.cell? ⟨Bo,11,none⟩=some (.map (some mb)):=cA hO 11
 refine(callsIn_wide (n:=20)).1 ?_
 refine callsIn_of_wp_marks Tryz.func31 rfl trivial ?_ rfl
 simp only[Tryz.ntmps31,List.size_toArray,List.length_cons,List.length_nil,Nat.reduceAdd,Nat.reduceSub,Array.replicate_succ,Array.replicate_zero,List.push_toArray,List.append_toArray,List.nil_append,List.cons_append]
 have hB0:Below w.heap.size w (((w.alloc (.cells #[.int .i64 0,.slice none 0 0] 27)).alloc (.cells #[.int .i64 m,.slice none 0 0] 27)).alloc (.cells #[.map (some mb)] 73)):=ag (ag (aq _ _) _) _
 have hm:(((w.alloc (.cells #[.int .i64 0,.slice none 0 0] 27)).alloc (.cells #[.int .i64 m,.slice none 0 0] 27)).alloc (.cells #[.map (some mb)] 73)).heap[w.heap.size+1+1]? =some (.cells #[.map (some mb)] 73 (0,0)):=by
  have:=World.alloc_heap_new ((w.alloc (.cells #[.int .i64 0,.slice none 0 0] 27)).alloc (.cells #[.int .i64 m,.slice none 0 0] 27)) (.cells #[.map (some mb)] 73)
  rw[World.size_alloc,World.size_alloc]at this
  exact this
 have hS0:(((w.alloc (.cells #[.int .i64 0,.slice none 0 0] 27)).alloc (.cells #[.int .i64 m,.slice none 0 0] 27)).alloc (.cells #[.map (some mb)] 73)).heap[w.heap.size+1]? =some (.cells #[.int .i64 m,.slice none 0 0] 27 (0,0)):=by
  refine(Below.heap_alloc _ _ _ (by simp)).trans ?_
  have:=World.alloc_heap_new (w.alloc (.cells #[.int .i64 0,.slice none 0 0] 27)) (.cells #[.int .i64 m,.slice none 0 0] 27)
  rw[World.size_alloc]at this
  exact this
 have hR0:(((w.alloc (.cells #[.int .i64 0,.slice none 0 0] 27)).alloc (.cells #[.int .i64 m,.slice none 0 0] 27)).alloc (.cells #[.map (some mb)] 73)).heap[w.heap.size]? =some (.cells #[.int .i64 0,.slice none 0 0] 27 (0,0)):=(Below.heap_alloc _ _ _ (oa)).trans ((Below.heap_alloc _ _ _ (by simp)).trans (World.alloc_heap_new w _))
 have hown:b6 (((w.alloc (.cells #[.int .i64 0,.slice none 0 0] 27)).alloc (.cells #[.int .i64 m,.slice none 0 0] 27)).alloc (.cells #[.map (some mb)] 73)) mb nn (fun q=>(gj es q).map evO):=by rw[lg];exact hR.map.bel hB0
 have hbx:∀e ∈ es,ew w e.1 e.2:=hR.box
 gi_wp2_with (refine⟨trivial,?_⟩;gi_at_call 61;refine(callsIn_wide.2 (fL mb _)).mono ?_;rintro e' w1 ⟨rfl,hw1⟩;subst hw1)
 clear cZ c11
 refine wpIn_rangeFunc_ownH rfl (by omega) (gf:=83) (lb:=#[.pointer (some ⟨w.heap.size+1+1,0,none⟩)]) (by simp[go_sem,Act.eval]) trivial (enters_of Tryz.func83 (oc) rfl)
  (fv _ (by omega) (w.heap.size+1+1) mb nn evO (gj es) none zeroEv (PXs es) (fun q _ a ha=>lh ha) _ (by omega) hm hown) gB.trans gB.put (Below.refl _ _) (fun _=>rfl)
  (SttI w m nn (es:=es)) (fun _ _ _=>False) (sttI_own w m nn _ hB0.size) (fun _ _ _ _ _ hs _ _=>hs)
  ⟨_,hS0,World.ownsRow_nil _ _ _ _,Nat.zero_le _,hR0,hB0⟩
  (fun x a' W=>a'=actS w Bo mb m x) (fun x a' _ W W' row hs _ _=>hs) ?assign ?body ?done ?stop
 case assign=>
  rintro lb0 pre x W K hI hK
  have HK:=hK (actS w Bo mb m x) W (KeepsFrom.refl _ _) (gB.rfl' W) hI rfl
  clear hK
  have hev:=jl x
  unfold actS at HK
  rw[hev]
  gi_wp2
  exact HK
 case body=>
  rintro lb0 pre x a' W hlb _ ⟨rv,hS,hrow,hpn,hRb,hB⟩ rfl hpl
  have hbe:=(hbx _ (dG x)).bel hB (hbx _ (dG x)).lt
  have zS:w.heap.size+1<W.heap.size:=(Array.getElem?_eq_some_iff.1 hS).1
  have cS1:W.cell? ⟨w.heap.size+1,1,none⟩=some rv:=cA hS 1
  have cB0:W.cell? ⟨(ak x).1,0,none⟩=some (.int .i64 (ak x).2.ky):=cA hbe 0
  have cB1:W.cell? ⟨(ak x).1,1,none⟩=some (.int .i64 (ak x).2.st):=cA hbe 1
  have cB2:W.cell? ⟨(ak x).1,2,none⟩=some (.int .i64 (ak x).2.en):=cA hbe 2
  have cB3:W.cell? ⟨(ak x).1,3,none⟩=some (.int .i64 (ak x).2.an):=cA hbe 3
  have cB4:W.cell? ⟨(ak x).1,4,none⟩=some (.int .i64 (ak x).2.asu):=cA hbe 4
  have cB5:W.cell? ⟨(ak x).1,5,none⟩=some (.int .i64 (ak x).2.ale):=cA hbe 5
  have cB6:W.cell? ⟨(ak x).1,6,none⟩=some (.int .i64 (ak x).2.amo):=cA hbe 6
  have cB7:W.cell? ⟨(ak x).1,7,none⟩=some (.int .i64 (ak x).2.fn):=cA hbe 7
  have cB8:W.cell? ⟨(ak x).1,8,none⟩=some (.int .i64 (ak x).2.fsu):=cA hbe 8
  have cB9:W.cell? ⟨(ak x).1,9,none⟩=some (.int .i64 (ak x).2.fle):=cA hbe 9
  have cB10:W.cell? ⟨(ak x).1,10,none⟩=some (.int .i64 (ak x).2.fmo):=cA hbe 10
  have cB11:W.cell? ⟨(ak x).1,11,none⟩=some (.int .i64 (ak x).2.td):=cA hbe 11
  have cB12:W.cell? ⟨(ak x).1,12,none⟩=some (.bool (ak x).2.tm):=cA hbe 12
  have HR:=ae hrow
  have HS:=ae hS
  have HRb:=ae hRb
  clear hrow hS hRb hm hS0 hR0 hown hbe
  unfold actS
  gi_wp2
  refine iy (oc) (oc) (oc) (fun L a' W'=>∃V:Nat→Value,a'=({tmps:=#[.pointer (some ⟨Bo,0,none⟩),undef,.pointer (some ⟨w.heap.size,0,none⟩),.pointer (some ⟨w.heap.size+1,0,none⟩),undef,.pointer (some ⟨(ak x).1,0,none⟩),.pointer (some ⟨Bo,0,none⟩),.pointer (some ⟨Bo,0,none⟩),.pointer (some ⟨Bo,10,none⟩),.int .i64 m,.agg #[.int .i64 m,.slice none 0 0],.pointer (some ⟨Bo,0,none⟩),.pointer (some ⟨Bo,0,none⟩),.pointer (some ⟨Bo,11,none⟩),.map (some mb),(.func (.func 83) #[] #[.pointer (some ⟨w.heap.size+1+1,0,none⟩)]),.agg #[.int .i64 x.1.1.1,.int .i64 x.1.1.2.1,.int .i64 x.1.1.2.2],.pointer (some ⟨(ak x).1,0,none⟩),V 0,V 1,V 2,V 3,V 4,V 5,V 6,V 7,undef],defers:=[]}:Act)∧((L 0=true→V 0= .pointer (some ⟨w.heap.size+1,1,none⟩))∧(L 1=true→V 1=rv)∧(L 2=true→V 2= .pointer (some ⟨(ak x).1,0,none⟩))∧(L 3=true→V 3= .pointer (some ⟨(ak x).1,0,none⟩))∧(L 4=true→V 4= .agg #[.int .i64 (ak x).2.ky,.int .i64 (ak x).2.st,.int .i64 (ak x).2.en,.int .i64 (ak x).2.an,.int .i64 (ak x).2.asu,.int .i64 (ak x).2.ale,.int .i64 (ak x).2.amo,.int .i64 (ak x).2.fn,.int .i64 (ak x).2.fsu,.int .i64 (ak x).2.fle,.int .i64 (ak x).2.fmo,.int .i64 (ak x).2.td,.bool (ak x).2.tm])∧(L 5=true→V 5= .slice (some ⟨W.heap.size,0,none⟩) 1 1)∧(L 7=true→V 7= .pointer (some ⟨w.heap.size+1,1,none⟩)))∧(L 5=false→W'=W.drew)∧(L 5=true→L 6=false→W'=(W.alloc (.cells #[.int .i64 (ak x).2.ky,.int .i64 (ak x).2.st,.int .i64 (ak x).2.en,.int .i64 (ak x).2.an,.int .i64 (ak x).2.asu,.int .i64 (ak x).2.ale,.int .i64 (ak x).2.amo,.int .i64 (ak x).2.fn,.int .i64 (ak x).2.fsu,.int .i64 (ak x).2.fle,.int .i64 (ak x).2.fmo,.int .i64 (ak x).2.td,.bool (ak x).2.tm] 57)).drew)∧(L 5=true→L 4=true)∧(L 6=true→L 5=true∧L 1=true)∧(L 6=true→Hid (W'.ownsRow w.heap.size 57 13 (V 6) (pre.length+1) (ba (pre.map (fun x=>(ak x).2))++[.int .i64 (ak x).2.ky,.int .i64 (ak x).2.st,.int .i64 (ak x).2.en,.int .i64 (ak x).2.an,.int .i64 (ak x).2.asu,.int .i64 (ak x).2.ale,.int .i64 (ak x).2.amo,.int .i64 (ak x).2.fn,.int .i64 (ak x).2.fsu,.int .i64 (ak x).2.fle,.int .i64 (ak x).2.fmo,.int .i64 (ak x).2.td,.bool (ak x).2.tm])∧(W.alloc (.cells #[.int .i64 (ak x).2.ky,.int .i64 (ak x).2.st,.int .i64 (ak x).2.en,.int .i64 (ak x).2.an,.int .i64 (ak x).2.asu,.int .i64 (ak x).2.ale,.int .i64 (ak x).2.amo,.int .i64 (ak x).2.fn,.int .i64 (ak x).2.fsu,.int .i64 (ak x).2.fle,.int .i64 (ak x).2.fmo,.int .i64 (ak x).2.td,.bool (ak x).2.tm] 57)).drew.grownBy W' rv.ownBlock))) ?_ ?_
  ·exact⟨fun _=>undef,rfl,⟨(fun h9=>(by cases h9)),(fun h9=>(by cases h9)),(fun h9=>(by cases h9)),(fun h9=>(by cases h9)),(fun h9=>(by cases h9)),(fun h9=>(by cases h9)),(fun h9=>(by cases h9))⟩,fun _=>rfl,fun h9=>(by cases h9),fun h9=>(by cases h9),fun h9=>(by cases h9),fun h9=>(by cases h9)⟩
  refine⟨?_,?_,?_,?_,?_,?_,?_,?_,?_⟩
  ·intro L a' W' hI hLj hE K' hK
   obtain⟨V,rfl,⟨mq,mr,mD,mE,mF,mH,mQ⟩,hw0,hw1,hw2,hw4,hw3⟩:=hI
   go_simp
   exact hK.out _ _ ⟨fun m9=>if m9=0 then .pointer (some ⟨w.heap.size+1,1,none⟩)else V m9,rfl,⟨fun _=>rfl,mO mr,mO mD,mO mE,mO mF,mO mH,mO mQ⟩,mO hw0,fun h9 h8=>hw1 (mP h9) (mP h8),fun h9=>by have:=hw2 (mP h9);simp[more,this],fun h9=>by have:=hw4 (mP h9);simp[more,this],mO hw3⟩
  ·intro L a' W' hI hLj hE K' hK
   obtain⟨V,rfl,⟨mq,mr,mD,mE,mF,mH,mQ⟩,hw0,hw1,hw2,hw4,hw3⟩:=hI
   have el0:=hE ⟨0,.data⟩ (by simp) rfl
   have lQ:=mq el0
   have h6:L 6=false:=by
    cases h9:L 6 with
    |false=>rfl
    |true=>have:=(hw4 h9).2;rw[hLj]at this;cases this
   have k1:W'.cell? ⟨w.heap.size+1,1,none⟩=some rv:=by
    cases h5:L 5 with
    |false=>rw[hw0 h5];exact cS1
    |true=>rw[hw1 h5 h6];exact((aq W _).cell (p:=⟨w.heap.size+1,1,none⟩) zS).trans cS1
   rw[lQ]
   go_simp
   exact hK.out _ _ ⟨fun m9=>if m9=1 then rv else V m9,(by simp[lQ]),⟨mO mq,fun _=>rfl,mO mD,mO mE,mO mF,mO mH,mO mQ⟩,mO hw0,fun h9 h8=>hw1 (mP h9) (mP h8),fun h9=>by have:=hw2 (mP h9);simp[more,this],fun h9=>by have:=hw4 (mP h9);simp[more,this],mO hw3⟩
  ·intro L a' W' hI hLj hE K' hK
   obtain⟨V,rfl,⟨mq,mr,mD,mE,mF,mH,mQ⟩,hw0,hw1,hw2,hw4,hw3⟩:=hI
   go_simp
   exact hK.out _ _ ⟨fun m9=>if m9=2 then .pointer (some ⟨(ak x).1,0,none⟩)else V m9,rfl,⟨mO mq,mO mr,fun _=>rfl,mO mE,mO mF,mO mH,mO mQ⟩,mO hw0,fun h9 h8=>hw1 (mP h9) (mP h8),fun h9=>by have:=hw2 (mP h9);simp[more,this],fun h9=>by have:=hw4 (mP h9);simp[more,this],mO hw3⟩
  ·intro L a' W' hI hLj hE K' hK
   obtain⟨V,rfl,⟨mq,mr,mD,mE,mF,mH,mQ⟩,hw0,hw1,hw2,hw4,hw3⟩:=hI
   have el2:=hE ⟨2,.data⟩ (by simp) rfl
   have lZ:=mD el2
   rw[lZ]
   go_simp
   exact hK.out _ _ ⟨fun m9=>if m9=3 then .pointer (some ⟨(ak x).1,0,none⟩)else V m9,(by simp[lZ]),⟨mO mq,mO mr,mO mD,fun _=>rfl,mO mF,mO mH,mO mQ⟩,mO hw0,fun h9 h8=>hw1 (mP h9) (mP h8),fun h9=>by have:=hw2 (mP h9);simp[more,this],fun h9=>by have:=hw4 (mP h9);simp[more,this],mO hw3⟩
  ·intro L a' W' hI hLj hE K' hK
   obtain⟨V,rfl,⟨mq,mr,mD,mE,mF,mH,mQ⟩,hw0,hw1,hw2,hw4,hw3⟩:=hI
   have el3:=hE ⟨3,.data⟩ (by simp) rfl
   have ma:=mE el3
   have h5:L 5=false:=by
    cases h9:L 5 with
    |false=>rfl
    |true=>have:=hw2 h9;rw[hLj]at this;cases this
   obtain rfl:=hw0 h5
   have d0:W.drew.cell? ⟨(ak x).1,0,none⟩=some (.int .i64 (ak x).2.ky):=cB0
   have d1:W.drew.cell? ⟨(ak x).1,1,none⟩=some (.int .i64 (ak x).2.st):=cB1
   have d2:W.drew.cell? ⟨(ak x).1,2,none⟩=some (.int .i64 (ak x).2.en):=cB2
   have d3:W.drew.cell? ⟨(ak x).1,3,none⟩=some (.int .i64 (ak x).2.an):=cB3
   have d4:W.drew.cell? ⟨(ak x).1,4,none⟩=some (.int .i64 (ak x).2.asu):=cB4
   have d5:W.drew.cell? ⟨(ak x).1,5,none⟩=some (.int .i64 (ak x).2.ale):=cB5
   have d6:W.drew.cell? ⟨(ak x).1,6,none⟩=some (.int .i64 (ak x).2.amo):=cB6
   have d7:W.drew.cell? ⟨(ak x).1,7,none⟩=some (.int .i64 (ak x).2.fn):=cB7
   have d8:W.drew.cell? ⟨(ak x).1,8,none⟩=some (.int .i64 (ak x).2.fsu):=cB8
   have d9:W.drew.cell? ⟨(ak x).1,9,none⟩=some (.int .i64 (ak x).2.fle):=cB9
   have d10:W.drew.cell? ⟨(ak x).1,10,none⟩=some (.int .i64 (ak x).2.fmo):=cB10
   have d11:W.drew.cell? ⟨(ak x).1,11,none⟩=some (.int .i64 (ak x).2.td):=cB11
   have d12:W.drew.cell? ⟨(ak x).1,12,none⟩=some (.bool (ak x).2.tm):=cB12
   rw[ma]
   go_simp
   exact hK.out _ _ ⟨fun m9=>if m9=4 then .agg #[.int .i64 (ak x).2.ky,.int .i64 (ak x).2.st,.int .i64 (ak x).2.en,.int .i64 (ak x).2.an,.int .i64 (ak x).2.asu,.int .i64 (ak x).2.ale,.int .i64 (ak x).2.amo,.int .i64 (ak x).2.fn,.int .i64 (ak x).2.fsu,.int .i64 (ak x).2.fle,.int .i64 (ak x).2.fmo,.int .i64 (ak x).2.td,.bool (ak x).2.tm]else V m9,(by simp[ma]),⟨mO mq,mO mr,mO mD,mO mE,fun _=>rfl,mO mH,mO mQ⟩,mO hw0,fun h9 h8=>hw1 (mP h9) (mP h8),fun h9=>by have:=hw2 (mP h9);simp[more,this],fun h9=>by have:=hw4 (mP h9);simp[more,this],mO hw3⟩
  ·intro L a' W' hI hLj hE K' hK
   obtain⟨V,rfl,⟨mq,mr,mD,mE,mF,mH,mQ⟩,hw0,hw1,hw2,hw4,hw3⟩:=hI
   have el4:=hE ⟨4,.data⟩ (by simp) rfl
   have mc:=mF el4
   obtain rfl:=hw0 hLj
   have h6:L 6=false:=by
    cases h9:L 6 with
    |false=>rfl
    |true=>have:=(hw4 h9).1;rw[hLj]at this;cases this
   rw[mc]
   go_simp
   exact hK.out _ _ ⟨fun m9=>if m9=5 then .slice (some ⟨W.heap.size,0,none⟩) 1 1 else V m9,(by simp[mc]),⟨mO mq,mO mr,mO mD,mO mE,mO mF,fun _=>rfl,mO mQ⟩,fun h9=>(by simp[more]at h9),fun h9 h8=>rfl,fun h9=>by simp[more,el4],fun h9=>by simp[more,h6]at h9,fun h9=>by simp[more,h6]at h9⟩
  ·intro L a' W' hI hLj hE K' hK
   obtain⟨V,rfl,⟨mq,mr,mD,mE,mF,mH,mQ⟩,hw0,hw1,hw2,hw4,hw3⟩:=hI
   have el1:=hE ⟨1,.data⟩ (by simp) rfl
   have lR:=mr el1
   have el5:=hE ⟨5,.data⟩ (by simp) rfl
   have me:=mH el5
   obtain rfl:=hw1 el5 hLj
   refine gp rfl _ _ 25 rfl w.heap.size 57 i0 _ 13 104 Tryz.underlying25 hi hz0' hz1' hz2' rfl (by decide) rv pre.length (ba (pre.map (fun x=>(ak x).2))) (show V 1=rv from lR) (World.ownsRow.alloc (ab HR) _) ⟨W.heap.size,0,none⟩ 1 1 [.int .i64 (ak x).2.ky,.int .i64 (ak x).2.st,.int .i64 (ak x).2.en,.int .i64 (ak x).2.an,.int .i64 (ak x).2.asu,.int .i64 (ak x).2.ale,.int .i64 (ak x).2.amo,.int .i64 (ak x).2.fn,.int .i64 (ak x).2.fsu,.int .i64 (ak x).2.fle,.int .i64 (ak x).2.fmo,.int .i64 (ak x).2.td,.bool (ak x).2.tm] (show V 5=_ from me) rfl (aX W _ _ _ _ _ _ _ _ _ _ _ _ _ _) (nT) (by unfold maxLen;omega) (by omega) (by have:=hB.size;simp;omega) ?_
   intro v' w' hown' ml _
   exact hK.out _ _ ⟨fun m9=>if m9=6 then v' else V m9,rfl,⟨mO mq,mO mr,mO mD,mO mE,mO mF,mO mH,mO mQ⟩,fun h9=>by simp[more,el5]at h9,fun _ h8=>by simp[more]at h8,fun h9=>by have:=hw2 (mP h9);simp[more,this],fun h9=>by simp[more,el5,el1],fun h9=>ae ⟨hown',ml⟩⟩
  ·intro L a' W' hI hLj hE K' hK
   obtain⟨V,rfl,⟨mq,mr,mD,mE,mF,mH,mQ⟩,hw0,hw1,hw2,hw4,hw3⟩:=hI
   go_simp
   exact hK.out _ _ ⟨fun m9=>if m9=7 then .pointer (some ⟨w.heap.size+1,1,none⟩)else V m9,rfl,⟨mO mq,mO mr,mO mD,mO mE,mO mF,mO mH,fun _=>rfl⟩,mO hw0,fun h9 h8=>hw1 (mP h9) (mP h8),fun h9=>by have:=hw2 (mP h9);simp[more,this],fun h9=>by have:=hw4 (mP h9);simp[more,this],mO hw3⟩
  ·intro L a' W' hI hA K' hK
   obtain⟨V,rfl,⟨mq,mr,mD,mE,mF,mH,mQ⟩,hw0,hw1,hw2,hw4,hw3⟩:=hI
   have mg:=mQ (hA 7 (by decide))
   obtain⟨hown',ml⟩:=ab (hw3 (hA 6 (by decide)))
   have hneS:rv.ownBlock≠some (w.heap.size+1):=af (ab HR) (ab HS) (by decide)
   have hneR:rv.ownBlock≠some (w.heap.size):=af (ab HR) (ab HRb) (by decide)
   have bS:W'.heap[w.heap.size+1]? =some (.cells #[.int .i64 m,rv] 27 (0,0)):=(ml.block _ (oa) (fun e=>hneS e.symm)).trans ((Below.heap_alloc _ _ _ zS).trans (ab HS))
   have bR:W'.heap[w.heap.size]? =some (.cells #[.int .i64 0,.slice none 0 0] 27 (0,0)):=(ml.block _ (oa) (fun e=>hneR e.symm)).trans ((Below.heap_alloc _ _ _ (by omega)).trans (ab HRb))
   have k0:W'.cell? ⟨w.heap.size+1,0,none⟩=some (.int .i64 m):=cA bS 0
   have k1:W'.cell? ⟨w.heap.size+1,1,none⟩=some rv:=cA bS 1
   have f1:=cF bS 1
   rw[mg]
   obtain⟨v6,mK⟩:∃v6,V 6=v6:=⟨_,rfl⟩
   rw[mK]at hown' ⊢
   obtain⟨g6,c6,rfl⟩:=ownsRow_succ hown'
   go_simp
   refine hK.out _ _ ?_
   have hbF:Below w.heap.size w (W'.setCell ⟨w.heap.size+1,1,none⟩ (.slice (some ⟨g6,0,none⟩) (pre.length+1) c6)):=av (Below.grown (ap (ag hB _)) ml (by have:=hB.size;simp;omega) (fun k9 e9=>aE (ab HR) k9 e9)) (by simp) _
   have hkp:gi W (W'.setCell ⟨w.heap.size+1,1,none⟩ (.slice (some ⟨g6,0,none⟩) (pre.length+1) c6)):=((gi.bel (ap (aq W _))).trans (gi.grown ml (fun r9 e9=>own_cells (World.ownsRow.alloc (ab HR) _) r9 e9))).trans (gi.set _ bS (by decide))
   refine⟨hkp.from _,hkp.kpo,⟨_,Joins.block_setCell bS _,?_,by rw[List.length_append];simp;omega,(Below.heap_setCell _ _ _ _ (by simp)).trans bR,hbF⟩⟩
   rw[List.map_append,List.length_append]
   simp only[List.map_cons,List.map_nil,List.length_cons,List.length_nil]
   rw[fM]
   exact al hown' (by simpa using af hown' bS (by decide))
 case done=>
  rintro D ys W hD hys ⟨rv,hS,hrow,hpn,hRb,hB⟩ hK
  have hyE:=inO hrise hok hys
  have hyl:ys.length=es.length:=by have h9:=congrArg List.length hyE;rw[List.length_map]at h9;exact h9
  have hym:ys.map (fun x=>(ak x).2)=es.map (fun e=>e.2):=by have h9:=congrArg (List.map (fun e:bz=>e.2)) hyE;rw[List.map_map]at h9;exact h9
  rw[hyl,hym]at hrow
  have hsl:∃a c,rv= .slice a es.length c:=by
   rcases hrow.2 with⟨rfl,h0⟩|⟨g9,cap9,cur,rfl,_⟩
   ·exact⟨none,0,by rw[h0]⟩
   ·exact⟨_,_,rfl⟩
  obtain⟨a,c,rfl⟩:=hsl
  have k0:W.cell? ⟨w.heap.size+1,0,none⟩=some (.int .i64 m):=cA hS 0
  have k1:W.cell? ⟨w.heap.size+1,1,none⟩=some (.slice a es.length c):=cA hS 1
  have j0:W.cell? ⟨w.heap.size,0,none⟩=some (.int .i64 0):=cA hRb 0
  have j1:W.cell? ⟨w.heap.size,1,none⟩=some (.slice none 0 0):=cA hRb 1
  obtain⟨f0,f1⟩:=f2 hRb
  have zS:w.heap.size+1<W.heap.size:=(Array.getElem?_eq_some_iff.1 hS).1
  gi_wp2
  have hneD:D≠w.heap.size:=by rintro rfl;rw[hRb]at hK;cases hK
  have bF:((W.setCell ⟨w.heap.size,0,none⟩ (.int .i64 m)).setCell ⟨w.heap.size,1,none⟩ (.slice a es.length c)).heap[w.heap.size]? =some (.cells #[.int .i64 m,.slice a es.length c] 27 (0,0)):=Joins.block_setCell (Joins.block_setCell hRb _) _
  have hKF:((W.setCell ⟨w.heap.size,0,none⟩ (.int .i64 m)).setCell ⟨w.heap.size,1,none⟩ (.slice a es.length c)).heap[D]? =some (.deferred (some [])):=(Below.heap_setCell _ _ _ _ hneD).trans ((Below.heap_setCell _ _ _ _ hneD).trans hK)
  have hOF:=al (u:= .slice a es.length c) (p:=⟨w.heap.size,1,none⟩) (al (u:= .int .i64 m) (p:=⟨w.heap.size,0,none⟩) hrow (af hrow hRb (by decide))) (af hrow hRb (by decide))
  have hbF:Below w.heap.size w ((W.setCell ⟨w.heap.size,0,none⟩ (.int .i64 m)).setCell ⟨w.heap.size,1,none⟩ (.slice a es.length c)):=av (av hB (Nat.le_refl _) _) (Nat.le_refl _) _
  generalize ((W.setCell ⟨w.heap.size,0,none⟩ (.int .i64 m)).setCell ⟨w.heap.size,1,none⟩ (.slice a es.length c))=WF at bF hKF hOF hbF ⊢
  refine⟨by simp,.inl ⟨_,_,rfl,run_takeDeferred hKF,?_⟩⟩
  have bG:(WF.putObj D (.deferred none)).heap[w.heap.size]? =some (.cells #[.int .i64 m,.slice a es.length c] 27 (0,0)):=(World.putObj_heap_other (fun e9=>hneD e9.symm)).trans bF
  have g0:(WF.putObj D (.deferred none)).cell? ⟨w.heap.size,0,none⟩=some (.int .i64 m):=cA bG 0
  have g1:(WF.putObj D (.deferred none)).cell? ⟨w.heap.size,1,none⟩=some (.slice a es.length c):=cA bG 1
  refine⟨.agg #[.int .i64 m,.slice a es.length c],(by simp(maxDischargeDepth:=9) [results,Tryz.results31,go_sem, *]),a,c,rfl,?_,?_⟩
  ·unfold aS
   rw[List.length_map]
   exact ownsRow_putObj hOF _ hKF rfl
  ·exact hbF.trans (belowK_b (w:=w) (Nat.le_refl _) WF D _ _ (by simp at hD;omega) hKF rfl rfl)
 case stop=>
  rintro D c pre W _ _ hx _
  exact hx.elim
end Go.Proofs.YtdmhihcipkhecaaGreat
namespace Go.Proofs.YtdmhihcipkhecaaGreat
open Go.ChangeShapes Go.WideShapes Go.ChangeAt Go.RowKit Go.Deep
section
variable {P : Program} {ops : Array Oper} {Q : Exit → Act → World → Prop} {md : Region.Mode} {S0 : World → Prop} {sp : List Nat}
/-- No spoiler has come up. -/
def unsp(sp:List Nat)(l:Array Bool):Bool:=sp.all fun s=> !(l.getD s true)
/-- The condition, as long as no spoiler has come up. -/
def SL(sp:List Nat)(S0:World→Prop)(l:Array Bool)(w:World):Prop:=unsp sp l=true→S0 w
theorem SL_of{l:Array Bool}{w:World}(h:unsp sp l=false):SL sp S0 l w:=fun h9=>by rw[h]at h9;cases h9
theorem jw{l:Array Bool}{i:Nat}(h:i ∉ sp):unsp sp (l.setIfInBounds i true)=unsp sp l:=by
 unfold unsp
 induction sp with
 |nil=>rfl
 |cons s sp ih=>
  simp only[List.all_cons]
  rw[ih (fun h9=>h (List.mem_cons_of_mem _ h9)),getD_set_ne true (fun e=>h (by rw[e];exact List.mem_cons_self))]
/-- All that those who have come up waited for has come up. -/
def fQ(md:Region.Mode)(ops:Array Oper)(l:Array Bool):Prop:=∀(s:Nat) (o:Oper),ops[s]? =some o→l.getD s false=true→∀e ∈ o.after,Region.binds md e=true→l.getD e.on false=true
def lq(md:Region.Mode)(ops:Array Oper)(l:Array Bool):Bool:=(List.range ops.size).all fun s=> !(l.getD s false)||(match ops[s]? with
 |none=>true
 |some o=>o.after.all fun e=> !(Region.binds md e)||l.getD e.on false)
theorem gT{l:Array Bool}(h:lq md ops l=true):fQ md ops l:=by
 intro s o ho hl e he hb
 have hs:s<ops.size:=(Array.getElem?_eq_some_iff.1 ho).1
 have h1:=List.all_eq_true.1 h s (List.mem_range.2 hs)
 rw[hl,ho]at h1
 simp only[Bool.not_true,Bool.false_or]at h1
 have h2:=Array.all_eq_true_iff_forall_mem.1 h1 e he
 rw[hb]at h2
 simpa using h2
theorem fQ.set{l:Array Bool}{j:Nat}{oj:Oper}(h:fQ md ops l)(hj:ops[j]? =some oj)(hall:∀e ∈ oj.after,Region.binds md e=true→l.getD e.on false=true):fQ md ops (l.setIfInBounds j true):=by
 intro s o ho hl e he hb
 by_cases hsj:j=s
 ·subst hsj
  rw[hj]at ho
  cases ho
  exact getD_set_true (hall e he hb)
 ·rw[getD_set_ne false hsj]at hl
  exact getD_set_true (h s o ho hl e he hb)
/-- Number s fF, through others, for number i. -/
def kB(md:Region.Mode)(ops:Array Oper)(i:Nat):Nat→Nat→Bool
 |0,s=>s==i
 |f+1,s=>s==i||(match ops[s]? with
  |none=>false
  |some o=>o.after.any fun e=>Region.binds md e&&kB md ops i f e.on)
theorem gU{l:Array Bool}{i:Nat}(h:fQ md ops l):∀(f s:Nat),kB md ops i f s=true→l.getD s false=true→l.getD i false=true
 |0,s,hr,hl=>by
  have:s=i:=by simpa[kB]using hr
  rw[←this];exact hl
 |f+1,s,hr,hl=>by
  unfold kB at hr
  rw[Bool.or_eq_true]at hr
  rcases hr with hr|hr
  ·have:s=i:=by simpa using hr
   rw[←this];exact hl
  ·cases ho:ops[s]? with
   |none=>rw[ho]at hr;cases hr
   |some o=>
    rw[ho]at hr
    obtain⟨e,he,h2⟩:∃e ∈ o.after,(Region.binds md e&&kB md ops i f e.on)=true:=by
     obtain⟨k,hk,h8⟩:=Array.any_eq_true.1 hr
     exact⟨_,Array.getElem_mem hk,h8⟩
    rw[Bool.and_eq_true]at h2
    exact gU h f e.on h2.2 (h s o ho hl e he h2.1)
/-- All spoilers wait for number i, which is none. -/
def spWait(md:Region.Mode)(ops:Array Oper)(sp:List Nat)(i:Nat):Bool:=sp.all fun s=> !(s==i)&&decide (s<ops.size)&&kB md ops i 8 s
theorem unl{l:Array Bool}{i:Nat}(h:l.getD i true=false):l.getD i false=false:=by
 rcases Nat.lt_or_ge i l.size with h'|h'
 ·simp[h']at h ⊢;exact h
 ·simp[Array.getElem?_eq_none h']at h
theorem spWait_un{l:Array Bool}{i:Nat}(hw:spWait md ops sp i=true)(hc:fQ md ops l)(hz:l.size=ops.size)(hi:l.getD i true=false):unsp sp l=true:=by
 unfold unsp
 rw[List.all_eq_true]
 intro s hs
 have h1:=List.all_eq_true.1 hw s hs
 simp only[Bool.and_eq_true,decide_eq_true_eq]at h1
 cases hl:l.getD s true with
 |false=>rfl
 |true=>
  have hlf:l.getD s false=true:=by
   have hs':s<l.size:=by omega
   simp[hs']at hl ⊢;exact hl
  have:=gU hc 8 s h1.2 hlf
  rw[unl hi]at this
  cases this
theorem spWait_not{i:Nat}(hw:spWait md ops sp i=true):i ∉ sp:=fun h=>by
 have h1:=List.all_eq_true.1 hw i h
 simp at h1
/-- Whatever order is picked from here on, and the condition holds behind every operation till a spoiler has come up. -/
def dR(P:Program)(md:Region.Mode)(ops:Array Oper)(Q:Exit→Act→World→Prop)(sp:List Nat)(S0:World→Prop):Nat→Array Bool→Act→World→Prop
 |0,listed,a,w=>Region.ready md ops listed=[]∧Q .normal a w
 |fuel+1,listed,a,w=>(Region.ready md ops listed=[]→Q .normal a w)∧∀i ∈ Region.ready md ops listed,wpOp P ops Q i (fun a' w'=>SL sp S0 (listed.setIfInBounds i true) w'∧dR P md ops Q sp S0 fuel (listed.setIfInBounds i true) a' w') a w
theorem jx:∀(fuel:Nat) (listed:Array Bool) (a:Act) (w:World),dR P md ops Q sp S0 fuel listed a w→wpAny P md ops Q fuel listed a w
 |0,_,_,_,h=>h
 |fuel+1,_,_,_,h=>⟨h.1,fun i hi=>wpOp_mono (fun a' w' h'=>jx fuel _ a' w' h'.2) (h.2 i hi)⟩
theorem gV{T:World→Prop}{i:Nat}{oi:Oper}{v:Value}(hi:ops[i]? =some oi)(hsel:∀(j:Nat) (o:Oper) cs b,ops[j]? =some o→o.op≠ .select cs b)(hQ:∀c a w,Q (.panic c) (a.put oi.dst v) w→Q (.panic c) a w)(hisp:i ∉ sp)(hT:∀l w,fQ md ops l→l.size=ops.size→l.getD i true=false→SL sp S0 l w→T w):
  ∀(fuel:Nat) (listed:Array Bool) (a:Act) (w:World),
   (∀j oj,ops[j]? =some oj→j≠i→listed.getD j true=false→(∀e ∈ oj.after,Region.binds md e=true→e.on≠i)→oi.apart ops oj=true)→
   i ∈ Region.ready md ops listed→fQ md ops listed→listed.size=ops.size→YieldsIf P ops T oi v a→SL sp S0 listed w→
   dR P md ops Q sp S0 fuel (listed.setIfInBounds i true) (a.put oi.dst v) w→dR P md ops Q sp S0 (fuel+1) listed a w:=by
 intro fuel
 induction fuel with
 |zero=>
  intro listed a w _ hr hc hz hy hS H
  refine⟨fun h=>(by rw[h]at hr;cases hr),fun j hj=>?_⟩
  by_cases hji:j=i
  ·subst hji
   exact hy.wpOp hi (hT listed w hc hz (mem_ready.1 hr).1 hS) ⟨fun h9=>hS (by rw[jw hisp]at h9;exact h9),H⟩
  ·have:=ready_mono hj hji
   rw[H.1]at this
   cases this
 |succ fuel ih=>
  intro listed a w hfree hr hc hz hy hS H
  refine⟨fun h=>(by rw[h]at hr;cases hr),fun j hj=>?_⟩
  by_cases hji:j=i
  ·subst hji
   exact hy.wpOp hi (hT listed w hc hz (mem_ready.1 hr).1 hS) ⟨fun h9=>hS (by rw[jw hisp]at h9;exact h9),H⟩
  ·have h1:=H.2 j (ready_mono hj hji)
   obtain⟨hjun,oj,hoj,hall⟩:=mem_ready.1 hj
   have hnot:∀e ∈ oj.after,Region.binds md e=true→e.on≠i:=fun e he hb heq=>by
    have h1:=hall e he hb
    have h0:=(mem_ready.1 hr).1
    rw[heq,unl h0]at h1
    cases h1
   have h2:=wpOp_putIf hoj (hfree j oj hoj hji hjun hnot) (fun cs b=>hsel i oi cs b hi) (fun cs b=>hsel j oj cs b hoj) hQ hy h1
   have hfree':∀k ok,ops[k]? =some ok→k≠i→(listed.setIfInBounds j true).getD k true=false→
     (∀e ∈ ok.after,Region.binds md e=true→e.on≠i)→oi.apart ops ok=true:=fun k ok hk hki hun hno=>by
    refine hfree k ok hk hki ?_ hno
    by_cases hjk:j=k
    ·subst hjk;exact hjun
    ·rw[getD_set_ne true hjk]at hun;exact hun
   have hsame:∀w',SL sp S0 ((listed.setIfInBounds i true).setIfInBounds j true) w'→SL sp S0 (listed.setIfInBounds j true) w':=fun w' h9 h8=>h9 (by
    rw[Array.setIfInBounds_comm _ _ (Ne.symm hji),jw hisp];exact h8)
   refine wpOp_mono (fun a' w' h3=>⟨hsame w' h3.2.1,ih (listed.setIfInBounds j true) a' w' hfree' (ready_mono hr (Ne.symm hji)) (hc.set hoj hall) (by simpa using hz) h3.1 (hsame w' h3.2.1) ?_⟩) h2
   rw[Array.setIfInBounds_comm _ _ hji]
   exact h3.2.2
/-- Taken first, by what holds till a spoiler has come up. -/
theorem aZ{i:Nat}{oi:Oper}{v:Value}{fuel:Nat}{listed:Array Bool}{a:Act}{w:World}(hi:ops[i]? =some oi)(hs:Region.noSelect ops=true)(hf:Region.free md ops listed i=true)(hr:(Region.ready md ops listed).contains i=true)(hc:(lq md ops listed&&decide (listed.size=ops.size)&&spWait md ops sp i)=true)(hQ:∀c a w,Q (.panic c) (a.put oi.dst v) w→Q (.panic c) a w)(hy:YieldsIf P ops S0 oi v a)(hS:S0 w)
  (h:dR P md ops Q sp S0 fuel (listed.setIfInBounds i true) (a.put oi.dst v) w):dR P md ops Q sp S0 (fuel+1) listed a w:=by
 simp only[Bool.and_eq_true,decide_eq_true_eq]at hc
 exact gV hi (Region.noSelect_spec hs) hQ (spWait_not hc.2) (fun l w hcl hz hli hSL=>hSL (spWait_un hc.2 hcl hz hli)) fuel listed a w (Region.free_spec hi hf) (by simpa using hr) (gT hc.1.1) hc.1.2 hy (fun _=>hS) h
/-- Taken first: it yields its value in whatever world. -/
theorem aF{i:Nat}{oi:Oper}{v:Value}{fuel:Nat}{listed:Array Bool}{a:Act}{w:World}(hi:ops[i]? =some oi)(hs:Region.noSelect ops=true)(hf:Region.free md ops listed i=true)(hr:(Region.ready md ops listed).contains i=true)(hc:(lq md ops listed&&decide (listed.size=ops.size)&& !(sp.contains i))=true)(hQ:∀c a w,Q (.panic c) (a.put oi.dst v) w→Q (.panic c) a w)(hy:YieldsIf P ops (fun _=>True) oi v a)(hS:SL sp S0 listed w)
  (h:dR P md ops Q sp S0 fuel (listed.setIfInBounds i true) (a.put oi.dst v) w):dR P md ops Q sp S0 (fuel+1) listed a w:=by
 simp only[Bool.and_eq_true,decide_eq_true_eq,Bool.not_eq_true',]at hc
 exact gV hi (Region.noSelect_spec hs) hQ (by simpa using hc.2) (fun _ _ _ _ _ _=>trivial) fuel listed a w (Region.free_spec hi hf) (by simpa using hr) (gT hc.1.1) hc.1.2 hy hS h
theorem ef{listed:Array Bool}{a:Act}{w:World}(hr:Region.ready md ops listed=[])(h:Q .normal a w):
  ∀fuel,dR P md ops Q sp S0 fuel listed a w
 |0=>⟨hr,h⟩
 |_+1=>⟨fun _=>h,by rw[hr];simp⟩
/-- Each of the operations comes up next. -/
def aL(P:Program)(md:Region.Mode)(ops:Array Oper)(Q:Exit→Act→World→Prop)(sp:List Nat)(S0:World→Prop)(fuel:Nat)(listed:Array Bool)(a:Act)(w:World)(rs:List Nat):Prop:=
 ∀i ∈ rs,wpOp P ops Q i (fun a' w'=>SL sp S0 (listed.setIfInBounds i true) w'∧dR P md ops Q sp S0 fuel (listed.setIfInBounds i true) a' w') a w
theorem aL.nil{fuel:Nat}{listed:Array Bool}{a:Act}{w:World}:aL P md ops Q sp S0 fuel listed a w []:=fun _ h=>by cases h
theorem aL.cons{fuel:Nat}{listed:Array Bool}{a:Act}{w:World}{i:Nat}{o:Oper}{rs:List Nat}(ho:ops[i]? =some o)
  (h:∀K':Act→World→Prop,Shut (∀a w,S0 w→(S0 w→dR P md ops Q sp S0 fuel (listed.setIfInBounds i true) a w)→K' a w)→if Region.wanted o (yielded ops a.tmps)=true then Oper.wp P o a w K' Q else K' (a.put o.dst undef) w)
  (hs:aL P md ops Q sp S0 fuel listed a w rs):aL P md ops Q sp S0 fuel listed a w (i :: rs):=fun j hj=>by
 rcases List.mem_cons.1 hj with rfl|hj
 ·exact wpOp_step ho (fun K' hK=>h K' (fun a w hS hW=>hK a w ⟨fun _=>hS,hW hS⟩))
 ·exact hs j hj
/-- One that is a spoiler, or comes behind one. -/
theorem aL.consS{fuel:Nat}{listed:Array Bool}{a:Act}{w:World}{i:Nat}{o:Oper}{rs:List Nat}(ho:ops[i]? =some o)(hu:unsp sp (listed.setIfInBounds i true)=false)
  (h:∀K':Act→World→Prop,Shut (∀a w,dR P md ops Q sp S0 fuel (listed.setIfInBounds i true) a w→K' a w)→if Region.wanted o (yielded ops a.tmps)=true then Oper.wp P o a w K' Q else K' (a.put o.dst undef) w)
  (hs:aL P md ops Q sp S0 fuel listed a w rs):aL P md ops Q sp S0 fuel listed a w (i :: rs):=fun j hj=>by
 rcases List.mem_cons.1 hj with rfl|hj
 ·exact wpOp_step ho (fun K' hK=>h K' (fun a w hW=>hK a w ⟨SL_of hu,hW⟩))
 ·exact hs j hj
theorem bf{rs:List Nat}{fuel:Nat}{listed:Array Bool}{a:Act}{w:World}(hr:Region.ready md ops listed=rs)(hne:rs≠ [])
  (h:aL P md ops Q sp S0 fuel listed a w rs):dR P md ops Q sp S0 (fuel+1) listed a w:=⟨fun h0=>absurd (hr ▸ h0) hne,hr ▸ h⟩
theorem eh{id:Nat}{a:Act}{w:World}(sp:List Nat)(S0:World→Prop)(hm:P.follows .mixedOrders=true)(hS:S0 w.drew)
  (h:S0 w.drew→dR P .any ops Q sp S0 ops.size (Array.replicate ops.size false) a w.drew):(Code.region id ops true).wp P Q a w:=
 wp_region_any hm (jx _ _ _ _ (h hS))
end
end Go.Proofs.YtdmhihcipkhecaaGreat
namespace Go.Proofs.YtdmhihcipkhecaaGreat
open Go.ChangeShapes Go.WideShapes Go.ChangeAt Go.RowKit
set_option linter.unusedSimpArgs false
theorem own_upB{W W':World}{B:Nat}{e:TypeId}{size n:Nat}{v:Value}{xs:List Value}(h:W.ownsRow B e size v n xs)(hb:∀b,v.ownBlock=some b→W'.heap[b]? =W.heap[b]?):W'.ownsRow B e size v n xs:=by
 rcases h with⟨hl,h|⟨g,cap,cur,rfl,hB,hblk,r⟩⟩
 ·exact⟨hl,Or.inl h⟩
 ·exact⟨hl,Or.inr ⟨g,cap,cur,rfl,hB,(hb g rfl).trans hblk,r⟩⟩
theorem newsOr{W:World}{a:Option Addr}{n:Nat}{xs:List aC}{q:Addr}(h:cO W a n xs)(ha:a=some q):∀j u,(ba xs)[j]? =some u→W.cell? (q.add j)=some u:=by
 intro j u hu
 obtain⟨h1,_,h3⟩:=h
 have hj:j<xs.length*13:=by rw[←gC];exact(List.getElem?_eq_some_iff.1 hu).1
 have hi:j / 13<xs.length:=by omega
 obtain⟨g,o,e,hat⟩:=h3.resolve_left (by omega)
 rw[ha]at e
 cases e
 have e:((⟨g,o,none⟩:Addr).add j)=⟨g,o+j,none⟩:=by
  unfold Addr.add
  split
  ·rename_i h0;rw[h0];rfl
  ·rfl
 rw[e]
 obtain⟨x,hx⟩:∃x,xs[j / 13]? =some x:=⟨_,List.getElem?_eq_getElem hi⟩
 obtain⟨f0,f1,f2,f3,f4,f5,f6,f7,f8,f9,f10,f11,f12⟩:=jh hx
 obtain⟨c0,c1,c2,c3,c4,c5,c6,c7,c8,c9,cZ,c11,c12⟩:=hat (j / 13) x hx
 have hmod:j=j / 13*13∨j=j / 13*13+1∨j=j / 13*13+2∨j=j / 13*13+3∨j=j / 13*13+4∨j=j / 13*13+5∨j=j / 13*13+6∨j=j / 13*13+7∨j=j / 13*13+8∨j=j / 13*13+9∨j=j / 13*13+10∨j=j / 13*13+11∨j=j / 13*13+12:=by omega
 rcases hmod with hj|hj|hj|hj|hj|hj|hj|hj|hj|hj|hj|hj|hj
 ·rw[hj,f0]at hu;cases hu;rw[hj];exact c0
 ·rw[hj,f1]at hu;cases hu;rw[hj,←Nat.add_assoc];exact c1
 ·rw[hj,f2]at hu;cases hu;rw[hj,←Nat.add_assoc];exact c2
 ·rw[hj,f3]at hu;cases hu;rw[hj,←Nat.add_assoc];exact c3
 ·rw[hj,f4]at hu;cases hu;rw[hj,←Nat.add_assoc];exact c4
 ·rw[hj,f5]at hu;cases hu;rw[hj,←Nat.add_assoc];exact c5
 ·rw[hj,f6]at hu;cases hu;rw[hj,←Nat.add_assoc];exact c6
 ·rw[hj,f7]at hu;cases hu;rw[hj,←Nat.add_assoc];exact c7
 ·rw[hj,f8]at hu;cases hu;rw[hj,←Nat.add_assoc];exact c8
 ·rw[hj,f9]at hu;cases hu;rw[hj,←Nat.add_assoc];exact c9
 ·rw[hj,f10]at hu;cases hu;rw[hj,←Nat.add_assoc];exact cZ
 ·rw[hj,f11]at hu;cases hu;rw[hj,←Nat.add_assoc];exact c11
 ·rw[hj,f12]at hu;cases hu;rw[hj,←Nat.add_assoc];exact c12
theorem dr{W:World}{B:Nat}{e:TypeId}{size n:Nat}{v:Value}{xs:List Value}(h:W.ownsRow B e size v n xs):∃a c,v= .slice a n c:=by
 rcases h.2 with⟨rfl,h0⟩|⟨g,cap,cur,rfl,_⟩
 ·exact⟨none,0,by rw[h0]⟩
 ·exact⟨_,_,rfl⟩
theorem own_geV{W:World}{B:Nat}{e:TypeId}{s n:Nat}{v:Value}{xs:List Value}(h:W.ownsRow B e s v n xs):∀q,v.ownBlock=some q→B≤q:=fun q hq=>(h.lt q hq).1
theorem blk_new{W:World}{g:Nat}{o:Obj}(hg:g=W.heap.size):(W.alloc o).heap[g]? =some o:=by
 subst hg
 exact heap_alloc_new _ _
theorem iW{P:Program}{o:Oper}{y:_}{a:Act}{w:World}{K:Act→World→Prop}{Q:Exit→Act→World→Prop}{E:Prop}
  (hg:o.guard=none) (s x:Operand) (t:TypeId) (hop:o.op=Op.call {callee:=Callee.builtin Builtin.append,args:=#[s,x],argTypes:=#[t,t]})
  (e:TypeId) (i:TypeInfo) (z:Value) (size bytes:Nat) (h1:P.underlying t=some (.slice e)) (h2:P.info? e=some i) (h3:i.zero=some z) (h4:i.size=size) (h5:i.bytes=bytes) (h6:z.cells.size=size) (h7:0<size)
  (g B:Nat) (hB:B≤g) (hs:a.eval s= .slice (some ⟨g,0,none⟩) 0 0) (hlit:w.heap[g]? =some (.cells #[] e (0,0)))
  (ao:Option Addr) (m c:Nat) (news:List Value) (hx:a.eval x= .slice ao m c) (hn:news.length=m*size) (hao:ao=none→m=0) (hc:∀q,ao=some q→∀j u,news[j]? =some u→w.cell? (q.add j)=some u) (b1:m≤maxLen) (b2:m*bytes≤140737488355328)
  (hK:∀v' w',w'.ownsRow B e size v' m news→Below w.heap.size w w'→(∀b,v'.ownBlock=some b→b=g∨w.heap.size≤b∧b<w'.heap.size)→K (a.put o.dst v') w'):
  if Region.wanted o y=true then Oper.wp P o a w K Q else E:=by
 have hw:Region.wanted o y=true:=by simp[Region.wanted,hg]
 rw[if_pos hw]
 have hgl:g<w.heap.size:=(Array.getElem?_eq_some_iff.1 hlit).1
 by_cases hm:m=0
 ·subst hm
  obtain rfl:news=[]:=List.eq_nil_of_length_eq_zero (by simpa using hn)
  have hrun:(Builtin.append_ #[t,t] o.type #[.slice (some ⟨g,0,none⟩) 0 0,.slice ao 0 c]).run P w= .ok (.slice (some ⟨g,0,none⟩) 0 0) w:=by
   cases ao<;>simp[Builtin.append_,run_underlying h1,sizeOf,typeInfo,h2,Builtin.lenOf,Builtin.firstCells,storeCells,loadCells,loadCellsFrom]
  unfold Oper.wp
  simp[execOp,hop,resolve,invoke,builtin,hs,hx,hrun,Result.andThen]
  exact hK _ _ ⟨by simp,Or.inr ⟨g,0,#[],rfl,hB,hlit,Nat.le_refl _,by unfold maxLen;omega,by simp,by simp⟩⟩ (Below.refl _ _) (fun b hb=>Or.inl (by simpa[Value.ownBlock]using hb.symm))
 ·cases ao with
  |none=>exact absurd (hao rfl) hm
  |some q=>
   obtain⟨v',w',hrun,r1,r2⟩:=run_append_arg_grows (P:=P) w t o.type e i z size bytes h1 h2 h3 h4 h5 h6 h7 ⟨g,0,none⟩ 0 0 [] (by simp) (fun j u hj=>by simp at hj) q m c news hn (hc q rfl) (by omega) (by omega) (by simpa using b2)
   rw[Nat.zero_add,List.nil_append]at r1
   have hb:Below w.heap.size w w':=(Below.refl _ w).grown r2 (Nat.le_refl _) (fun k hk=>by cases hk)
   unfold Oper.wp
   simp[execOp,hop,resolve,invoke,builtin,hs,hx,hrun,Result.andThen]
   exact hK _ _ (World.ownsRow.mono r1 (by omega)) hb (fun b hb'=>Or.inr (World.ownsRow.lt r1 b hb'))
theorem own_setC{W:World}{p:Addr}{u:Value}{B:Nat}{e:TypeId}{size n:Nat}{v:Value}{xs:List Value}(h:W.ownsRow B e size v n xs)(hp:p.block<B):(W.setCell p u).ownsRow B e size v n xs:=own_upB h (fun b hv=>Below.heap_setCell _ _ _ _ (fun e=>by have:=own_geV h b hv;omega))
set_option maxRecDepth 20000 in
set_option maxHeartbeats 4000000 in
theorem eT(m:Int)(a:Option Addr)(len cap:Nat)(xs:List aC)(w:World)(h:cO w a len xs)(hl:len≤1048576):Calls Tryz.prog 33 #[.agg #[.int .i64 m,.slice a len cap]] w fun e w'=>∃v,e= .returned (.agg #[.int .i64 m,v])∧w'.ownsRow (w.heap.size+2) 57 13 v len (ba xs)∧Below w.heap.size w w':=by
 obtain⟨i0,hi,hz0,hz1,hz2⟩:=info_parts Tryz.infoOr
 have hxl:=h.1
 have hnil:a=none→len=0:=fun e=>by
  rcases h.2.2 with h9|⟨g,o,e2,_⟩
  ·exact h9
  ·rw[e]at e2;cases e2
 have hb0:Below w.heap.size w (((w.alloc (.cells #[.int .i64 m,.slice a len cap] 27)).alloc (.cells #[.int .i64 0,.slice none 0 0] 27)).drew.alloc (.cells #[] 57)):=ag (ap (ag (aq _ _) _)) _
 have HG:=h.below hb0
 have hLit:(((w.alloc (.cells #[.int .i64 m,.slice a len cap] 27)).alloc (.cells #[.int .i64 0,.slice none 0 0] 27)).drew.alloc (.cells #[] 57)).heap[w.heap.size+1+1]? =some (.cells #[] 57 (0,0)):=blk_new (by simp)
 have hY0:(((w.alloc (.cells #[.int .i64 m,.slice a len cap] 27)).alloc (.cells #[.int .i64 0,.slice none 0 0] 27)).drew.alloc (.cells #[] 57)).heap[w.heap.size+1]? =some (.cells #[.int .i64 0,.slice none 0 0] 27 (0,0)):=((aq ((w.alloc (.cells #[.int .i64 m,.slice a len cap] 27)).alloc (.cells #[.int .i64 0,.slice none 0 0] 27)).drew (.cells #[] 57)).block _ (by simp)).trans (blk_new (by simp))
 go_enter Tryz.func33,Tryz.ntmps33
 go_wp2_with fail
 refine eh [] (fun W=>W.cell? ⟨w.heap.size,0,none⟩=some (.int .i64 m)∧W.cell? ⟨w.heap.size,1,none⟩=some (.slice a len cap)) (oc) ?_ (fun hHeld=>?_)
 ·(try dsimp only);exact⟨by first|(with_reducible assumption)|(simp[go_sem, *];done),by first|(with_reducible assumption)|(simp[go_sem, *];done)⟩
 refine aZ (i:=0) (v:=?_) (nP) (oc) (oc) (oc) (oc) (nQ) (Or.inl ⟨by rfl,?_⟩) (nZ) ?_
 rotate_left
 ·(intro w9 hSw;(try dsimp only at hSw);go_simp<;>with_reducible rfl)
 try simp only[Act.put,tA,tZ,tS]
 refine aZ (i:=1) (v:=?_) (nP) (oc) (oc) (oc) (oc) (nQ) (Or.inl ⟨by rfl,?_⟩) (nZ) ?_
 rotate_left
 ·(intro w9 hSw;(try dsimp only at hSw);go_simp<;>with_reducible rfl)
 try simp only[Act.put,tA,tZ,tS]
 refine aZ (i:=3) (v:=?_) (nP) (oc) (oc) (oc) (oc) (nQ) (Or.inl ⟨by rfl,?_⟩) (nZ) ?_
 rotate_left
 ·(intro w9 hSw;(try dsimp only at hSw);go_simp<;>with_reducible rfl)
 try simp only[Act.put,tA,tZ,tS]
 refine aZ (i:=4) (v:=?_) (nP) (oc) (oc) (oc) (oc) (nQ) (Or.inl ⟨by rfl,?_⟩) (nZ) ?_
 rotate_left
 ·(intro w9 hSw;(try dsimp only at hSw);go_simp<;>with_reducible rfl)
 try simp only[Act.put,tA,tZ,tS]
 refine bf (rs:=[2]) (oc) (by simp) ?_
 refine aL.cons (nP) (fun K hK=>?_) aL.nil
 go_simp
 refine hK.out _ _ ?_ (fun mj=>?_)
 ·(try dsimp only);exact⟨by first|(with_reducible assumption)|(simp[go_sem, *];done),by first|(with_reducible assumption)|(simp[go_sem, *];done)⟩
 clear hK K hHeld
 have hHeld:=mj
 clear mj
 try simp only[Act.put,tA,tZ,tS]
 refine bf (rs:=[5]) (oc) (by simp) ?_
 refine aL.cons (nP) (fun K hK=>?_) aL.nil
 (refine iW rfl _ _ 25 rfl 57 i0 _ 13 104 Tryz.underlying25 hi hz0 hz1 hz2 rfl (by decide) (w.heap.size+1+1) (w.heap.size+2) (by omega) rfl hLit _ len _ (ba xs) rfl (by rw[gC,hxl]) hnil (fun q hq=>newsOr HG hq) (by unfold maxLen;omega) (by omega) ?_;intro v' W' hown hbW hblk;obtain⟨va,vc,rfl⟩:=dr hown;have hY:=(hbW.block (w.heap.size+1) (by simp)).trans hY0;have gz:w.heap.size+1<W'.heap.size:=(by have h9:=hbW.size;(try simp at h9);omega);have g0:W'.cell? ⟨w.heap.size,0,none⟩=some (.int .i64 m):=(hbW.cell (p:=⟨w.heap.size,0,none⟩) (oa)).trans (nV);have g1:W'.cell? ⟨w.heap.size,1,none⟩=some (.slice a len cap):=(hbW.cell (p:=⟨w.heap.size,1,none⟩) (oa)).trans (nV);obtain⟨r0,r1⟩:=c2 hY;have f0:W'.frozen? ⟨w.heap.size+1,0,none⟩=false:=(by simp[World.frozen?,hY,go_sem]);have f1:W'.frozen? ⟨w.heap.size+1,1,none⟩=false:=(by simp[World.frozen?,hY,go_sem]);have Ho:=ae hown;have hbF:=am hb0 hbW;clear hown hY)
 refine hK.out _ _ ?_ (fun mj=>?_)
 ·(try dsimp only);exact⟨by first|(with_reducible assumption)|(simp[go_sem, *];done),by first|(with_reducible assumption)|(simp[go_sem, *];done)⟩
 clear hK K hHeld
 have hHeld:=mj
 clear mj
 try simp only[Act.put,tA,tZ,tS]
 refine aZ (i:=6) (v:=?_) (nP) (oc) (oc) (oc) (oc) (nQ) (Or.inl ⟨by rfl,?_⟩) (nZ) ?_
 rotate_left
 ·(intro w9 hSw;(try dsimp only at hSw);go_simp<;>with_reducible rfl)
 try simp only[Act.put,tA,tZ,tS]
 refine bf (rs:=[7]) (oc) (by simp) ?_
 refine aL.cons (nP) (fun K hK=>?_) aL.nil
 go_simp
 refine hK.out _ _ ?_ (fun mj=>?_)
 ·(try dsimp only);exact⟨by first|(with_reducible assumption)|(simp[go_sem, *];done),by first|(with_reducible assumption)|(simp[go_sem, *];done)⟩
 clear hK K hHeld
 have hHeld:=mj
 clear mj
 try simp only[Act.put,tA,tZ,tS]
 refine ef (oc) ?_ _
 go_wp2
 refine bodyPost_ret (v:= .agg #[.int .i64 m,.slice va len vc]) (by simp(maxDischargeDepth:=9) [results,Tryz.results33,go_sem, *]) rfl ⟨_,rfl,?_,?_⟩
 ·repeat(first|(with_reducible exact ab Ho)|(with_reducible refine own_setC ?_ (by simp)))
 ·repeat(first|(with_reducible exact hbF)|(with_reducible refine av ?_ (by simp) _))
theorem cE{W:World}{B g:Nat}(ty k:Nat)(h:B≤W.heap.size)(hg:g=W.heap.size):(W.alloc (.cells #[] ty)).ownsRow B ty k (.slice (some ⟨g,0,none⟩) 0 0) 0 []:=by
 subst hg
 exact World.ownsRow_lit (base:=B) (size:=k) W #[] 0 h (Nat.zero_le _) (by simp)
end Go.Proofs.YtdmhihcipkhecaaGreat
