/- Laid together: what the claim needs of the texts that were built one by one. -/
import Derived.Test.YtealpjmannopeaaGreatV24
import Derived.Test.YtealpjmannopeaaGreatV0
import Derived.Test.YtealpjmannopeaaGreatV19
import Derived.Test.YtealpjmannopeaaGreatV9
import Derived.Test.YtealpjmannopeaaGreatV20
import Derived.Test.YtealpjmannopeaaGreatV21
set_option linter.unusedVariables false
namespace Go.Proofs.YtealpjmannopeaaGreat
open Go.RowKit Go.Shelf
attribute [local go_sem] Oper.semAt_some
theorem iM{W W':World}(h:Below W.heap.size W W'):KeepsOthers W W':=KeepsOthers.of_grownBy (iK h) (fun _ _ e=>by cases e)
/-- The mark behind items, if each may follow. -/
def dP(x:It)(m:Int):Option Int:=if cx x.q x.t x.k x.v x.n m=true then some (dO x.q x.t m)else none
def dX:List It→Int→Option Int
 | [],m=>some m
 |x :: r,m=>(dP x m).bind (dX r)
theorem gk(p r:List It)(m:Int):dX (p++r) m=(dX p m).bind (dX r):=by
 induction p generalizing m with
 |nil=>rfl
 |cons x p ih=>
  show(dP x m).bind (dX (p++r))=((dP x m).bind (dX p)).bind (dX r)
  cases dP x m with
  |none=>rfl
  |some m'=>exact ih m'
theorem runM_snoc(p:List It)(x:It)(m:Int):dX (p++[x]) m=(dX p m).bind (dP x):=by
 rw[gk]
 cases dX p m with
 |none=>rfl
 |some m'=>
  show(dP x m').bind (dX [])=dP x m'
  cases dP x m'<;>rfl
theorem runM_none{p xs:List It}(h:p <+: xs)(hn:dX p 0=none):dX xs 0=none:=by
 obtain⟨r,rfl⟩:=h
 rw[gk,hn];rfl
theorem stepM_go(x:It)(m:Int)(r:List It)(ih:∀m,cI r m=(dX r m).isSome):cI (x :: r) m=((dP x m).bind (dX r)).isSome:=by
 obtain⟨q,t,k,v,n⟩:=x
 show(cH q t k v n&& !(q==3)&&(if q=2 then decide (m<t)&&cI r t else cI r m))=_
 unfold dP
 dsimp only
 by_cases h1:q=1
 ·subst h1
  rw[iX,show cx 1 t k v n m=bI t k v n from rfl,show dO 1 t m=m from rfl]
  cases bI t k v n
  ·rfl
  ·simpa using ih m
 by_cases h2:q=2
 ·subst h2
  rw[iY,show cx 2 t k v n m=(aS t k v n&&decide (m<t))from rfl]
  cases aS t k v n
  ·rfl
  ·by_cases h4:m<t
   ·rw[show dO 2 t m=t from hiI_d h4,decide_eq_true h4]
    simpa using ih t
   ·rw[decide_eq_false h4];rfl
 rw[if_neg h2,show cx q t k v n m=false from by unfold cx;rw[if_neg h1,if_neg h2]]
 by_cases h3:q=3
 ·subst h3
  simp
 ·rw[iZ h1 h2 h3];rfl
theorem logGo_run(xs:List It)(m:Int):cI xs m=(dX xs m).isSome:=by
 induction xs generalizing m with
 |nil=>rfl
 |cons x r ih=>exact stepM_go x m r ih
theorem gl{xs:List It}(h:aP (xs.length:Int) 1 40=false):bt xs=false:=by unfold bt;rw[h];rfl
theorem okLog_last{xs:List It}{y:It}{n:Nat}(h:aP (xs.length:Int) 1 40=true)(hl:xs.length=n+1)(hy:xs[n]? =some y):bt xs=(y.endB&&(dX xs 0).isSome):=by
 have hlast:xs.getLast? =some y:=by rw[List.getLast?_eq_getElem?];simpa[hl]using hy
 unfold bt
 rw[hlast,h,logGo_run];rfl
set_option maxRecDepth 100000 in
set_option maxHeartbeats 2000000 in
theorem gm(a:Option Addr)(len cap:Nat)(xs:List It)(w:World)(h:Its w a len xs):Calls Tryz.prog 128 #[.slice a len cap] w fun e w'=>e= .returned (.bool (bt xs))∧Below w.heap.size w w':=by
 have hm:=h.2.1
 have hxl:=h.1
 unfold maxLen at hm
 by_cases h1:(len:Int)<1
 ·have hq:Hid (bt xs=false):=ab (gl (dQ (by omega)))
  go_enter Tryz.func128,Tryz.ntmps128
  go_wp2
  refine bodyPost_ret (v:= .bool false) (by simp[results,Tryz.results128,go_sem]) rfl ⟨af (aa hq).symm,?_⟩
  exact(aL)
 by_cases h2:(40:Int)<(len:Int)
 ·have hq:Hid (bt xs=false):=ab (gl (dQ (by omega)))
  go_enter Tryz.func128,Tryz.ntmps128
  go_wp2
  refine bodyPost_ret (v:= .bool false) (by simp[results,Tryz.results128,go_sem]) rfl ⟨af (aa hq).symm,?_⟩
  exact(aL)
 refine(callsIn_wide (n:=6)).1 ?_
 refine callsIn_of_wp_marks Tryz.func128 rfl trivial ?_ rfl
 simp only[Tryz.ntmps128,List.size_toArray,List.length_cons,List.length_nil,Nat.reduceAdd,Nat.reduceSub,Array.replicate_succ,Array.replicate_zero,List.push_toArray,List.append_toArray,List.nil_append,List.cons_append]
 obtain⟨n,rfl⟩:∃n,len=n+1:=⟨len - 1,by omega⟩
 obtain⟨g,o,rfl,hr⟩:=h.2.2.resolve_left (by omega)
 obtain⟨y,hy⟩:∃y,xs[n]? =some y:=⟨_,List.getElem?_eq_getElem (by omega)⟩
 have hg:g<w.heap.size:=hr.lt (by omega)
 have hlow:∀g' o',0<n+1→(some ⟨g,o,none⟩:Option Addr)=some ⟨g',o',none⟩→g'<w.heap.size:=by
  intro g' o' _ e
  simp at e
  omega
 have HL:=ab (okLog_last (fS (by omega) (by omega)) hxl hy)
 obtain⟨q,t,k,v,nn⟩:=y
 have hyc:=(hr n _ hy).get
 gi_wp2_with (refine⟨trivial,?_⟩;gi_at_call 95;refine(callsIn_wide.2 (jd _ _ _ _)).mono ?_;rintro e w' ⟨rfl,rfl⟩)
 have bR:=Boxed.new w 4 (.bool false)
 have bM:=Boxed.new (w.alloc (.cells #[.bool false] 4)) 3 (.int .i64 0)
 have bN:=Boxed.new ((w.alloc (.cells #[.bool false] 4)).alloc (.cells #[.int .i64 0] 3)) 62 (.slice (some ⟨g,o,none⟩) (n+1) cap)
 rw[World.size_alloc]at bM
 rw[World.size_alloc,World.size_alloc]at bN
 have hB0:Below w.heap.size w (((w.alloc (.cells #[.bool false] 4)).alloc (.cells #[.int .i64 0] 3)).alloc (.cells #[.slice (some ⟨g,o,none⟩) (n+1) cap] 62)):=aJ (aJ (ai _ _) _) _
 refine wpIn_rangeFunc_ownG rfl (by omega) (gf:=139) (lb:=#[.pointer (some ⟨w.heap.size+1+1,0,none⟩)]) rfl trivial (enters_of Tryz.func139 (jl) rfl)
  (parts_stops _ (by omega) (w.heap.size+1+1) w.heap.size (n+1) cap _ xs _ (by simp) (jk) bN.cell (h.below hB0) hlow) belowK_t (belowK_b (jk)) (Below.refl _ _) (fun _=>rfl)
  (fun pre W=>(∃mk,dX pre 0=some mk∧(W.cell? ⟨w.heap.size,0,none⟩=some (.bool false)∧W.frozen? ⟨w.heap.size,0,none⟩=false)∧W.cell? ⟨w.heap.size+1,0,none⟩=some (.int .i64 mk)∧W.frozen? ⟨w.heap.size+1,0,none⟩=false)∧Below w.heap.size w W)
  (fun c pre W=>(c= .ret∧dX pre 0=none∧W.cell? ⟨w.heap.size,0,none⟩=some (.bool false))∧Below w.heap.size w W)
  (OwnFrom.and (Own.from (fun s A B row hs hg hr=>by obtain⟨mk,e1,⟨e2,e3⟩,e4,e5⟩:=hs;exact⟨mk,e1,⟨cell_kept e2 hg hr,(frozen_kept e2 hg hr).trans e3⟩,cell_kept e4 hg hr,(frozen_kept e4 hg hr).trans e5⟩) _) (ownFrom_below (Nat.le_refl _) (jk)))
  (fun c=>OwnFrom.and (Own.from (fun s A B row hs hg hr=>⟨hs.1,hs.2.1,cell_kept hs.2.2 hg hr⟩) _) (ownFrom_below (Nat.le_refl _) (jk)))
  ⟨⟨0,rfl,⟨((bR.alloc _).alloc _).cell,((bR.alloc _).alloc _).frozen⟩,(bM.alloc _).cell,(bM.alloc _).frozen⟩,hB0⟩
  (fun x=> {tmps:=#[.slice (some ⟨g,o,none⟩) (n+1) cap,undef,.pointer (some ⟨w.heap.size,0,none⟩),.pointer (some ⟨w.heap.size+1,0,none⟩),cu x.q x.t x.k x.v x.n,.slice (some ⟨g,o,none⟩) (n+1) cap,.int .i64 ((n:Int)+1),.bool (decide ((n:Int)+1<1)),.bool (decide ((n:Int)+1<1)),.slice (some ⟨g,o,none⟩) (n+1) cap,.int .i64 ((n:Int)+1),.bool (decide (40<(n:Int)+1)),.bool (decide ((n:Int)+1<1)||decide (40<(n:Int)+1)),.slice (some ⟨g,o,none⟩) (n+1) cap,.func (.func 139) #[] #[.pointer (some ⟨w.heap.size+1+1,0,none⟩)],cu x.q x.t x.k x.v x.n,undef,undef,undef,undef,undef,undef,undef,undef,undef,undef,undef,undef,undef,undef,undef],defers:=[]}) ?assign ?body ?done ?stop
 case assign=>
  intro l x W K hK
  gi_wp2
  exact hK
 case body=>
  rintro l pre x W ⟨⟨mk,hrun,⟨hcr,hfr⟩,hcm,hfm⟩,hB⟩ _
  have hz0:=aA hcr
  have hz1:=aA hcm
  have hst:=ab (runM_snoc pre x 0)
  have hRun:=ab hrun
  clear hrun
  cases hf:cx x.q x.t x.k x.v x.n mk
  ·have hn:=ab (show dX (pre++[x]) 0=none by rw[aa hst,aa hRun];show dP x mk=none;unfold dP;rw[hf];rfl)
   gi_wp2_with (first
    |(refine⟨trivial,?_⟩;gi_at_call 163;refine(CallsIn.inRound l (callsIn_wide.2 (gV _ _ _ _ _ _ _))).mono ?_;rintro e w1 ⟨rfl,hb1⟩;obtain⟨hc1,hf1,hs1⟩:=ac hb1))
   exact⟨((iM hb1).trans (KeepsOthers.setCell _ _ _)).from _,⟨rfl,aa hn,World.cell?_setCell_same' _ _ _ (by rw[hc1 _ _ hz0,hcr];rfl)⟩,(hB.trans (hb1.mono hB.size)).setCell (p:=⟨w.heap.size,0,none⟩) (Nat.le_refl _) _⟩
  ·have hn:=ab (show dX (pre++[x]) 0=some (dO x.q x.t mk) by rw[aa hst,aa hRun];show dP x mk=_;unfold dP;rw[hf];rfl)
   gi_wp2_with (first
    |(refine⟨trivial,?_⟩;gi_at_call 163;refine(CallsIn.inRound l (callsIn_wide.2 (gV _ _ _ _ _ _ _))).mono ?_;rintro e w1 ⟨rfl,hb1⟩;obtain⟨hc1,hf1,hs1⟩:=ac hb1)
    |(refine⟨trivial,?_⟩;gi_at_call 164;refine(CallsIn.inRound l (callsIn_wide.2 (lbehind_any _ _ _ _ _ _ _))).mono ?_;rintro e w2 ⟨rfl,hb2⟩;obtain⟨hc2,hf2,hs2⟩:=ac hb2))
   have hb3:=ae hb1 hb2
   obtain⟨hc3,hf3,_⟩:=ac hb3
   refine⟨((iM hb3).trans (KeepsOthers.setCell _ _ _)).from _,(hb3.mono hB.size).setCell (p:=⟨w.heap.size+1,0,none⟩) (by simp) _,⟨_,aa hn,⟨?_,?_⟩,World.cell?_setCell_same' _ _ _ (by rw[hc3 _ _ hz1,hcm];rfl),?_⟩,(hB.trans (hb3.mono hB.size)).setCell (p:=⟨w.heap.size+1,0,none⟩) (by simp) _⟩
   ·rw[aG (by simp),hc3 _ _ hz0];exact hcr
   ·rw[World.frozen?_setCell,hf3 _ _ hz0];exact hfr
   ·rw[World.frozen?_setCell,hf3 _ _ hz1];exact hfm
 case done=>
  rintro D ys W hD hys ⟨⟨mk,hrun,⟨hcr,hfr⟩,hcm,hfm⟩,hB⟩ hK
  obtain rfl:=hys.symm
  obtain⟨c0,c1,c2,c3,c4⟩:=((hr n _ hy).below hB hg).get
  clear hyc
  by_cases e0:q=2
  case neg=>
   have hq:Hid (bt xs=false):=ab (by rw[aa HL,hrun];simp[It.endB,e0])
   gi_wp2
   have hK':=(KeepsOthers.setCell W ⟨w.heap.size,0,none⟩ (.bool false)).same D _ hK rfl
   refine⟨by simp,.inl ⟨_,_,rfl,run_takeDeferred hK',?_⟩⟩
   have hc5:=cell_kept (World.cell?_setCell_same' W ⟨w.heap.size,0,none⟩ (.bool false) (by rw[hcr];rfl)) (grownBy_putObj' _ D (.deferred none)) (fun r e=>by cases e;exact⟨_,hK',rfl⟩)
   refine⟨.bool false,?_,af (aa hq).symm,(hB.setCell (p:=⟨w.heap.size,0,none⟩) (Nat.le_refl _) _).trans (belowK_b (w:=w) (Nat.le_refl _) _ D _ _ (by simp at hD;omega) hK' rfl rfl)⟩
   simp[results,Tryz.f128,go_sem,hc5]
  by_cases e1:t=1000
  case neg=>
   have hq:Hid (bt xs=false):=ab (by rw[aa HL,hrun];simp[It.endB,e0,e1])
   gi_wp2
   have hK':=(KeepsOthers.setCell W ⟨w.heap.size,0,none⟩ (.bool false)).same D _ hK rfl
   refine⟨by simp,.inl ⟨_,_,rfl,run_takeDeferred hK',?_⟩⟩
   have hc5:=cell_kept (World.cell?_setCell_same' W ⟨w.heap.size,0,none⟩ (.bool false) (by rw[hcr];rfl)) (grownBy_putObj' _ D (.deferred none)) (fun r e=>by cases e;exact⟨_,hK',rfl⟩)
   refine⟨.bool false,?_,af (aa hq).symm,(hB.setCell (p:=⟨w.heap.size,0,none⟩) (Nat.le_refl _) _).trans (belowK_b (w:=w) (Nat.le_refl _) _ D _ _ (by simp at hD;omega) hK' rfl rfl)⟩
   simp[results,Tryz.f128,go_sem,hc5]
  by_cases e2:k=0
  case neg=>
   have hq:Hid (bt xs=false):=ab (by rw[aa HL,hrun];simp[It.endB,e0,e1,e2])
   gi_wp2
   have hK':=(KeepsOthers.setCell W ⟨w.heap.size,0,none⟩ (.bool false)).same D _ hK rfl
   refine⟨by simp,.inl ⟨_,_,rfl,run_takeDeferred hK',?_⟩⟩
   have hc5:=cell_kept (World.cell?_setCell_same' W ⟨w.heap.size,0,none⟩ (.bool false) (by rw[hcr];rfl)) (grownBy_putObj' _ D (.deferred none)) (fun r e=>by cases e;exact⟨_,hK',rfl⟩)
   refine⟨.bool false,?_,af (aa hq).symm,(hB.setCell (p:=⟨w.heap.size,0,none⟩) (Nat.le_refl _) _).trans (belowK_b (w:=w) (Nat.le_refl _) _ D _ _ (by simp at hD;omega) hK' rfl rfl)⟩
   simp[results,Tryz.f128,go_sem,hc5]
  by_cases e3:v=0
  case neg=>
   have hq:Hid (bt xs=false):=ab (by rw[aa HL,hrun];simp[It.endB,e0,e1,e2,e3])
   gi_wp2
   have hK':=(KeepsOthers.setCell W ⟨w.heap.size,0,none⟩ (.bool false)).same D _ hK rfl
   refine⟨by simp,.inl ⟨_,_,rfl,run_takeDeferred hK',?_⟩⟩
   have hc5:=cell_kept (World.cell?_setCell_same' W ⟨w.heap.size,0,none⟩ (.bool false) (by rw[hcr];rfl)) (grownBy_putObj' _ D (.deferred none)) (fun r e=>by cases e;exact⟨_,hK',rfl⟩)
   refine⟨.bool false,?_,af (aa hq).symm,(hB.setCell (p:=⟨w.heap.size,0,none⟩) (Nat.le_refl _) _).trans (belowK_b (w:=w) (Nat.le_refl _) _ D _ _ (by simp at hD;omega) hK' rfl rfl)⟩
   simp[results,Tryz.f128,go_sem,hc5]
  by_cases e4:nn=0
  case neg=>
   have hq:Hid (bt xs=false):=ab (by rw[aa HL,hrun];simp[It.endB,e0,e1,e2,e3,e4])
   gi_wp2
   have hK':=(KeepsOthers.setCell W ⟨w.heap.size,0,none⟩ (.bool false)).same D _ hK rfl
   refine⟨by simp,.inl ⟨_,_,rfl,run_takeDeferred hK',?_⟩⟩
   have hc5:=cell_kept (World.cell?_setCell_same' W ⟨w.heap.size,0,none⟩ (.bool false) (by rw[hcr];rfl)) (grownBy_putObj' _ D (.deferred none)) (fun r e=>by cases e;exact⟨_,hK',rfl⟩)
   refine⟨.bool false,?_,af (aa hq).symm,(hB.setCell (p:=⟨w.heap.size,0,none⟩) (Nat.le_refl _) _).trans (belowK_b (w:=w) (Nat.le_refl _) _ D _ _ (by simp at hD;omega) hK' rfl rfl)⟩
   simp[results,Tryz.f128,go_sem,hc5]
  have hq:Hid (bt xs=true):=ab (by rw[aa HL,hrun];simp[It.endB,e0,e1,e2,e3,e4])
  gi_wp2
  have hK':=(KeepsOthers.setCell W ⟨w.heap.size,0,none⟩ (.bool true)).same D _ hK rfl
  refine⟨by simp,.inl ⟨_,_,rfl,run_takeDeferred hK',?_⟩⟩
  have hc5:=cell_kept (World.cell?_setCell_same' W ⟨w.heap.size,0,none⟩ (.bool true) (by rw[hcr];rfl)) (grownBy_putObj' _ D (.deferred none)) (fun r e=>by cases e;exact⟨_,hK',rfl⟩)
  refine⟨.bool true,?_,af (aa hq).symm,(hB.setCell (p:=⟨w.heap.size,0,none⟩) (Nat.le_refl _) _).trans (belowK_b (w:=w) (Nat.le_refl _) _ D _ _ (by simp at hD;omega) hK' rfl rfl)⟩
  simp[results,Tryz.f128,go_sem,hc5]
 case stop=>
  rintro D c pre W hD hpre ⟨⟨rfl,hrun,hcr⟩,hB⟩ hK
  have hq:Hid (bt xs=false):=ab (by rw[aa HL,runM_none hpre hrun];simp)
  gi_wp2
  refine⟨by simp,.inl ⟨_,_,rfl,run_takeDeferred hK,?_⟩⟩
  have hc5:=cell_kept hcr (grownBy_putObj' _ D (.deferred none)) (fun r e=>by cases e;exact⟨_,hK,rfl⟩)
  refine⟨.bool false,?_,af (aa hq).symm,hB.trans (belowK_b (w:=w) (Nat.le_refl _) W D _ _ (by simp at hD;omega) hK rfl rfl)⟩
  simp[results,Tryz.f128,go_sem,hc5]
end Go.Proofs.YtealpjmannopeaaGreat
namespace Go.Proofs.YtealpjmannopeaaGreat
open Go.ChangeShapes Go.WideShapes Go.ChangeAt Go.RowKit Go.Deep
set_option linter.unusedSimpArgs false
set_option maxRecDepth 20000 in
set_option maxHeartbeats 4000000 in
theorem everyLg(a:Option Addr)(len cap:Nat)(xs:List cb)(B:Nat)(w:World)(h:ee w B a len xs):Calls Tryz.prog 127 #[.slice a len cap,.func (.func 128) #[] #[]] w fun e' w'=>e'= .returned (.bool (xs.all cb.okB))∧Below w.heap.size w w':=by
 have hm:=h.2.1
 unfold maxLen at hm
 go_enter Tryz.func127,Tryz.ntmps127
 go_wp2
 go_loopw [9] (fun i wr=>∃ix:Nat,ix≤len∧i= .int .i64 ix∧Hid ((xs.take ix).all cb.okB=true)∧Below w.heap.size w wr) (fun i _=>len - (intOf i).toNat)
 case atStart=>exact⟨0,Nat.zero_le _,rfl,ab (by simp),Below.refl _ _⟩
 case round=>
  obtain⟨ix,hk,rfl,hA,hbw⟩:=hrel
  by_cases hlt:ix<len
  ·obtain⟨hxl,_,hx⟩:=h
   obtain⟨g,o,rfl,_,hr⟩:=hx.resolve_left (by omega)
   obtain⟨x,hxk⟩:∃x,xs[ix]? =some x:=⟨_,List.getElem?_eq_getElem (by omega)⟩
   have hX:=ab hxk
   obtain⟨a0,l0,c0,d0,k0⟩:=(hr ix _ hxk).below hbw
   rw[Nat.mul_one]at d0
   have hfold:bt (x.q.map itOf)=x.okB:=rfl
   clear hx hxk hr
   cases hB:cb.okB x
   ·have HE:Hid (xs.all cb.okB=false):=ab (all_ff (aa hX) hB)
    go_wp2_with (go_at_call 128;refine(gm a0 l0 c0 (x.q.map itOf) _ (its_of (k0.1.below (ak)))).mono ?_;rw[hfold,hB];rintro e' wf ⟨rfl,hbf⟩)
    go_ret
    exact⟨af (aa HE).symm,(ak)⟩
   ·have HE:Hid ((xs.take (ix+1)).all cb.okB=true):=ab (all_tt (aa hA) (aa hX) hB)
    go_wp2_with (go_at_call 128;refine(gm a0 l0 c0 (x.q.map itOf) _ (its_of (k0.1.below (ak)))).mono ?_;rw[hfold,hB];rintro e' wf ⟨rfl,hbf⟩)
    go_roundw
    case rel=>exact⟨ix+1,by omega,by go_num,HE,(ak)⟩
    case measure=>simp[intOf];omega
  ·have HE:Hid (xs.all cb.okB=true):=ab (cj (aa hA) (by have:=h.1;omega))
   go_wp2
   go_ret
   exact⟨af (aa HE).symm,hbw⟩
/-- What tasks ask of a flow's box. -/
def FlJ(X:fL)(W:World)(jb:Nat):Prop:=eI X.s X.t X.k X.z X.p X.l X.e X.v X.r X.b W jb∧W.cell? ⟨jb,14,none⟩=some (.int .i64 X.n)
theorem FlJ.bel{X:fL}{W W':World}{jb B:Nat}(h:FlJ X W jb)(hb:Below B W W')(hB:jb<B):FlJ X W' jb:=⟨h.1.bel hb hB,(hb.cell (p:=⟨jb,14,none⟩) hB).trans h.2⟩
set_option maxRecDepth 20000 in
set_option maxHeartbeats 4000000 in
theorem tclo_any(X:fL)(jb:Nat)(x:dk)(a0:Option Addr)(l0 c0:Nat)(a2:Option Addr)(l2 c2:Nat)(a5:Option Addr)(l5 c5:Nat)(a6:Option Addr)(l6 c6:Nat)(B:Nat)(w:World)(h0:fm w B a0 l0 x.ins)(h2:dG w B a2 l2 x.rows)(h5:cK w B a5 l5 x.ps)(h6:cN w B a6 l6 x.ls)(hj:FlJ X w jb)(hjb:jb<w.heap.size):Calls Tryz.prog 130 #[.agg #[.slice a0 l0 c0,.int .i64 x.om,.slice a2 l2 c2,.int .i64 x.wl,.int .i64 x.pn,.slice a5 l5 c5,.slice a6 l6 c6],.pointer (some ⟨jb,0,none⟩)] w fun e' w'=>e'= .returned (.bool (bC X.s X.t X.k X.z X.p X.l X.e X.v X.r X.n x))∧Below w.heap.size w w':=by
 have hj2:=hj.bel (ai w (.cells #[.slice a0 l0 c0,.int .i64 x.om,.slice a2 l2 c2,.int .i64 x.wl,.int .i64 x.pn,.slice a5 l5 c5,.slice a6 l6 c6] 140)) hjb
 unfold FlJ eI at hj2
 obtain⟨⟨j0,j1,j2,j3,j4,j5,j6,j7,j8,j9⟩,j14⟩:=hj2
 cases q1:bc X.s X.t X.k X.z X.p X.l X.e X.v X.r x.om x.wl x.pn ⟨x.ins,x.rows,x.ps,x.ls⟩
 ·have HE:Hid (bC X.s X.t X.k X.z X.p X.l X.e X.v X.r X.n x=false):=ab (by unfold bC;rw[q1];rfl)
  go_enter Tryz.func130,Tryz.ntmps130
  go_wp2_with (go_at_call 131;refine(fw X.s X.t X.k X.z X.p X.l X.e X.b X.v X.r a0 l0 c0 x.om a2 l2 c2 x.wl x.pn a5 l5 c5 a6 l6 c6 ⟨x.ins,x.rows,x.ps,x.ls⟩ B _ ⟨h0.below (ak),h2.below (ak),h5.below (ak),h6.below (ak)⟩).mono ?_;rw[q1];rintro e' y1 ⟨rfl,hb1⟩)
  go_ret
  exact⟨af (aa HE).symm,(ak)⟩
 ·have HE:Hid (bC X.s X.t X.k X.z X.p X.l X.e X.v X.r X.n x=decide (x.wl≤X.n)):=ab (by
   unfold bC;rw[q1,Bool.true_and]
   by_cases h:X.n<x.wl
   ·rw[decide_eq_true h,decide_eq_false (by omega)];rfl
   ·rw[decide_eq_false h,decide_eq_true (by omega)];rfl)
  have zjw:jb<w.heap.size:=hjb
  go_enter Tryz.func130,Tryz.ntmps130
  go_wp2_with (go_at_call 131;refine(fw X.s X.t X.k X.z X.p X.l X.e X.b X.v X.r a0 l0 c0 x.om a2 l2 c2 x.wl x.pn a5 l5 c5 a6 l6 c6 ⟨x.ins,x.rows,x.ps,x.ls⟩ B _ ⟨h0.below (ak),h2.below (ak),h5.below (ak),h6.below (ak)⟩).mono ?_;rw[q1];rintro e' y1 ⟨rfl,hb1⟩;obtain⟨hc1,hf1,hs1⟩:=ac hb1;have k14:=(hj.bel (ae (ai w (.cells #[.slice a0 l0 c0,.int .i64 x.om,.slice a2 l2 c2,.int .i64 x.wl,.int .i64 x.pn,.slice a5 l5 c5,.slice a6 l6 c6] 140)) hb1) hjb).2;have hz1:w.heap.size<y1.heap.size:=(by have h9:=hb1.size;(try simp at h9);omega))
  go_ret
  exact⟨af (aa HE).symm,(ak)⟩
set_option maxRecDepth 20000 in
set_option maxHeartbeats 4000000 in
theorem everyTk(X:fL)(jb:Nat)(a:Option Addr)(len cap:Nat)(xs:List dk)(B:Nat)(w:World)(h:eH w B a len xs)(hj:FlJ X w jb)(hjb:jb<w.heap.size):Calls Tryz.prog 129 #[.slice a len cap,.func (.func 130) #[] #[.pointer (some ⟨jb,0,none⟩)]] w fun e' w'=>e'= .returned (.bool (xs.all (bC X.s X.t X.k X.z X.p X.l X.e X.v X.r X.n)))∧Below w.heap.size w w':=by
 have hm:=h.2.1
 unfold maxLen at hm
 go_enter Tryz.func129,Tryz.ntmps129
 go_wp2
 go_loopw [9] (fun i wr=>∃ix:Nat,ix≤len∧i= .int .i64 ix∧Hid ((xs.take ix).all (bC X.s X.t X.k X.z X.p X.l X.e X.v X.r X.n)=true)∧Below w.heap.size w wr) (fun i _=>len - (intOf i).toNat)
 case atStart=>exact⟨0,Nat.zero_le _,rfl,ab (by simp),Below.refl _ _⟩
 case round=>
  obtain⟨ix,hk,rfl,hA,hbw⟩:=hrel
  by_cases hlt:ix<len
  ·obtain⟨hxl,_,hx⟩:=h
   obtain⟨g,o,rfl,_,hr⟩:=hx.resolve_left (by omega)
   obtain⟨x,hxk⟩:∃x,xs[ix]? =some x:=⟨_,List.getElem?_eq_getElem (by omega)⟩
   have hX:=ab hxk
   obtain⟨a0,l0,c0,a2,l2,c2,a5,l5,c5,a6,l6,c6,⟨d0,d1,d2,d3,d4,d5,d6⟩,k0,k2,k5,k6⟩:=(hr ix _ hxk).below hbw
   have hjw:=hj.bel hbw hjb
   have hjz:jb<wr.heap.size:=Nat.lt_of_lt_of_le hjb hbw.size
   clear hx hxk hr
   cases hB:bC X.s X.t X.k X.z X.p X.l X.e X.v X.r X.n x
   ·have HE:Hid (xs.all (bC X.s X.t X.k X.z X.p X.l X.e X.v X.r X.n)=false):=ab (all_ff (aa hX) hB)
    go_wp2_with (go_at_call 130;refine(tclo_any X jb x a0 l0 c0 a2 l2 c2 a5 l5 c5 a6 l6 c6 B _ (k0.below (ak)) (k2.below (ak)) (k5.below (ak)) (k6.below (ak)) (hjw.bel (B:=wr.heap.size) (ak) hjz) (ji)).mono ?_;rw[hB];rintro e' wf ⟨rfl,hbf⟩)
    go_ret
    exact⟨af (aa HE).symm,(ak)⟩
   ·have HE:Hid ((xs.take (ix+1)).all (bC X.s X.t X.k X.z X.p X.l X.e X.v X.r X.n)=true):=ab (all_tt (aa hA) (aa hX) hB)
    go_wp2_with (go_at_call 130;refine(tclo_any X jb x a0 l0 c0 a2 l2 c2 a5 l5 c5 a6 l6 c6 B _ (k0.below (ak)) (k2.below (ak)) (k5.below (ak)) (k6.below (ak)) (hjw.bel (B:=wr.heap.size) (ak) hjz) (ji)).mono ?_;rw[hB];rintro e' wf ⟨rfl,hbf⟩)
    go_roundw
    case rel=>exact⟨ix+1,by omega,by go_num,HE,(ak)⟩
    case measure=>simp[intOf];omega
  ·have HE:Hid (xs.all (bC X.s X.t X.k X.z X.p X.l X.e X.v X.r X.n)=true):=ab (cj (aa hA) (by have:=h.1;omega))
   go_wp2
   go_ret
   exact⟨af (aa HE).symm,hbw⟩
set_option linter.unusedSimpArgs false
set_option maxRecDepth 20000 in
set_option maxHeartbeats 8000000 in
theorem sources_any(x:fL)(a10:Option Addr)(l10 c10:Nat)(a11:Option Addr)(l11 c11:Nat)(a12:Option Addr)(l12 c12:Nat)(a13:Option Addr)(l13 c13:Nat)(a16:Option Addr)(l16 c16:Nat)(a17:Option Addr)(l17 c17:Nat)(a18:Option Addr)(l18 c18:Nat)(a20:Option Addr)(l20 c20:Nat)(a21:Option Addr)(l21 c21:Nat)(B:Nat)(w:World)(h:FlIs w B a10 l10 a11 l11 a12 l12 a13 l13 a16 l16 a17 l17 a18 l18 a20 l20 a21 l21 x):Calls Tryz.prog 75 #[.agg #[.int .i64 x.s,.int .i64 x.t,.int .i64 x.k,.int .i64 x.z,.int .i64 x.p,.int .i64 x.l,.int .i64 x.e,.bool x.b,.int .i64 x.v,.int .i64 x.r,.slice a10 l10 c10,.slice a11 l11 c11,.slice a12 l12 c12,.slice a13 l13 c13,.int .i64 x.n,.bool x.op,.slice a16 l16 c16,.slice a17 l17 c17,.slice a18 l18 c18,.int .i64 x.sfn,.slice a20 l20 c20,.slice a21 l21 c21]] w fun e' w'=>e'= .returned (.bool (decide ((x.logs.length:Int)=x.s)&&decide ((x.srcs.length:Int)=x.s)&&x.logs.all cb.okB))∧Below w.heap.size w w':=by
 have HB0:Below w.heap.size w (w.alloc (.cells #[.int .i64 x.s,.int .i64 x.t,.int .i64 x.k,.int .i64 x.z,.int .i64 x.p,.int .i64 x.l,.int .i64 x.e,.bool x.b,.int .i64 x.v,.int .i64 x.r,.slice a10 l10 c10,.slice a11 l11 c11,.slice a12 l12 c12,.slice a13 l13 c13,.int .i64 x.n,.bool x.op,.slice a16 l16 c16,.slice a17 l17 c17,.slice a18 l18 c18,.int .i64 x.sfn,.slice a20 l20 c20,.slice a21 l21 c21] 51)):=ai _ _
 have bX:(w.alloc (.cells #[.int .i64 x.s,.int .i64 x.t,.int .i64 x.k,.int .i64 x.z,.int .i64 x.p,.int .i64 x.l,.int .i64 x.e,.bool x.b,.int .i64 x.v,.int .i64 x.r,.slice a10 l10 c10,.slice a11 l11 c11,.slice a12 l12 c12,.slice a13 l13 c13,.int .i64 x.n,.bool x.op,.slice a16 l16 c16,.slice a17 l17 c17,.slice a18 l18 c18,.int .i64 x.sfn,.slice a20 l20 c20,.slice a21 l21 c21] 51)).heap[w.heap.size]? =some (.cells #[.int .i64 x.s,.int .i64 x.t,.int .i64 x.k,.int .i64 x.z,.int .i64 x.p,.int .i64 x.l,.int .i64 x.e,.bool x.b,.int .i64 x.v,.int .i64 x.r,.slice a10 l10 c10,.slice a11 l11 c11,.slice a12 l12 c12,.slice a13 l13 c13,.int .i64 x.n,.bool x.op,.slice a16 l16 c16,.slice a17 l17 c17,.slice a18 l18 c18,.int .i64 x.sfn,.slice a20 l20 c20,.slice a21 l21 c21] 51 (0,0)):=aR _ _ _
 have zz0:(w.alloc (.cells #[.int .i64 x.s,.int .i64 x.t,.int .i64 x.k,.int .i64 x.z,.int .i64 x.p,.int .i64 x.l,.int .i64 x.e,.bool x.b,.int .i64 x.v,.int .i64 x.r,.slice a10 l10 c10,.slice a11 l11 c11,.slice a12 l12 c12,.slice a13 l13 c13,.int .i64 x.n,.bool x.op,.slice a16 l16 c16,.slice a17 l17 c17,.slice a18 l18 c18,.int .i64 x.sfn,.slice a20 l20 c20,.slice a21 l21 c21] 51)).heap.size=w.heap.size+1:=by simp
 have hl10:=h.logs.len
 have hl11:=h.srcs.len
 go_enter Tryz.func75,Tryz.ntmps75
 go_upto_region 1 with fail
 generalize (w.alloc (.cells #[.int .i64 x.s,.int .i64 x.t,.int .i64 x.k,.int .i64 x.z,.int .i64 x.p,.int .i64 x.l,.int .i64 x.e,.bool x.b,.int .i64 x.v,.int .i64 x.r,.slice a10 l10 c10,.slice a11 l11 c11,.slice a12 l12 c12,.slice a13 l13 c13,.int .i64 x.n,.bool x.op,.slice a16 l16 c16,.slice a17 l17 c17,.slice a18 l18 c18,.int .i64 x.sfn,.slice a20 l20 c20,.slice a21 l21 c21] 51))=W0 at bX HB0 zz0 ⊢
 have HF:=ab (h.below HB0)
 have HB:=ab HB0
 clear HB0 h
 have cx0:=cA bX 0
 have cx10:=cA bX 10
 have cx11:=cA bX 11
 simp only[gA,gZ,gS]at cx0 cx10 cx11
 by_cases e10:(l10:Int)=x.s
 rotate_left
 ·have hE:=ab (show(decide ((x.logs.length:Int)=x.s)&&decide ((x.srcs.length:Int)=x.s)&&x.logs.all cb.okB)=false by rw[decide_eq_false (p:=(x.logs.length:Int)=x.s) (by omega)];simp)
  have d10:((l10:Int)==x.s)=false:=by simp[e10]
  clear e10
  go_wp2
  go_ret
  exact⟨af (aa hE).symm,aa HB⟩
 have d10:((l10:Int)==x.s)=true:=by simp[e10]
 have E10:=ab e10
 clear e10
 by_cases e11:(l11:Int)=x.s
 rotate_left
 ·have hE:=ab (show(decide ((x.logs.length:Int)=x.s)&&decide ((x.srcs.length:Int)=x.s)&&x.logs.all cb.okB)=false by rw[decide_eq_false (p:=(x.srcs.length:Int)=x.s) (by omega)];simp)
  have d11:((l11:Int)==x.s)=false:=by simp[e11]
  clear e11
  go_wp2
  go_ret
  exact⟨af (aa hE).symm,aa HB⟩
 have d11:((l11:Int)==x.s)=true:=by simp[e11]
 have E11:=ab e11
 clear e11
 have HV:=ab (show(decide ((x.logs.length:Int)=x.s)&&decide ((x.srcs.length:Int)=x.s)&&x.logs.all cb.okB)=x.logs.all cb.okB by rw[decide_eq_true (p:=(x.logs.length:Int)=x.s) (by have h9:=aa E10;omega),decide_eq_true (p:=(x.srcs.length:Int)=x.s) (by have h9:=aa E11;omega)];simp only[Bool.true_and])
 go_wp2_with (go_at_call 127;refine(everyLg a10 l10 c10 x.logs B _ (aa HF).logs).mono ?_;rintro e' w1 ⟨rfl,hb1⟩)
 go_ret
 exact⟨af (aa HV).symm,ae (aa HB) hb1⟩
set_option maxRecDepth 20000 in
set_option maxHeartbeats 8000000 in
theorem sinks_any(x:fL)(a10:Option Addr)(l10 c10:Nat)(a11:Option Addr)(l11 c11:Nat)(a12:Option Addr)(l12 c12:Nat)(a13:Option Addr)(l13 c13:Nat)(a16:Option Addr)(l16 c16:Nat)(a17:Option Addr)(l17 c17:Nat)(a18:Option Addr)(l18 c18:Nat)(a20:Option Addr)(l20 c20:Nat)(a21:Option Addr)(l21 c21:Nat)(B:Nat)(w:World)(h:FlIs w B a10 l10 a11 l11 a12 l12 a13 l13 a16 l16 a17 l17 a18 l18 a20 l20 a21 l21 x):Calls Tryz.prog 78 #[.agg #[.int .i64 x.s,.int .i64 x.t,.int .i64 x.k,.int .i64 x.z,.int .i64 x.p,.int .i64 x.l,.int .i64 x.e,.bool x.b,.int .i64 x.v,.int .i64 x.r,.slice a10 l10 c10,.slice a11 l11 c11,.slice a12 l12 c12,.slice a13 l13 c13,.int .i64 x.n,.bool x.op,.slice a16 l16 c16,.slice a17 l17 c17,.slice a18 l18 c18,.int .i64 x.sfn,.slice a20 l20 c20,.slice a21 l21 c21]] w fun e' w'=>e'= .returned (.bool (decide ((x.sks.length:Int)=x.t)&&x.sks.all bu.okB))∧Below w.heap.size w w':=by
 have HB0:Below w.heap.size w (w.alloc (.cells #[.int .i64 x.s,.int .i64 x.t,.int .i64 x.k,.int .i64 x.z,.int .i64 x.p,.int .i64 x.l,.int .i64 x.e,.bool x.b,.int .i64 x.v,.int .i64 x.r,.slice a10 l10 c10,.slice a11 l11 c11,.slice a12 l12 c12,.slice a13 l13 c13,.int .i64 x.n,.bool x.op,.slice a16 l16 c16,.slice a17 l17 c17,.slice a18 l18 c18,.int .i64 x.sfn,.slice a20 l20 c20,.slice a21 l21 c21] 51)):=ai _ _
 have bX:(w.alloc (.cells #[.int .i64 x.s,.int .i64 x.t,.int .i64 x.k,.int .i64 x.z,.int .i64 x.p,.int .i64 x.l,.int .i64 x.e,.bool x.b,.int .i64 x.v,.int .i64 x.r,.slice a10 l10 c10,.slice a11 l11 c11,.slice a12 l12 c12,.slice a13 l13 c13,.int .i64 x.n,.bool x.op,.slice a16 l16 c16,.slice a17 l17 c17,.slice a18 l18 c18,.int .i64 x.sfn,.slice a20 l20 c20,.slice a21 l21 c21] 51)).heap[w.heap.size]? =some (.cells #[.int .i64 x.s,.int .i64 x.t,.int .i64 x.k,.int .i64 x.z,.int .i64 x.p,.int .i64 x.l,.int .i64 x.e,.bool x.b,.int .i64 x.v,.int .i64 x.r,.slice a10 l10 c10,.slice a11 l11 c11,.slice a12 l12 c12,.slice a13 l13 c13,.int .i64 x.n,.bool x.op,.slice a16 l16 c16,.slice a17 l17 c17,.slice a18 l18 c18,.int .i64 x.sfn,.slice a20 l20 c20,.slice a21 l21 c21] 51 (0,0)):=aR _ _ _
 have zz0:(w.alloc (.cells #[.int .i64 x.s,.int .i64 x.t,.int .i64 x.k,.int .i64 x.z,.int .i64 x.p,.int .i64 x.l,.int .i64 x.e,.bool x.b,.int .i64 x.v,.int .i64 x.r,.slice a10 l10 c10,.slice a11 l11 c11,.slice a12 l12 c12,.slice a13 l13 c13,.int .i64 x.n,.bool x.op,.slice a16 l16 c16,.slice a17 l17 c17,.slice a18 l18 c18,.int .i64 x.sfn,.slice a20 l20 c20,.slice a21 l21 c21] 51)).heap.size=w.heap.size+1:=by simp
 have hl13:=h.sks.len
 go_enter Tryz.func78,Tryz.ntmps78
 go_upto_region 1 with fail
 generalize (w.alloc (.cells #[.int .i64 x.s,.int .i64 x.t,.int .i64 x.k,.int .i64 x.z,.int .i64 x.p,.int .i64 x.l,.int .i64 x.e,.bool x.b,.int .i64 x.v,.int .i64 x.r,.slice a10 l10 c10,.slice a11 l11 c11,.slice a12 l12 c12,.slice a13 l13 c13,.int .i64 x.n,.bool x.op,.slice a16 l16 c16,.slice a17 l17 c17,.slice a18 l18 c18,.int .i64 x.sfn,.slice a20 l20 c20,.slice a21 l21 c21] 51))=W0 at bX HB0 zz0 ⊢
 have HF:=ab (h.below HB0)
 have HB:=ab HB0
 clear HB0 h
 have cx1:=cA bX 1
 have cx13:=cA bX 13
 simp only[gA,gZ,gS]at cx1 cx13
 by_cases e13:(l13:Int)=x.t
 rotate_left
 ·have hE:=ab (show(decide ((x.sks.length:Int)=x.t)&&x.sks.all bu.okB)=false by rw[decide_eq_false (p:=(x.sks.length:Int)=x.t) (by omega)];simp)
  have d13:((l13:Int)==x.t)=false:=by simp[e13]
  clear e13
  go_wp2
  go_ret
  exact⟨af (aa hE).symm,aa HB⟩
 have d13:((l13:Int)==x.t)=true:=by simp[e13]
 have E13:=ab e13
 clear e13
 have HV:=ab (show(decide ((x.sks.length:Int)=x.t)&&x.sks.all bu.okB)=x.sks.all bu.okB by rw[decide_eq_true (p:=(x.sks.length:Int)=x.t) (by have h9:=aa E13;omega)];simp only[Bool.true_and])
 go_wp2_with (go_at_call 132;refine(everySk a13 l13 c13 x.sks B _ (aa HF).sks).mono ?_;rintro e' w1 ⟨rfl,hb1⟩)
 go_ret
 exact⟨af (aa HV).symm,ae (aa HB) hb1⟩
set_option maxRecDepth 20000 in
set_option maxHeartbeats 8000000 in
theorem tasks_any(x:fL)(a10:Option Addr)(l10 c10:Nat)(a11:Option Addr)(l11 c11:Nat)(a12:Option Addr)(l12 c12:Nat)(a13:Option Addr)(l13 c13:Nat)(a16:Option Addr)(l16 c16:Nat)(a17:Option Addr)(l17 c17:Nat)(a18:Option Addr)(l18 c18:Nat)(a20:Option Addr)(l20 c20:Nat)(a21:Option Addr)(l21 c21:Nat)(B:Nat)(w:World)(h:FlIs w B a10 l10 a11 l11 a12 l12 a13 l13 a16 l16 a17 l17 a18 l18 a20 l20 a21 l21 x):Calls Tryz.prog 77 #[.agg #[.int .i64 x.s,.int .i64 x.t,.int .i64 x.k,.int .i64 x.z,.int .i64 x.p,.int .i64 x.l,.int .i64 x.e,.bool x.b,.int .i64 x.v,.int .i64 x.r,.slice a10 l10 c10,.slice a11 l11 c11,.slice a12 l12 c12,.slice a13 l13 c13,.int .i64 x.n,.bool x.op,.slice a16 l16 c16,.slice a17 l17 c17,.slice a18 l18 c18,.int .i64 x.sfn,.slice a20 l20 c20,.slice a21 l21 c21]] w fun e' w'=>e'= .returned (.bool (decide ((x.tks.length:Int)=x.t)&&x.tks.all (bC x.s x.t x.k x.z x.p x.l x.e x.v x.r x.n)))∧Below w.heap.size w w':=by
 have HB0:Below w.heap.size w (w.alloc (.cells #[.int .i64 x.s,.int .i64 x.t,.int .i64 x.k,.int .i64 x.z,.int .i64 x.p,.int .i64 x.l,.int .i64 x.e,.bool x.b,.int .i64 x.v,.int .i64 x.r,.slice a10 l10 c10,.slice a11 l11 c11,.slice a12 l12 c12,.slice a13 l13 c13,.int .i64 x.n,.bool x.op,.slice a16 l16 c16,.slice a17 l17 c17,.slice a18 l18 c18,.int .i64 x.sfn,.slice a20 l20 c20,.slice a21 l21 c21] 51)):=ai _ _
 have bX:(w.alloc (.cells #[.int .i64 x.s,.int .i64 x.t,.int .i64 x.k,.int .i64 x.z,.int .i64 x.p,.int .i64 x.l,.int .i64 x.e,.bool x.b,.int .i64 x.v,.int .i64 x.r,.slice a10 l10 c10,.slice a11 l11 c11,.slice a12 l12 c12,.slice a13 l13 c13,.int .i64 x.n,.bool x.op,.slice a16 l16 c16,.slice a17 l17 c17,.slice a18 l18 c18,.int .i64 x.sfn,.slice a20 l20 c20,.slice a21 l21 c21] 51)).heap[w.heap.size]? =some (.cells #[.int .i64 x.s,.int .i64 x.t,.int .i64 x.k,.int .i64 x.z,.int .i64 x.p,.int .i64 x.l,.int .i64 x.e,.bool x.b,.int .i64 x.v,.int .i64 x.r,.slice a10 l10 c10,.slice a11 l11 c11,.slice a12 l12 c12,.slice a13 l13 c13,.int .i64 x.n,.bool x.op,.slice a16 l16 c16,.slice a17 l17 c17,.slice a18 l18 c18,.int .i64 x.sfn,.slice a20 l20 c20,.slice a21 l21 c21] 51 (0,0)):=aR _ _ _
 have zz0:(w.alloc (.cells #[.int .i64 x.s,.int .i64 x.t,.int .i64 x.k,.int .i64 x.z,.int .i64 x.p,.int .i64 x.l,.int .i64 x.e,.bool x.b,.int .i64 x.v,.int .i64 x.r,.slice a10 l10 c10,.slice a11 l11 c11,.slice a12 l12 c12,.slice a13 l13 c13,.int .i64 x.n,.bool x.op,.slice a16 l16 c16,.slice a17 l17 c17,.slice a18 l18 c18,.int .i64 x.sfn,.slice a20 l20 c20,.slice a21 l21 c21] 51)).heap.size=w.heap.size+1:=by simp
 have hl12:=h.tks.len
 go_enter Tryz.func77,Tryz.ntmps77
 go_upto_region 1 with fail
 generalize (w.alloc (.cells #[.int .i64 x.s,.int .i64 x.t,.int .i64 x.k,.int .i64 x.z,.int .i64 x.p,.int .i64 x.l,.int .i64 x.e,.bool x.b,.int .i64 x.v,.int .i64 x.r,.slice a10 l10 c10,.slice a11 l11 c11,.slice a12 l12 c12,.slice a13 l13 c13,.int .i64 x.n,.bool x.op,.slice a16 l16 c16,.slice a17 l17 c17,.slice a18 l18 c18,.int .i64 x.sfn,.slice a20 l20 c20,.slice a21 l21 c21] 51))=W0 at bX HB0 zz0 ⊢
 have HF:=ab (h.below HB0)
 have HB:=ab HB0
 clear HB0 h
 have cx1:=cA bX 1
 have cx12:=cA bX 12
 simp only[gA,gZ,gS]at cx1 cx12
 by_cases e12:(l12:Int)=x.t
 rotate_left
 ·have hE:=ab (show(decide ((x.tks.length:Int)=x.t)&&x.tks.all (bC x.s x.t x.k x.z x.p x.l x.e x.v x.r x.n))=false by rw[decide_eq_false (p:=(x.tks.length:Int)=x.t) (by omega)];simp)
  have d12:((l12:Int)==x.t)=false:=by simp[e12]
  clear e12
  go_wp2
  go_ret
  exact⟨af (aa hE).symm,aa HB⟩
 have d12:((l12:Int)==x.t)=true:=by simp[e12]
 have E12:=ab e12
 clear e12
 have HV:=ab (show(decide ((x.tks.length:Int)=x.t)&&x.tks.all (bC x.s x.t x.k x.z x.p x.l x.e x.v x.r x.n))=x.tks.all (bC x.s x.t x.k x.z x.p x.l x.e x.v x.r x.n) by rw[decide_eq_true (p:=(x.tks.length:Int)=x.t) (by have h9:=aa E12;omega)];simp only[Bool.true_and])
 have HJ:=ab (show FlJ x W0 w.heap.size from⟨⟨(cA bX 0),(cA bX 1),(cA bX 2),(cA bX 3),(cA bX 4),(cA bX 5),(cA bX 6),(cA bX 7),(cA bX 8),(cA bX 9)⟩,cA bX 14⟩)
 go_wp2_with (go_at_call 129;refine(everyTk x w.heap.size a12 l12 c12 x.tks B _ (aa HF).tks (aa HJ) (by omega)).mono ?_;rintro e' w1 ⟨rfl,hb1⟩)
 go_ret
 exact⟨af (aa HV).symm,ae (aa HB) hb1⟩
set_option linter.unusedSimpArgs false
set_option maxRecDepth 20000 in
set_option maxHeartbeats 8000000 in
theorem places_any(x:fL)(a10:Option Addr)(l10 c10:Nat)(a11:Option Addr)(l11 c11:Nat)(a12:Option Addr)(l12 c12:Nat)(a13:Option Addr)(l13 c13:Nat)(a16:Option Addr)(l16 c16:Nat)(a17:Option Addr)(l17 c17:Nat)(a18:Option Addr)(l18 c18:Nat)(a20:Option Addr)(l20 c20:Nat)(a21:Option Addr)(l21 c21:Nat)(B:Nat)(w:World)(h:FlIs w B a10 l10 a11 l11 a12 l12 a13 l13 a16 l16 a17 l17 a18 l18 a20 l20 a21 l21 x)(e10:(l10:Int)=x.s)(e11:(l11:Int)=x.s)(e20:(x.at_.length:Int)=x.s):Calls Tryz.prog 76 #[.agg #[.int .i64 x.s,.int .i64 x.t,.int .i64 x.k,.int .i64 x.z,.int .i64 x.p,.int .i64 x.l,.int .i64 x.e,.bool x.b,.int .i64 x.v,.int .i64 x.r,.slice a10 l10 c10,.slice a11 l11 c11,.slice a12 l12 c12,.slice a13 l13 c13,.int .i64 x.n,.bool x.op,.slice a16 l16 c16,.slice a17 l17 c17,.slice a18 l18 c18,.int .i64 x.sfn,.slice a20 l20 c20,.slice a21 l21 c21]] w fun e' w'=>e'= .returned (.bool ((List.range x.logs.length).all (fF x.n x.logs x.srcs x.at_)))∧Below w.heap.size w w':=by
 have hl10:=h.logs.len
 have hl11:=h.srcs.len
 have hl20:=h.at_.len
 have HB0:Below w.heap.size w (w.alloc (.cells #[.int .i64 x.s,.int .i64 x.t,.int .i64 x.k,.int .i64 x.z,.int .i64 x.p,.int .i64 x.l,.int .i64 x.e,.bool x.b,.int .i64 x.v,.int .i64 x.r,.slice a10 l10 c10,.slice a11 l11 c11,.slice a12 l12 c12,.slice a13 l13 c13,.int .i64 x.n,.bool x.op,.slice a16 l16 c16,.slice a17 l17 c17,.slice a18 l18 c18,.int .i64 x.sfn,.slice a20 l20 c20,.slice a21 l21 c21] 51)):=ai _ _
 have bX:(w.alloc (.cells #[.int .i64 x.s,.int .i64 x.t,.int .i64 x.k,.int .i64 x.z,.int .i64 x.p,.int .i64 x.l,.int .i64 x.e,.bool x.b,.int .i64 x.v,.int .i64 x.r,.slice a10 l10 c10,.slice a11 l11 c11,.slice a12 l12 c12,.slice a13 l13 c13,.int .i64 x.n,.bool x.op,.slice a16 l16 c16,.slice a17 l17 c17,.slice a18 l18 c18,.int .i64 x.sfn,.slice a20 l20 c20,.slice a21 l21 c21] 51)).heap[w.heap.size]? =some (.cells #[.int .i64 x.s,.int .i64 x.t,.int .i64 x.k,.int .i64 x.z,.int .i64 x.p,.int .i64 x.l,.int .i64 x.e,.bool x.b,.int .i64 x.v,.int .i64 x.r,.slice a10 l10 c10,.slice a11 l11 c11,.slice a12 l12 c12,.slice a13 l13 c13,.int .i64 x.n,.bool x.op,.slice a16 l16 c16,.slice a17 l17 c17,.slice a18 l18 c18,.int .i64 x.sfn,.slice a20 l20 c20,.slice a21 l21 c21] 51 (0,0)):=aR _ _ _
 have zz0:(w.alloc (.cells #[.int .i64 x.s,.int .i64 x.t,.int .i64 x.k,.int .i64 x.z,.int .i64 x.p,.int .i64 x.l,.int .i64 x.e,.bool x.b,.int .i64 x.v,.int .i64 x.r,.slice a10 l10 c10,.slice a11 l11 c11,.slice a12 l12 c12,.slice a13 l13 c13,.int .i64 x.n,.bool x.op,.slice a16 l16 c16,.slice a17 l17 c17,.slice a18 l18 c18,.int .i64 x.sfn,.slice a20 l20 c20,.slice a21 l21 c21] 51)).heap.size=w.heap.size+1:=by simp
 go_enter Tryz.func76,Tryz.ntmps76
 go_upto_region 1 with fail
 generalize (w.alloc (.cells #[.int .i64 x.s,.int .i64 x.t,.int .i64 x.k,.int .i64 x.z,.int .i64 x.p,.int .i64 x.l,.int .i64 x.e,.bool x.b,.int .i64 x.v,.int .i64 x.r,.slice a10 l10 c10,.slice a11 l11 c11,.slice a12 l12 c12,.slice a13 l13 c13,.int .i64 x.n,.bool x.op,.slice a16 l16 c16,.slice a17 l17 c17,.slice a18 l18 c18,.int .i64 x.sfn,.slice a20 l20 c20,.slice a21 l21 c21] 51))=W0 at bX HB0 zz0 ⊢
 have HF:=ab (h.below HB0)
 have HB:=ab HB0
 clear HB0 h
 have cx11:=cA bX 11
 simp only[gA,gZ,gS]at cx11
 have hm11:=hl11.2
 unfold maxLen at hm11
 have HL:=ab (And.intro hl10 (And.intro hl11 (And.intro hl20 (And.intro e10 (And.intro e11 e20)))))
 clear hl10 hl11 hl20 e10 e11 e20 zz0
 go_wp2
 clear cx11
 go_loopw [9] (fun i wr=>∃ix:Nat,ix≤l11∧i= .int .i64 ix∧Hid ((List.range ix).all (fF x.n x.logs x.srcs x.at_)=true)∧Below W0.heap.size W0 wr) (fun i _=>l11 - (intOf i).toNat)
 case atStart=>exact⟨0,Nat.zero_le _,rfl,ab rfl,Below.refl _ _⟩
 case round=>
  obtain⟨ix,hk,rfl,HR,hbw⟩:=hrel
  have bXr:=(hbw.block _ (ao bX)).trans bX
  have zXr:=ao bXr
  have cx10:=cA bXr 10
  have cx14:=cA bXr 14
  have cx20:=cA bXr 20
  simp only[gA,gZ,gS]at cx10 cx14 cx20
  by_cases hlt:ix<l11
  ·obtain⟨hl10,hl11,hl20,e10,e11,e20⟩:=aa HL
   have hF:=(aa HF).below hbw
   obtain⟨_,_,hx9⟩:=hF.logs
   obtain⟨g,o,rfl,_,hr⟩:=hx9.resolve_left (by omega)
   obtain⟨y,hy⟩:∃y,x.logs[ix]? =some y:=⟨_,List.getElem?_eq_getElem (by omega)⟩
   have hy1:=hr ix y hy
   have zg:=hy1.lt
   obtain⟨a0y,l0y,c0y,e0,k0⟩:=hy1
   rw[Nat.mul_one]at e0
   have hlq:=k0.len
   obtain⟨_,_,hx8⟩:=hF.srcs.1
   obtain⟨gs,os,rfl,hrs⟩:=hx8.resolve_left (by omega)
   obtain⟨ys,hys⟩:∃ys,x.srcs[ix]? =some ys:=⟨_,List.getElem?_eq_getElem (by omega)⟩
   have zs:=aA (hrs ix ys hys).1
   obtain⟨f0,f1⟩:=hrs ix ys hys
   obtain⟨_,_,hx7⟩:=hF.at_.1
   obtain⟨ga,oa,rfl,hra⟩:=hx7.resolve_left (by omega)
   obtain⟨ya,hya⟩:∃ya,x.at_[ix]? =some ya:=⟨_,List.getElem?_eq_getElem (by omega)⟩
   have m0:wr.cell? ⟨ga,oa+ix,none⟩=some (.int .i64 ya):=by have h9:=hra ix ya hya;simpa using h9
   have za:=aA m0
   have HP:=ab (pl_at (n:=x.n) hy hys hya)
   have HY:=ab hy
   have hi10:(ix:Int)<(l10:Int):=by omega
   have hi20:(ix:Int)<(l20:Int):=by omega
   have hj10:ix<l10:=by omega
   have hj20:ix<l20:=by omega
   have hlen:y.q.length=l0y:=hlq.1
   rw[hlen]at HP
   clear hx9 hr hy hx8 hrs hys hx7 hra hya k0 hlq hF hlen hl10 hl11 hl20 e10 e11 e20
   by_cases hq:(l0y:Int)<ya
   ·have hE:=ab (gb (f:=fF x.n x.logs x.srcs x.at_) (aa HY) (by rw[aa HP,decide_eq_true hq];simp))
    have dq:decide ((l0y:Int)<ya)=true:=decide_eq_true hq
    clear hq
    cases q2:aP ys.at_ 0 (l0y:Int)
    ·go_wp2_with (go_at_call 126;refine(ah _ _ _ _).mono ?_;rw[q2];rintro e' w5 ⟨rfl,hw⟩;obtain rfl:=hw.symm;clear hw)
     go_ret
     exact⟨af (aa hE).symm,ae (aa HB) (ae hbw (ak))⟩
    ·go_wp2_with (go_at_call 126;refine(ah _ _ _ _).mono ?_;rw[q2];rintro e' w5 ⟨rfl,hw⟩;obtain rfl:=hw.symm;clear hw)
     go_ret
     exact⟨af (aa hE).symm,ae (aa HB) (ae hbw (ak))⟩
   ·have dq:decide ((l0y:Int)<ya)=false:=decide_eq_false hq
    cases q2:aP ys.at_ 0 (l0y:Int)
    ·have hE:=ab (gb (f:=fF x.n x.logs x.srcs x.at_) (aa HY) (by rw[aa HP,q2];rfl))
     clear hq
     go_wp2_with (go_at_call 126;refine(ah _ _ _ _).mono ?_;rw[q2];rintro e' w5 ⟨rfl,hw⟩;obtain rfl:=hw.symm;clear hw)
     go_ret
     exact⟨af (aa hE).symm,ae (aa HB) (ae hbw (ak))⟩
    ·cases q3:aP ys.wl 0 x.n
     ·have hE:=ab (gb (f:=fF x.n x.logs x.srcs x.at_) (aa HY) (by rw[aa HP,q2,q3];rfl))
      clear hq
      go_wp2_with (go_at_call 126;refine(ah _ _ _ _).mono ?_;(first|rw[q2]|rw[q3]);rintro e' w5 ⟨rfl,hw⟩;obtain rfl:=hw.symm;clear hw)
      go_ret
      exact⟨af (aa hE).symm,ae (aa HB) (ae hbw (ak))⟩
     ·have HR2:=ab (pl_step (f:=fF x.n x.logs x.srcs x.at_) (aa HR) (by rw[aa HP,q2,q3,decide_eq_false hq];rfl))
      clear hq
      go_wp2_with (go_at_call 126;refine(ah _ _ _ _).mono ?_;(first|rw[q2]|rw[q3]);rintro e' w5 ⟨rfl,hw⟩;obtain rfl:=hw.symm;clear hw)
      go_roundw
      case rel=>exact⟨ix+1,by omega,by go_num,HR2,ae hbw (ak)⟩
      case measure=>simp[intOf];omega
  ·have HE:Hid ((List.range x.logs.length).all (fF x.n x.logs x.srcs x.at_)=true):=ab (by have h9:=aa HR;have h8:ix=x.logs.length:=(by obtain⟨hl10,hl11,hl20,e10,e11,e20⟩:=aa HL;omega);rwa [h8]at h9)
   go_wp2
   go_ret
   exact⟨af (aa HE).symm,ae (aa HB) hbw⟩
set_option linter.unusedSimpArgs false
attribute [local go_sem ↓] dE
theorem cT(x:fL):cl x=(bU x.s x.t x.k x.z x.p x.l x.e x.v x.r x.ck&&(decide ((x.logs.length:Int)=x.s)&&decide ((x.srcs.length:Int)=x.s)&&x.logs.all cb.okB)&&((List.range x.logs.length).all (fF x.n x.logs x.srcs x.at_))&&(decide ((x.tks.length:Int)=x.t)&&x.tks.all (bC x.s x.t x.k x.z x.p x.l x.e x.v x.r x.n))&&(decide ((x.sks.length:Int)=x.t)&&x.sks.all bu.okB)):=by
 unfold cl
 generalize bU x.s x.t x.k x.z x.p x.l x.e x.v x.r x.ck=b1
 generalize decide ((x.logs.length:Int)=x.s)=b2
 generalize decide ((x.srcs.length:Int)=x.s)=b3
 generalize decide ((x.tks.length:Int)=x.t)=b4
 generalize decide ((x.sks.length:Int)=x.t)=b5
 generalize x.logs.all cb.okB=b6
 generalize (List.range x.logs.length).all (fF x.n x.logs x.srcs x.at_)=b7
 generalize x.tks.all (bC x.s x.t x.k x.z x.p x.l x.e x.v x.r x.n)=b8
 generalize x.sks.all bu.okB=b9
 cases b1<;>cases b2<;>cases b3<;>cases b4<;>cases b5<;>cases b6<;>cases b7<;>cases b8<;>cases b9<;>rfl
set_option maxRecDepth 20000 in
set_option maxHeartbeats 16000000 in
theorem ie(x:fL)(a10:Option Addr)(l10 c10:Nat)(a11:Option Addr)(l11 c11:Nat)(a12:Option Addr)(l12 c12:Nat)(a13:Option Addr)(l13 c13:Nat)(a16:Option Addr)(l16 c16:Nat)(a17:Option Addr)(l17 c17:Nat)(a18:Option Addr)(l18 c18:Nat)(a20:Option Addr)(l20 c20:Nat)(a21:Option Addr)(l21 c21:Nat)(B:Nat)(w:World)(h:FlIs w B a10 l10 a11 l11 a12 l12 a13 l13 a16 l16 a17 l17 a18 l18 a20 l20 a21 l21 x):Calls Tryz.prog 37 #[.agg #[.int .i64 x.s,.int .i64 x.t,.int .i64 x.k,.int .i64 x.z,.int .i64 x.p,.int .i64 x.l,.int .i64 x.e,.bool x.b,.int .i64 x.v,.int .i64 x.r,.slice a10 l10 c10,.slice a11 l11 c11,.slice a12 l12 c12,.slice a13 l13 c13,.int .i64 x.n,.bool x.op,.slice a16 l16 c16,.slice a17 l17 c17,.slice a18 l18 c18,.int .i64 x.sfn,.slice a20 l20 c20,.slice a21 l21 c21]] w fun e' w'=>e'= .returned (.bool (cl x))∧Below w.heap.size w w':=by
 have hl10:=h.logs.len
 have hl11:=h.srcs.len
 have HB0:Below w.heap.size w (w.alloc (.cells #[.int .i64 x.s,.int .i64 x.t,.int .i64 x.k,.int .i64 x.z,.int .i64 x.p,.int .i64 x.l,.int .i64 x.e,.bool x.b,.int .i64 x.v,.int .i64 x.r,.slice a10 l10 c10,.slice a11 l11 c11,.slice a12 l12 c12,.slice a13 l13 c13,.int .i64 x.n,.bool x.op,.slice a16 l16 c16,.slice a17 l17 c17,.slice a18 l18 c18,.int .i64 x.sfn,.slice a20 l20 c20,.slice a21 l21 c21] 51)):=ai _ _
 have bX:(w.alloc (.cells #[.int .i64 x.s,.int .i64 x.t,.int .i64 x.k,.int .i64 x.z,.int .i64 x.p,.int .i64 x.l,.int .i64 x.e,.bool x.b,.int .i64 x.v,.int .i64 x.r,.slice a10 l10 c10,.slice a11 l11 c11,.slice a12 l12 c12,.slice a13 l13 c13,.int .i64 x.n,.bool x.op,.slice a16 l16 c16,.slice a17 l17 c17,.slice a18 l18 c18,.int .i64 x.sfn,.slice a20 l20 c20,.slice a21 l21 c21] 51)).heap[w.heap.size]? =some (.cells #[.int .i64 x.s,.int .i64 x.t,.int .i64 x.k,.int .i64 x.z,.int .i64 x.p,.int .i64 x.l,.int .i64 x.e,.bool x.b,.int .i64 x.v,.int .i64 x.r,.slice a10 l10 c10,.slice a11 l11 c11,.slice a12 l12 c12,.slice a13 l13 c13,.int .i64 x.n,.bool x.op,.slice a16 l16 c16,.slice a17 l17 c17,.slice a18 l18 c18,.int .i64 x.sfn,.slice a20 l20 c20,.slice a21 l21 c21] 51 (0,0)):=aR _ _ _
 have zz0:(w.alloc (.cells #[.int .i64 x.s,.int .i64 x.t,.int .i64 x.k,.int .i64 x.z,.int .i64 x.p,.int .i64 x.l,.int .i64 x.e,.bool x.b,.int .i64 x.v,.int .i64 x.r,.slice a10 l10 c10,.slice a11 l11 c11,.slice a12 l12 c12,.slice a13 l13 c13,.int .i64 x.n,.bool x.op,.slice a16 l16 c16,.slice a17 l17 c17,.slice a18 l18 c18,.int .i64 x.sfn,.slice a20 l20 c20,.slice a21 l21 c21] 51)).heap.size=w.heap.size+1:=by simp
 go_enter Tryz.func37,Tryz.ntmps37
 go_upto_region 1 with fail
 generalize (w.alloc (.cells #[.int .i64 x.s,.int .i64 x.t,.int .i64 x.k,.int .i64 x.z,.int .i64 x.p,.int .i64 x.l,.int .i64 x.e,.bool x.b,.int .i64 x.v,.int .i64 x.r,.slice a10 l10 c10,.slice a11 l11 c11,.slice a12 l12 c12,.slice a13 l13 c13,.int .i64 x.n,.bool x.op,.slice a16 l16 c16,.slice a17 l17 c17,.slice a18 l18 c18,.int .i64 x.sfn,.slice a20 l20 c20,.slice a21 l21 c21] 51))=W0 at bX HB0 zz0 ⊢
 have HF:=ab (h.below HB0)
 have HB:=ab HB0
 clear HB0 h
 have cx0:=Joins.cell_of_block bX 0
 have cx1:=Joins.cell_of_block bX 1
 have cx2:=Joins.cell_of_block bX 2
 have cx3:=Joins.cell_of_block bX 3
 have cx4:=Joins.cell_of_block bX 4
 have cx5:=Joins.cell_of_block bX 5
 have cx6:=Joins.cell_of_block bX 6
 have cx7:=Joins.cell_of_block bX 7
 have cx8:=Joins.cell_of_block bX 8
 have cx9:=Joins.cell_of_block bX 9
 simp only [List.getElem?_toArray,List.getElem?_cons_zero,List.getElem?_cons_succ] at cx0 cx1 cx2 cx3 cx4 cx5 cx6 cx7 cx8 cx9
 have cx14:=cA bX 14
 have cx15:=cA bX 15
 have cx16:=cA bX 16
 have cx17:=cA bX 17
 have cx18:=cA bX 18
 have cx19:=cA bX 19
 have cx20:=cA bX 20
 have cx21:=cA bX 21
 simp only[gA,gZ,gS]at cx14 cx15 cx16 cx17 cx18 cx19 cx20 cx21
 go_wp2_with fail
 clear cx0 cx1 cx2 cx3 cx4 cx5 cx6 cx7 cx8 cx9 cx14 cx15 cx16 cx17 cx18 cx19 cx20 cx21
 refine(ib x.s x.t x.k x.z x.p x.l x.e x.b x.v x.r x.ck a16 l16 c16 a17 l17 c17 a18 l18 c18 a20 l20 c20 a21 l21 c21 B _ (aa HF).ckp).mono ?_
 cases q0:bU x.s x.t x.k x.z x.p x.l x.e x.v x.r x.ck
 ·have hE:=ab (show cl x=false by rw[cT,q0];simp only[Bool.and_false,Bool.false_and])
  rintro e9 w1 ⟨rfl,hb1⟩
  go_wp2
  go_ret
  exact⟨af (aa hE).symm,ae (aa HB) hb1⟩
 have Q0:=ab q0
 have HE20:=ab (show(x.at_.length:Int)=x.s from(ck_bd q0).2.2)
 clear q0
 rintro e9 v0 ⟨rfl,hb0⟩
 have bX0:=(hb0.block _ (ao bX)).trans bX
 have HF9:=ab ((aa HF).below hb0)
 have HB9:=ab (ae (aa HB) hb0)
 clear HF HB bX hb0 zz0
 have bX:=bX0
 have HF:=HF9
 have HB:=HB9
 clear bX0 HF9 HB9
 have hL:=bV bX 51 Tryz.underlying51 rfl (jl)
 go_wp2_with fail
 clear hL
 refine(sources_any x a10 l10 c10 a11 l11 c11 a12 l12 c12 a13 l13 c13 a16 l16 c16 a17 l17 c17 a18 l18 c18 a20 l20 c20 a21 l21 c21 B _ (aa HF)).mono ?_
 cases q1:decide ((x.logs.length:Int)=x.s)&&decide ((x.srcs.length:Int)=x.s)&&x.logs.all cb.okB
 ·have hE:=ab (show cl x=false by rw[cT,aa Q0,q1];simp only[Bool.and_false,Bool.false_and])
  rintro e9 w1 ⟨rfl,hb1⟩
  go_wp2
  go_ret
  exact⟨af (aa hE).symm,ae (aa HB) hb1⟩
 have Q1:=ab q1
 have HE10:=ab (show(l10:Int)=x.s by simp only[Bool.and_eq_true,decide_eq_true_eq]at q1;have:=q1.1.1;omega)
 have HE11:=ab (show(l11:Int)=x.s by simp only[Bool.and_eq_true,decide_eq_true_eq]at q1;have:=q1.1.2;omega)
 clear q1
 rintro e9 v1 ⟨rfl,hb1⟩
 have bX1:=(hb1.block _ (ao bX)).trans bX
 have HF9:=ab ((aa HF).below hb1)
 have HB9:=ab (ae (aa HB) hb1)
 clear HF HB bX hb1
 have bX:=bX1
 have HF:=HF9
 have HB:=HB9
 clear bX1 HF9 HB9
 have hL:=bV bX 51 Tryz.underlying51 rfl (jl)
 go_wp2_with fail
 clear hL
 refine(places_any x a10 l10 c10 a11 l11 c11 a12 l12 c12 a13 l13 c13 a16 l16 c16 a17 l17 c17 a18 l18 c18 a20 l20 c20 a21 l21 c21 B _ (aa HF) (aa HE10) (aa HE11) (aa HE20)).mono ?_
 cases q2:(List.range x.logs.length).all (fF x.n x.logs x.srcs x.at_)
 ·have hE:=ab (show cl x=false by rw[cT,aa Q0,aa Q1,q2];simp only[Bool.and_false,Bool.false_and])
  rintro e9 w1 ⟨rfl,hb1⟩
  go_wp2
  go_ret
  exact⟨af (aa hE).symm,ae (aa HB) hb1⟩
 have Q2:=ab q2
 clear q2
 rintro e9 v2 ⟨rfl,hb2⟩
 have bX2:=(hb2.block _ (ao bX)).trans bX
 have HF9:=ab ((aa HF).below hb2)
 have HB9:=ab (ae (aa HB) hb2)
 clear HF HB bX hb2
 have bX:=bX2
 have HF:=HF9
 have HB:=HB9
 clear bX2 HF9 HB9
 have hL:=bV bX 51 Tryz.underlying51 rfl (jl)
 go_wp2_with fail
 clear hL
 refine(tasks_any x a10 l10 c10 a11 l11 c11 a12 l12 c12 a13 l13 c13 a16 l16 c16 a17 l17 c17 a18 l18 c18 a20 l20 c20 a21 l21 c21 B _ (aa HF)).mono ?_
 cases q3:decide ((x.tks.length:Int)=x.t)&&x.tks.all (bC x.s x.t x.k x.z x.p x.l x.e x.v x.r x.n)
 ·have hE:=ab (show cl x=false by rw[cT,aa Q0,aa Q1,aa Q2,q3];simp only[Bool.and_false,Bool.false_and])
  rintro e9 w1 ⟨rfl,hb1⟩
  go_wp2
  go_ret
  exact⟨af (aa hE).symm,ae (aa HB) hb1⟩
 have Q3:=ab q3
 clear q3
 rintro e9 v3 ⟨rfl,hb3⟩
 have bX3:=(hb3.block _ (ao bX)).trans bX
 have HF9:=ab ((aa HF).below hb3)
 have HB9:=ab (ae (aa HB) hb3)
 clear HF HB bX hb3
 have bX:=bX3
 have HF:=HF9
 have HB:=HB9
 clear bX3 HF9 HB9
 have hL:=bV bX 51 Tryz.underlying51 rfl (jl)
 go_wp2_with fail
 clear hL
 refine(sinks_any x a10 l10 c10 a11 l11 c11 a12 l12 c12 a13 l13 c13 a16 l16 c16 a17 l17 c17 a18 l18 c18 a20 l20 c20 a21 l21 c21 B _ (aa HF)).mono ?_
 cases q4:decide ((x.sks.length:Int)=x.t)&&x.sks.all bu.okB
 ·have hE:=ab (show cl x=false by rw[cT,aa Q0,aa Q1,aa Q2,aa Q3,q4];simp only[Bool.and_false,Bool.false_and])
  rintro e9 w1 ⟨rfl,hb1⟩
  go_wp2
  go_ret
  exact⟨af (aa hE).symm,ae (aa HB) hb1⟩
 have Q4:=ab q4
 clear q4
 have hE:=ab (show cl x=true by rw[cT,aa Q0,aa Q1,aa Q2,aa Q3,aa Q4];rfl)
 rintro e9 w1 ⟨rfl,hb1⟩
 go_wp2
 go_ret
 exact⟨af (aa hE).symm,ae (aa HB) hb1⟩
set_option linter.unusedSimpArgs false
attribute [local go_sem ↓] dE
attribute [local go_sem ↓] dL
attribute [local go_sem ↓] eD
set_option maxRecDepth 20000 in
set_option maxHeartbeats 8000000 in
theorem fx(x:fL)(a10:Option Addr)(l10 c10:Nat)(a11:Option Addr)(l11 c11:Nat)(a12:Option Addr)(l12 c12:Nat)(a13:Option Addr)(l13 c13:Nat)(a16:Option Addr)(l16 c16:Nat)(a17:Option Addr)(l17 c17:Nat)(a18:Option Addr)(l18 c18:Nat)(a20:Option Addr)(l20 c20:Nat)(a21:Option Addr)(l21 c21:Nat)(B:Nat)(w:World)(h:FlIs w B a10 l10 a11 l11 a12 l12 a13 l13 a16 l16 a17 l17 a18 l18 a20 l20 a21 l21 x)(hsk:x.sks.length≤1048576∧∀y ∈ x.sks,y.sm){ob:Bool}(hV:Hid (cl x=ob)):Calls Tryz.prog 16 #[.agg #[.int .i64 x.s,.int .i64 x.t,.int .i64 x.k,.int .i64 x.z,.int .i64 x.p,.int .i64 x.l,.int .i64 x.e,.bool x.b,.int .i64 x.v,.int .i64 x.r,.slice a10 l10 c10,.slice a11 l11 c11,.slice a12 l12 c12,.slice a13 l13 c13,.int .i64 x.n,.bool x.op,.slice a16 l16 c16,.slice a17 l17 c17,.slice a18 l18 c18,.int .i64 x.sfn,.slice a20 l20 c20,.slice a21 l21 c21]] w fun e' w'=>∃v',e'= .returned v'∧eW w' w.heap.size v' (if ob=true then cL x.sks else [])∧Below w.heap.size w w':=by
 have hl13:=h.sks.len
 obtain⟨i0,hi,hz0,hz1,hz2⟩:=info_parts Tryz.infoLp
 have HB0:Below w.heap.size w (w.alloc (.cells #[.int .i64 x.s,.int .i64 x.t,.int .i64 x.k,.int .i64 x.z,.int .i64 x.p,.int .i64 x.l,.int .i64 x.e,.bool x.b,.int .i64 x.v,.int .i64 x.r,.slice a10 l10 c10,.slice a11 l11 c11,.slice a12 l12 c12,.slice a13 l13 c13,.int .i64 x.n,.bool x.op,.slice a16 l16 c16,.slice a17 l17 c17,.slice a18 l18 c18,.int .i64 x.sfn,.slice a20 l20 c20,.slice a21 l21 c21] 51)):=ai _ _
 have bX:(w.alloc (.cells #[.int .i64 x.s,.int .i64 x.t,.int .i64 x.k,.int .i64 x.z,.int .i64 x.p,.int .i64 x.l,.int .i64 x.e,.bool x.b,.int .i64 x.v,.int .i64 x.r,.slice a10 l10 c10,.slice a11 l11 c11,.slice a12 l12 c12,.slice a13 l13 c13,.int .i64 x.n,.bool x.op,.slice a16 l16 c16,.slice a17 l17 c17,.slice a18 l18 c18,.int .i64 x.sfn,.slice a20 l20 c20,.slice a21 l21 c21] 51)).heap[w.heap.size]? =some (.cells #[.int .i64 x.s,.int .i64 x.t,.int .i64 x.k,.int .i64 x.z,.int .i64 x.p,.int .i64 x.l,.int .i64 x.e,.bool x.b,.int .i64 x.v,.int .i64 x.r,.slice a10 l10 c10,.slice a11 l11 c11,.slice a12 l12 c12,.slice a13 l13 c13,.int .i64 x.n,.bool x.op,.slice a16 l16 c16,.slice a17 l17 c17,.slice a18 l18 c18,.int .i64 x.sfn,.slice a20 l20 c20,.slice a21 l21 c21] 51 (0,0)):=aR _ _ _
 have zz0:(w.alloc (.cells #[.int .i64 x.s,.int .i64 x.t,.int .i64 x.k,.int .i64 x.z,.int .i64 x.p,.int .i64 x.l,.int .i64 x.e,.bool x.b,.int .i64 x.v,.int .i64 x.r,.slice a10 l10 c10,.slice a11 l11 c11,.slice a12 l12 c12,.slice a13 l13 c13,.int .i64 x.n,.bool x.op,.slice a16 l16 c16,.slice a17 l17 c17,.slice a18 l18 c18,.int .i64 x.sfn,.slice a20 l20 c20,.slice a21 l21 c21] 51)).heap.size=w.heap.size+1:=by simp
 go_enter Tryz.func16,Tryz.ntmps16
 go_upto_region 1 with fail
 generalize (w.alloc (.cells #[.int .i64 x.s,.int .i64 x.t,.int .i64 x.k,.int .i64 x.z,.int .i64 x.p,.int .i64 x.l,.int .i64 x.e,.bool x.b,.int .i64 x.v,.int .i64 x.r,.slice a10 l10 c10,.slice a11 l11 c11,.slice a12 l12 c12,.slice a13 l13 c13,.int .i64 x.n,.bool x.op,.slice a16 l16 c16,.slice a17 l17 c17,.slice a18 l18 c18,.int .i64 x.sfn,.slice a20 l20 c20,.slice a21 l21 c21] 51))=W0 at bX HB0 zz0 ⊢
 have HF:=ab (h.below HB0)
 have HB:=ab HB0
 clear HB0 h
 have HO0:Hid (eW W0 W0.heap.size (.slice none 0 0) []):=ab (World.ownsRow_nil _ _ _ _)
 have hL:=bV bX 51 Tryz.underlying51 rfl (jl)
 go_wp2_with fail
 clear hL
 refine(ie x a10 l10 c10 a11 l11 c11 a12 l12 c12 a13 l13 c13 a16 l16 c16 a17 l17 c17 a18 l18 c18 a20 l20 c20 a21 l21 c21 B _ (aa HF)).mono ?_
 rw[aa hV]
 rintro e9 w1 ⟨rfl,hb1⟩
 have hbW:Below W0.heap.size W0 w1:=hb1
 have bX1:=(hbW.block _ (ao bX)).trans bX
 have HO1:=ab (gT (aa HO0) hb1)
 have HB1:=ab (ae (aa HB) (hbW.mono (by omega)))
 have HF0:=ab (aa HF)
 have zW:w.heap.size≤W0.heap.size:=by omega
 cases ob
 ·go_wp2
  go_ret
  exact⟨_,rfl,by have h9:=fi (aa HO1) zW;(try rw[←zz0]);exact h9,aa HB1⟩
 clear HO0 HF hb1
 have HLB:=ab (sFLp_tl (xs:=x.sks) (fun y hy=>(hsk.2 y hy).2.2))
 have HKL:=ab (And.intro hl13 hsk)
 clear hl13 hsk
 have cx13:=cA bX1 13
 simp only[gA,gZ,gS]at cx13
 go_wp2
 clear cx13
 go_loopw [3,12] (fun ov i wr=>∃ix:Nat,ix≤l13∧i= .int .i64 ix∧Hid (eW wr W0.heap.size ov (cL (x.sks.take ix)))∧Below W0.heap.size W0 wr) (fun _ i _=>l13 - (intOf i).toNat)
 case atStart=>exact⟨0,Nat.zero_le _,rfl,ab (by rw[List.take_zero];have h9:=aa HO1;(try rw[←zz0]);exact h9),hbW⟩
 case round=>
  obtain⟨ix,hk,rfl,HO,hbw⟩:=hrel
  have bXr:=(hbw.block _ (ao bX)).trans bX
  have zXr:=ao bXr
  have cx13:=cA bXr 13
  simp only[gA,gZ,gS]at cx13
  by_cases hlt:ix<l13
  ·obtain⟨hl13,hsk1,hsk2⟩:=aa HKL
   have hF:=(aa HF0).below hbw
   obtain⟨_,_,hx9⟩:=hF.sks
   obtain⟨g,o,rfl,_,hr⟩:=hx9.resolve_left (by omega)
   obtain⟨y,hy⟩:∃y,x.sks[ix]? =some y:=⟨_,List.getElem?_eq_getElem (by omega)⟩
   have hy1:=hr ix y hy
   have zg:=hy1.lt
   obtain⟨m0,i0',j0,m2,i2,j2,m3,i3,j3,⟨F0,F1,F2,F3⟩,L0,L2,L3⟩:=hy1
   have HT:=ab (iH hy)
   have hle:=aa HLB ix
   have hly:y.ls.length≤1048576:=(hsk2 y (List.mem_of_getElem? hy)).2.2
   have HLN:=ab L3.1
   have hlq:=L3.1.1
   have hi13:(ix:Int)<(l13:Int):=by omega
   have hk9:=ab (show ix+1≤l13 by omega)
   have hixb:(ix:Int)≤1048576:=by have h9:=hl13.1;omega
   have hszl:(cL (x.sks.take ix)).length+y.ls.length≤1099511627776:=by omega
   have hge9:=ab (fun b9 (e9:Value.ownBlock u3=some b9)=>jc (aa HO) b9 e9)
   clear hx9 hr hy hF L0 L2 L3 hle hsk1 hsk2 hl13
   have hbA:Below wr.heap.size wr (wr.alloc (.cells #[.slice m0 i0' j0,.int .i64 y.n,.slice m2 i2 j2,.slice m3 i3 j3] 74)):=ai _ _
   have zW9:=hbw.size
   go_upto_region 8 with(at_builtin;go_loud (refine wp_app rfl _ _ 58 rfl W0.heap.size 103 i0 _ 7 56 Tryz.underlying58 hi hz0 hz1 hz2 rfl (by decide) u3 _ _ rfl (gT (aa HO) hbA) m3 i3 j3 (bk y.ls) rfl (by rw[fy,hlq]) (fun h9=>(aa HLN).2.2.elim id (fun h8=>by obtain⟨_,_,h8,_⟩:=h8;rw[h9]at h8;cases h8)) (newsFLp ((aa HLN).below hbA)) (oneFLp _) (by unfold maxLen;omega) (by omega) (by first|omega|(simp;omega)) ?_);intro v5 w5 hown hgrow)
   have hb5:Below W0.heap.size W0 w5:=(hbw.trans (hbA.mono hbw.size)).grown hgrow (jk) (fun b9 e9=>(aa hge9 b9 e9).1)
   rw[←hlq]at hown
   have HO5:Hid (eW w5 W0.heap.size v5 (cL (x.sks.take (ix+1)))):=ab (by rw[aa HT];exact appFLp hown)
   clear hown hgrow hge9
   go_wp2
   go_roundw
   case rel=>exact⟨ix+1,aa hk9,by go_num,HO5,hb5⟩
   case measure=>have h9:=aa hk9;simp[intOf];omega
  ·have HV:Hid (cL (x.sks.take ix)=cL x.sks):=ab (by obtain⟨hl13,_⟩:=aa HKL;rw[List.take_of_length_le (by omega)])
   have hge:¬ (ix:Int)<(l13:Int):=by omega
   go_wp2
   go_ret
   exact⟨_,rfl,fi (by have h9:=aa HO;rw[aa HV]at h9;exact h9) zW,ae (aa HB) (hbw.mono (by omega))⟩
end Go.Proofs.YtealpjmannopeaaGreat
