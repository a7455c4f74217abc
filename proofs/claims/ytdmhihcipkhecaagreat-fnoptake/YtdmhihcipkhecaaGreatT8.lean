/- Laid together: what the claim needs of the texts that were built one by one. -/
import Derived.Test.YtdmhihcipkhecaaGreatT6
import Derived.Test.YtdmhihcipkhecaaGreatT7
import Derived.RegionTactic
import Derived.ChangeAlike
import Derived.Test.YtdmhihcipkhecaaGreatT0
set_option linter.unusedVariables false
namespace Go.Proofs.YtdmhihcipkhecaaGreat
open Go.ChangeShapes Go.WideShapes Go.ChangeAt Go.RowKit Go.Shelf Go.Maps
set_option linter.unusedSimpArgs false
def NnS(v:Value):Prop:=∃a n c,v= .slice (some a) n c
theorem lit1P{W:World}{B g:Nat}(x:cY)(h:B≤W.heap.size)(hg:g=W.heap.size):aR (W.alloc (.cells #[.int .i64 x.ky,.int .i64 x.st,.int .i64 x.en,.int .i64 x.no,.int .i64 x.kd,.int .i64 x.n,.int .i64 x.su,.int .i64 x.le,.int .i64 x.mo] 52)) B (.slice (some ⟨g,0,none⟩) 1 1) [x]:=by
 subst hg
 exact World.ownsRow_lit (base:=B) (size:=9) W #[.int .i64 x.ky,.int .i64 x.st,.int .i64 x.en,.int .i64 x.no,.int .i64 x.kd,.int .i64 x.n,.int .i64 x.su,.int .i64 x.le,.int .i64 x.mo] 1 h (by decide) (by simp)
set_option maxRecDepth 100000 in
set_option maxHeartbeats 8000000 in
theorem l7tell_a(s t k z q l e:Int)(b:Bool)(v r m:Int)(a:Option Addr)(len cap:Nat)(xs:List aC)(x:aC)(w:World)(h:cO w a len xs)(hlen:len≤900)(hm:m<x.en):Calls Tryz.prog 89 #[.agg #[.int .i64 s,.int .i64 t,.int .i64 k,.int .i64 z,.int .i64 q,.int .i64 l,.int .i64 e,.bool b,.int .i64 v,.int .i64 r],.agg #[.int .i64 m,.slice a len cap],.agg #[.int .i64 x.ky,.int .i64 x.st,.int .i64 x.en,.int .i64 x.an,.int .i64 x.asu,.int .i64 x.ale,.int .i64 x.amo,.int .i64 x.fn,.int .i64 x.fsu,.int .i64 x.fle,.int .i64 x.fmo,.int .i64 x.td,.bool x.tm]] w fun e' w'=>∃v1 v2,e'= .returned (.tuple #[.agg #[.int .i64 m,v1],v2])∧aS w' w.heap.size v1 (eC b m xs x).1∧aR w' w.heap.size v2 (eC b m xs x).2∧Below w.heap.size w w'∧NnS v2:=by
 have hxl:=h.1
 have hbE:Below w.heap.size w ((((w.alloc (.cells #[.int .i64 s,.int .i64 t,.int .i64 k,.int .i64 z,.int .i64 q,.int .i64 l,.int .i64 e,.bool b,.int .i64 v,.int .i64 r] 24)).alloc (.cells #[.int .i64 m,.slice a len cap] 27)).alloc (.cells #[.int .i64 x.ky,.int .i64 x.st,.int .i64 x.en,.int .i64 x.an,.int .i64 x.asu,.int .i64 x.ale,.int .i64 x.amo,.int .i64 x.fn,.int .i64 x.fsu,.int .i64 x.fle,.int .i64 x.fmo,.int .i64 x.td,.bool x.tm] 57)).alloc (.cells #[.int .i64 0,.slice none 0 0] 27)):=ag (ag (ag (aq _ _) _) _) _
 have HE:=ae (h.below hbE)
 have eJ:((((w.alloc (.cells #[.int .i64 s,.int .i64 t,.int .i64 k,.int .i64 z,.int .i64 q,.int .i64 l,.int .i64 e,.bool b,.int .i64 v,.int .i64 r] 24)).alloc (.cells #[.int .i64 m,.slice a len cap] 27)).alloc (.cells #[.int .i64 x.ky,.int .i64 x.st,.int .i64 x.en,.int .i64 x.an,.int .i64 x.asu,.int .i64 x.ale,.int .i64 x.amo,.int .i64 x.fn,.int .i64 x.fsu,.int .i64 x.fle,.int .i64 x.fmo,.int .i64 x.td,.bool x.tm] 57)).alloc (.cells #[.int .i64 0,.slice none 0 0] 27)).heap[w.heap.size]? =some (.cells #[.int .i64 s,.int .i64 t,.int .i64 k,.int .i64 z,.int .i64 q,.int .i64 l,.int .i64 e,.bool b,.int .i64 v,.int .i64 r] 24 (0,0)):=(Below.heap_alloc _ _ _ (sA)).trans ((Below.heap_alloc _ _ _ (sA)).trans ((Below.heap_alloc _ _ _ (sA)).trans nA))
 have eS:((((w.alloc (.cells #[.int .i64 s,.int .i64 t,.int .i64 k,.int .i64 z,.int .i64 q,.int .i64 l,.int .i64 e,.bool b,.int .i64 v,.int .i64 r] 24)).alloc (.cells #[.int .i64 m,.slice a len cap] 27)).alloc (.cells #[.int .i64 x.ky,.int .i64 x.st,.int .i64 x.en,.int .i64 x.an,.int .i64 x.asu,.int .i64 x.ale,.int .i64 x.amo,.int .i64 x.fn,.int .i64 x.fsu,.int .i64 x.fle,.int .i64 x.fmo,.int .i64 x.td,.bool x.tm] 57)).alloc (.cells #[.int .i64 0,.slice none 0 0] 27)).heap[w.heap.size+1]? =some (.cells #[.int .i64 m,.slice a len cap] 27 (0,0)):=(Below.heap_alloc _ _ _ (sA)).trans ((Below.heap_alloc _ _ _ (sA)).trans nA)
 have eX:((((w.alloc (.cells #[.int .i64 s,.int .i64 t,.int .i64 k,.int .i64 z,.int .i64 q,.int .i64 l,.int .i64 e,.bool b,.int .i64 v,.int .i64 r] 24)).alloc (.cells #[.int .i64 m,.slice a len cap] 27)).alloc (.cells #[.int .i64 x.ky,.int .i64 x.st,.int .i64 x.en,.int .i64 x.an,.int .i64 x.asu,.int .i64 x.ale,.int .i64 x.amo,.int .i64 x.fn,.int .i64 x.fsu,.int .i64 x.fle,.int .i64 x.fmo,.int .i64 x.td,.bool x.tm] 57)).alloc (.cells #[.int .i64 0,.slice none 0 0] 27)).heap[w.heap.size+1+1]? =some (.cells #[.int .i64 x.ky,.int .i64 x.st,.int .i64 x.en,.int .i64 x.an,.int .i64 x.asu,.int .i64 x.ale,.int .i64 x.amo,.int .i64 x.fn,.int .i64 x.fsu,.int .i64 x.fle,.int .i64 x.fmo,.int .i64 x.td,.bool x.tm] 57 (0,0)):=(Below.heap_alloc _ _ _ (sA)).trans nA
 have eR:((((w.alloc (.cells #[.int .i64 s,.int .i64 t,.int .i64 k,.int .i64 z,.int .i64 q,.int .i64 l,.int .i64 e,.bool b,.int .i64 v,.int .i64 r] 24)).alloc (.cells #[.int .i64 m,.slice a len cap] 27)).alloc (.cells #[.int .i64 x.ky,.int .i64 x.st,.int .i64 x.en,.int .i64 x.an,.int .i64 x.asu,.int .i64 x.ale,.int .i64 x.amo,.int .i64 x.fn,.int .i64 x.fsu,.int .i64 x.fle,.int .i64 x.fmo,.int .i64 x.td,.bool x.tm] 57)).alloc (.cells #[.int .i64 0,.slice none 0 0] 27)).heap[w.heap.size+1+1+1]? =some (.cells #[.int .i64 0,.slice none 0 0] 27 (0,0)):=nA
 go_enter Tryz.func89,Tryz.ntmps89
 go_wp2_with fail
 refine(iz x _ _ _ xs _ (ab HE) (by omega)).mono ?_
 rintro e' w1 ⟨v1,rfl,hO1,hb1⟩
 obtain⟨a1,c1,rfl⟩:=dr hO1
 have bS:=(hb1.block (w.heap.size+1) (sA)).trans eS
 have bR:=(hb1.block (w.heap.size+1+1+1) (sA)).trans eR
 have zw1:w.heap.size+4≤w1.heap.size:=by have:=hb1.size;simp at this;omega
 have zB0:w.heap.size<w1.heap.size:=by omega
 have zB1:w.heap.size+1<w1.heap.size:=by omega
 have zB2:w.heap.size+1+1<w1.heap.size:=by omega
 have zB3:w.heap.size+1+1+1<w1.heap.size:=by omega
 have hbw:Below w.heap.size w w1:=am hbE hb1
 clear eJ eS eX eR HE
 obtain⟨s0,s1⟩:=c2 bS
 obtain⟨sf0,sf1⟩:=f2 bS
 obtain⟨r0,r1⟩:=c2 bR
 obtain⟨rf0,rf1⟩:=f2 bR
 have hOF:Hid ((((w1.setCell ⟨w.heap.size+1,1,none⟩ (.slice a1 (ci x xs).length c1)).setCell ⟨w.heap.size+1+1+1,0,none⟩ (.int .i64 m)).setCell ⟨w.heap.size+1+1+1,1,none⟩ (.slice a1 (ci x xs).length c1)).ownsRow w.heap.size 57 13 (.slice a1 (ci x xs).length c1) (ci x xs).length (ba (ci x xs))):=ae (al (al (al (World.ownsRow.mono hO1 (sA)) (af hO1 bS (by decide))) (af hO1 bR (by decide))) (af hO1 bR (by decide)))
 have hBF:Hid (Below w.heap.size w (((w1.setCell ⟨w.heap.size+1,1,none⟩ (.slice a1 (ci x xs).length c1)).setCell ⟨w.heap.size+1+1+1,0,none⟩ (.int .i64 m)).setCell ⟨w.heap.size+1+1+1,1,none⟩ (.slice a1 (ci x xs).length c1))):=ae (av (av (av hbw (sA) _) (sA) _) (sA) _)
 clear bS bR hb1 hbE
 go_wp2
 refine bodyPost_ret (v:= .tuple #[.agg #[.int .i64 m,(.slice a1 (ci x xs).length c1)],.slice (some ⟨w1.heap.size,0,none⟩) 0 0]) (ng) rfl ?_
 have e9:eC b m xs x=(ci x xs,[]):=by unfold eC;rw[if_pos hm]
 rw[e9]
 exact⟨_,_,rfl,World.ownsRow.alloc (ab hOF) _,cE (B:=w.heap.size) _ _ (sA) (by simp),ag (ab hBF) _,_,_,_,rfl⟩
set_option maxRecDepth 100000 in
set_option maxHeartbeats 8000000 in
theorem l7tell_true(s t k z q l e:Int)(b:Bool)(v r m:Int)(a:Option Addr)(len cap:Nat)(xs:List aC)(x:aC)(w:World)(h:cO w a len xs)(hlen:len≤900)(hm:¬ m<x.en)(htd:0≤x.td∧x.td≤100000)(htm:x.tm=true):Calls Tryz.prog 89 #[.agg #[.int .i64 s,.int .i64 t,.int .i64 k,.int .i64 z,.int .i64 q,.int .i64 l,.int .i64 e,.bool b,.int .i64 v,.int .i64 r],.agg #[.int .i64 m,.slice a len cap],.agg #[.int .i64 x.ky,.int .i64 x.st,.int .i64 x.en,.int .i64 x.an,.int .i64 x.asu,.int .i64 x.ale,.int .i64 x.amo,.int .i64 x.fn,.int .i64 x.fsu,.int .i64 x.fle,.int .i64 x.fmo,.int .i64 x.td,.bool x.tm]] w fun e' w'=>∃v1 v2,e'= .returned (.tuple #[.agg #[.int .i64 m,v1],v2])∧aS w' w.heap.size v1 (eC b m xs x).1∧aR w' w.heap.size v2 (eC b m xs x).2∧Below w.heap.size w w'∧NnS v2:=by
 obtain⟨ky,st,en,an,asu,ale,amo,fn,fsu,fle,fmo,td,tm⟩:=x
 dsimp only at htm hm htd ⊢
 subst htm
 have hxl:=h.1
 have hbE:Below w.heap.size w ((((w.alloc (.cells #[.int .i64 s,.int .i64 t,.int .i64 k,.int .i64 z,.int .i64 q,.int .i64 l,.int .i64 e,.bool b,.int .i64 v,.int .i64 r] 24)).alloc (.cells #[.int .i64 m,.slice a len cap] 27)).alloc (.cells #[.int .i64 ky,.int .i64 st,.int .i64 en,.int .i64 an,.int .i64 asu,.int .i64 ale,.int .i64 amo,.int .i64 fn,.int .i64 fsu,.int .i64 fle,.int .i64 fmo,.int .i64 td,.bool true] 57)).alloc (.cells #[.int .i64 0,.slice none 0 0] 27)):=ag (ag (ag (aq _ _) _) _) _
 have HE:=ae (h.below hbE)
 have eJ:((((w.alloc (.cells #[.int .i64 s,.int .i64 t,.int .i64 k,.int .i64 z,.int .i64 q,.int .i64 l,.int .i64 e,.bool b,.int .i64 v,.int .i64 r] 24)).alloc (.cells #[.int .i64 m,.slice a len cap] 27)).alloc (.cells #[.int .i64 ky,.int .i64 st,.int .i64 en,.int .i64 an,.int .i64 asu,.int .i64 ale,.int .i64 amo,.int .i64 fn,.int .i64 fsu,.int .i64 fle,.int .i64 fmo,.int .i64 td,.bool true] 57)).alloc (.cells #[.int .i64 0,.slice none 0 0] 27)).heap[w.heap.size]? =some (.cells #[.int .i64 s,.int .i64 t,.int .i64 k,.int .i64 z,.int .i64 q,.int .i64 l,.int .i64 e,.bool b,.int .i64 v,.int .i64 r] 24 (0,0)):=(Below.heap_alloc _ _ _ (sA)).trans ((Below.heap_alloc _ _ _ (sA)).trans ((Below.heap_alloc _ _ _ (sA)).trans nA))
 have eS:((((w.alloc (.cells #[.int .i64 s,.int .i64 t,.int .i64 k,.int .i64 z,.int .i64 q,.int .i64 l,.int .i64 e,.bool b,.int .i64 v,.int .i64 r] 24)).alloc (.cells #[.int .i64 m,.slice a len cap] 27)).alloc (.cells #[.int .i64 ky,.int .i64 st,.int .i64 en,.int .i64 an,.int .i64 asu,.int .i64 ale,.int .i64 amo,.int .i64 fn,.int .i64 fsu,.int .i64 fle,.int .i64 fmo,.int .i64 td,.bool true] 57)).alloc (.cells #[.int .i64 0,.slice none 0 0] 27)).heap[w.heap.size+1]? =some (.cells #[.int .i64 m,.slice a len cap] 27 (0,0)):=(Below.heap_alloc _ _ _ (sA)).trans ((Below.heap_alloc _ _ _ (sA)).trans nA)
 have eX:((((w.alloc (.cells #[.int .i64 s,.int .i64 t,.int .i64 k,.int .i64 z,.int .i64 q,.int .i64 l,.int .i64 e,.bool b,.int .i64 v,.int .i64 r] 24)).alloc (.cells #[.int .i64 m,.slice a len cap] 27)).alloc (.cells #[.int .i64 ky,.int .i64 st,.int .i64 en,.int .i64 an,.int .i64 asu,.int .i64 ale,.int .i64 amo,.int .i64 fn,.int .i64 fsu,.int .i64 fle,.int .i64 fmo,.int .i64 td,.bool true] 57)).alloc (.cells #[.int .i64 0,.slice none 0 0] 27)).heap[w.heap.size+1+1]? =some (.cells #[.int .i64 ky,.int .i64 st,.int .i64 en,.int .i64 an,.int .i64 asu,.int .i64 ale,.int .i64 amo,.int .i64 fn,.int .i64 fsu,.int .i64 fle,.int .i64 fmo,.int .i64 td,.bool true] 57 (0,0)):=(Below.heap_alloc _ _ _ (sA)).trans nA
 have eR:((((w.alloc (.cells #[.int .i64 s,.int .i64 t,.int .i64 k,.int .i64 z,.int .i64 q,.int .i64 l,.int .i64 e,.bool b,.int .i64 v,.int .i64 r] 24)).alloc (.cells #[.int .i64 m,.slice a len cap] 27)).alloc (.cells #[.int .i64 ky,.int .i64 st,.int .i64 en,.int .i64 an,.int .i64 asu,.int .i64 ale,.int .i64 amo,.int .i64 fn,.int .i64 fsu,.int .i64 fle,.int .i64 fmo,.int .i64 td,.bool true] 57)).alloc (.cells #[.int .i64 0,.slice none 0 0] 27)).heap[w.heap.size+1+1+1]? =some (.cells #[.int .i64 0,.slice none 0 0] 27 (0,0)):=nA
 go_enter Tryz.func89,Tryz.ntmps89
 go_wp2_with fail
 refine(gH s t k z q l e b v r (⟨ky,st,en,an,asu,ale,amo,fn,fsu,fle,fmo,td,true⟩:aC) 2 _).mono ?_
 dsimp only
 obtain⟨p5,h5⟩:∃p5,(if b=true then fn else an)=p5:=⟨_,rfl⟩
 obtain⟨p6,h6⟩:∃p6,(if b=true then fsu else asu)=p6:=⟨_,rfl⟩
 obtain⟨p7,h7⟩:∃p7,(if b=true then fle else ale)=p7:=⟨_,rfl⟩
 obtain⟨p8,h8⟩:∃p8,(if b=true then fmo else amo)=p8:=⟨_,rfl⟩
 rw[h5,h6,h7,h8]
 have HPN:Hid (dJ b (⟨ky,st,en,an,asu,ale,amo,fn,fsu,fle,fmo,td,true⟩:aC)=⟨ky,st,en,td,2,p5,p6,p7,p8⟩):=ae (by rw[←h5,←h6,←h7,←h8];rfl)
 clear h5 h6 h7 h8
 rintro e' w1 ⟨rfl,hb1⟩
 have bS:=(hb1.block (w.heap.size+1) (sA)).trans eS
 have bX:=(hb1.block (w.heap.size+1+1) (sA)).trans eX
 have bR:=(hb1.block (w.heap.size+1+1+1) (sA)).trans eR
 have zw1:w.heap.size+4≤w1.heap.size:=by have:=hb1.size;simp at this;omega
 have zB0:w.heap.size<w1.heap.size:=by omega
 have zB1:w.heap.size+1<w1.heap.size:=by omega
 have zB2:w.heap.size+1+1<w1.heap.size:=by omega
 have zB3:w.heap.size+1+1+1<w1.heap.size:=by omega
 have hbw:Below w.heap.size w w1:=am hbE hb1
 have HRw:=ae (h.below hbw)
 clear eJ eS eX eR HE hbE hb1
 obtain⟨x0,x1,x2,x3,x4,x5,x6,x7,x8,x9,x10,x11,x12⟩:=eu bX
 obtain⟨xf0,xf1,xf2,xf3,xf4,xf5,xf6,xf7,xf8,xf9,xf10,xf11,xf12⟩:=f13 bX
 obtain⟨s0,s1⟩:=c2 bS
 obtain⟨sf0,sf1⟩:=f2 bS
 go_upto_region 11 with fail
 have bX1:=Joins.block_setCell (g:=w.heap.size+1+1) (i:=11) bX (.int .i64 (td+1))
 have bX2x:=Joins.block_setCell (g:=w.heap.size+1+1) (i:=12) bX1 (.bool true)
 have bX3:=Joins.block_setCell (g:=w.heap.size+1+1) (i:=7) bX2x (.int .i64 0)
 have bX4:=Joins.block_setCell (g:=w.heap.size+1+1) (i:=8) bX3 (.int .i64 0)
 have bX5:(((((w1.setCell ⟨w.heap.size+1+1,11,none⟩ (.int .i64 (td+1))).setCell ⟨w.heap.size+1+1,12,none⟩ (.bool true)).setCell ⟨w.heap.size+1+1,7,none⟩ (.int .i64 0)).setCell ⟨w.heap.size+1+1,8,none⟩ (.int .i64 0)).setCell ⟨w.heap.size+1+1,9,none⟩ (.int .i64 0)).heap[w.heap.size+1+1]? =some (.cells #[.int .i64 ky,.int .i64 st,.int .i64 en,.int .i64 an,.int .i64 asu,.int .i64 ale,.int .i64 amo,.int .i64 0,.int .i64 0,.int .i64 0,.int .i64 fmo,.int .i64 (td+1),.bool true] 57 (0,0)):=Joins.block_setCell bX4 _
 have bX6:((((((w1.setCell ⟨w.heap.size+1+1,11,none⟩ (.int .i64 (td+1))).setCell ⟨w.heap.size+1+1,12,none⟩ (.bool true)).setCell ⟨w.heap.size+1+1,7,none⟩ (.int .i64 0)).setCell ⟨w.heap.size+1+1,8,none⟩ (.int .i64 0)).setCell ⟨w.heap.size+1+1,9,none⟩ (.int .i64 0)).setCell ⟨w.heap.size+1+1,10,none⟩ (.int .i64 0)).heap[w.heap.size+1+1]? =some (.cells #[.int .i64 ky,.int .i64 st,.int .i64 en,.int .i64 an,.int .i64 asu,.int .i64 ale,.int .i64 amo,.int .i64 0,.int .i64 0,.int .i64 0,.int .i64 0,.int .i64 (td+1),.bool true] 57 (0,0)):=Joins.block_setCell bX5 _
 have bP2:(((((((w1.setCell ⟨w.heap.size+1+1,11,none⟩ (.int .i64 (td+1))).setCell ⟨w.heap.size+1+1,12,none⟩ (.bool true)).setCell ⟨w.heap.size+1+1,7,none⟩ (.int .i64 0)).setCell ⟨w.heap.size+1+1,8,none⟩ (.int .i64 0)).setCell ⟨w.heap.size+1+1,9,none⟩ (.int .i64 0)).setCell ⟨w.heap.size+1+1,10,none⟩ (.int .i64 0)).alloc (.cells #[.int .i64 ky,.int .i64 st,.int .i64 en,.int .i64 td,.int .i64 2,.int .i64 p5,.int .i64 p6,.int .i64 p7,.int .i64 p8] 52)).heap[w1.heap.size]? =some (.cells #[.int .i64 ky,.int .i64 st,.int .i64 en,.int .i64 td,.int .i64 2,.int .i64 p5,.int .i64 p6,.int .i64 p7,.int .i64 p8] 52 (0,0)):=by
  have h9:=World.alloc_heap_new ((((((w1.setCell ⟨w.heap.size+1+1,11,none⟩ (.int .i64 (td+1))).setCell ⟨w.heap.size+1+1,12,none⟩ (.bool true)).setCell ⟨w.heap.size+1+1,7,none⟩ (.int .i64 0)).setCell ⟨w.heap.size+1+1,8,none⟩ (.int .i64 0)).setCell ⟨w.heap.size+1+1,9,none⟩ (.int .i64 0)).setCell ⟨w.heap.size+1+1,10,none⟩ (.int .i64 0)) (.cells #[.int .i64 ky,.int .i64 st,.int .i64 en,.int .i64 td,.int .i64 2,.int .i64 p5,.int .i64 p6,.int .i64 p7,.int .i64 p8] 52)
  simp only[World.size_setCell]at h9
  exact h9
 have bX2:(((((((w1.setCell ⟨w.heap.size+1+1,11,none⟩ (.int .i64 (td+1))).setCell ⟨w.heap.size+1+1,12,none⟩ (.bool true)).setCell ⟨w.heap.size+1+1,7,none⟩ (.int .i64 0)).setCell ⟨w.heap.size+1+1,8,none⟩ (.int .i64 0)).setCell ⟨w.heap.size+1+1,9,none⟩ (.int .i64 0)).setCell ⟨w.heap.size+1+1,10,none⟩ (.int .i64 0)).alloc (.cells #[.int .i64 ky,.int .i64 st,.int .i64 en,.int .i64 td,.int .i64 2,.int .i64 p5,.int .i64 p6,.int .i64 p7,.int .i64 p8] 52)).heap[w.heap.size+1+1]? =some (.cells #[.int .i64 ky,.int .i64 st,.int .i64 en,.int .i64 an,.int .i64 asu,.int .i64 ale,.int .i64 amo,.int .i64 0,.int .i64 0,.int .i64 0,.int .i64 0,.int .i64 (td+1),.bool true] 57 (0,0)):=(Below.heap_alloc _ _ _ (sA)).trans bX6
 have bS2:(((((((w1.setCell ⟨w.heap.size+1+1,11,none⟩ (.int .i64 (td+1))).setCell ⟨w.heap.size+1+1,12,none⟩ (.bool true)).setCell ⟨w.heap.size+1+1,7,none⟩ (.int .i64 0)).setCell ⟨w.heap.size+1+1,8,none⟩ (.int .i64 0)).setCell ⟨w.heap.size+1+1,9,none⟩ (.int .i64 0)).setCell ⟨w.heap.size+1+1,10,none⟩ (.int .i64 0)).alloc (.cells #[.int .i64 ky,.int .i64 st,.int .i64 en,.int .i64 td,.int .i64 2,.int .i64 p5,.int .i64 p6,.int .i64 p7,.int .i64 p8] 52)).heap[w.heap.size+1]? =some (.cells #[.int .i64 m,.slice a len cap] 27 (0,0)):=(Below.heap_alloc _ _ _ (sA)).trans ((Below.heap_setCell _ _ _ _ (by simp)).trans<|(Below.heap_setCell _ _ _ _ (by simp)).trans<|(Below.heap_setCell _ _ _ _ (by simp)).trans<|(Below.heap_setCell _ _ _ _ (by simp)).trans<|(Below.heap_setCell _ _ _ _ (by simp)).trans<|(Below.heap_setCell _ _ _ _ (by simp)).trans<|bS)
 have bR2:(((((((w1.setCell ⟨w.heap.size+1+1,11,none⟩ (.int .i64 (td+1))).setCell ⟨w.heap.size+1+1,12,none⟩ (.bool true)).setCell ⟨w.heap.size+1+1,7,none⟩ (.int .i64 0)).setCell ⟨w.heap.size+1+1,8,none⟩ (.int .i64 0)).setCell ⟨w.heap.size+1+1,9,none⟩ (.int .i64 0)).setCell ⟨w.heap.size+1+1,10,none⟩ (.int .i64 0)).alloc (.cells #[.int .i64 ky,.int .i64 st,.int .i64 en,.int .i64 td,.int .i64 2,.int .i64 p5,.int .i64 p6,.int .i64 p7,.int .i64 p8] 52)).heap[w.heap.size+1+1+1]? =some (.cells #[.int .i64 0,.slice none 0 0] 27 (0,0)):=(Below.heap_alloc _ _ _ (sA)).trans ((Below.heap_setCell _ _ _ _ (by simp)).trans<|(Below.heap_setCell _ _ _ _ (by simp)).trans<|(Below.heap_setCell _ _ _ _ (by simp)).trans<|(Below.heap_setCell _ _ _ _ (by simp)).trans<|(Below.heap_setCell _ _ _ _ (by simp)).trans<|(Below.heap_setCell _ _ _ _ (by simp)).trans<|bR)
 have hb2:Below w.heap.size w (((((((w1.setCell ⟨w.heap.size+1+1,11,none⟩ (.int .i64 (td+1))).setCell ⟨w.heap.size+1+1,12,none⟩ (.bool true)).setCell ⟨w.heap.size+1+1,7,none⟩ (.int .i64 0)).setCell ⟨w.heap.size+1+1,8,none⟩ (.int .i64 0)).setCell ⟨w.heap.size+1+1,9,none⟩ (.int .i64 0)).setCell ⟨w.heap.size+1+1,10,none⟩ (.int .i64 0)).alloc (.cells #[.int .i64 ky,.int .i64 st,.int .i64 en,.int .i64 td,.int .i64 2,.int .i64 p5,.int .i64 p6,.int .i64 p7,.int .i64 p8] 52)):=ag (av (av (av (av (av (av (hbw) (sA) _) (sA) _) (sA) _) (sA) _) (sA) _) (sA) _) _
 have z2:w1.heap.size<(((((((w1.setCell ⟨w.heap.size+1+1,11,none⟩ (.int .i64 (td+1))).setCell ⟨w.heap.size+1+1,12,none⟩ (.bool true)).setCell ⟨w.heap.size+1+1,7,none⟩ (.int .i64 0)).setCell ⟨w.heap.size+1+1,8,none⟩ (.int .i64 0)).setCell ⟨w.heap.size+1+1,9,none⟩ (.int .i64 0)).setCell ⟨w.heap.size+1+1,10,none⟩ (.int .i64 0)).alloc (.cells #[.int .i64 ky,.int .i64 st,.int .i64 en,.int .i64 td,.int .i64 2,.int .i64 p5,.int .i64 p6,.int .i64 p7,.int .i64 p8] 52)).heap.size:=by simp
 clear x0 x1 x2 x3 x4 x5 x6 x7 x8 x9 x10 x11 x12 xf0 xf1 xf2 xf3 xf4 xf5 xf6 xf7 xf8 xf9 xf10 xf11 xf12 s0 s1 sf0 sf1 bX bS bR bX1 bX2x bX3 bX4 bX5 bX6
 generalize (((((((w1.setCell ⟨w.heap.size+1+1,11,none⟩ (.int .i64 (td+1))).setCell ⟨w.heap.size+1+1,12,none⟩ (.bool true)).setCell ⟨w.heap.size+1+1,7,none⟩ (.int .i64 0)).setCell ⟨w.heap.size+1+1,8,none⟩ (.int .i64 0)).setCell ⟨w.heap.size+1+1,9,none⟩ (.int .i64 0)).setCell ⟨w.heap.size+1+1,10,none⟩ (.int .i64 0)).alloc (.cells #[.int .i64 ky,.int .i64 st,.int .i64 en,.int .i64 td,.int .i64 2,.int .i64 p5,.int .i64 p6,.int .i64 p7,.int .i64 p8] 52))=w2 at bP2 bX2 bS2 bR2 hb2 z2 ⊢
 have HR2:=ae (h.below hb2)
 obtain⟨u0,u1,u2,u3,u4,u5,u6,u7,u8,u9,u10,u11,u12⟩:=eu bX2
 obtain⟨y0,y1⟩:=c2 bS2
 go_wp2_with fail
 refine(iz (cT (⟨ky,st,en,an,asu,ale,amo,fn,fsu,fle,fmo,td,true⟩:aC)) _ _ _ xs _ (ab HR2) (by omega)).mono ?_
 rintro e' w3 ⟨v1,rfl,hO3,hb3⟩
 obtain⟨a1,c1,rfl⟩:=dr hO3
 obtain⟨ys,hys⟩:∃ys,ci (cT (⟨ky,st,en,an,asu,ale,amo,fn,fsu,fle,fmo,td,true⟩:aC)) xs=ys:=⟨_,rfl⟩
 rw[hys]at hO3 ⊢
 have HYS:=ae hys
 clear hys
 have bS3:=(hb3.block (w.heap.size+1) (by omega)).trans bS2
 have bR3:=(hb3.block (w.heap.size+1+1+1) (by omega)).trans bR2
 have bP3:=(hb3.block (w1.heap.size) (by omega)).trans bP2
 have hbw3:Below w.heap.size w w3:=am hb2 hb3
 have z3:w1.heap.size<w3.heap.size:=by have:=hb3.size;omega
 clear u0 u1 u2 u3 u4 u5 u6 u7 u8 u9 u10 u11 u12 y0 y1 bX2 bS2 bR2 bP2 HR2
 obtain⟨y0,y1⟩:=c2 bS3
 obtain⟨yf0,yf1⟩:=f2 bS3
 go_upto_region 12 with fail
 have bS4:(w3.setCell ⟨w.heap.size+1,1,none⟩ (.slice a1 ys.length c1)).heap[w.heap.size+1]? =some (.cells #[.int .i64 m,.slice a1 ys.length c1] 27 (0,0)):=Joins.block_setCell bS3 _
 have bR4:(w3.setCell ⟨w.heap.size+1,1,none⟩ (.slice a1 ys.length c1)).heap[w.heap.size+1+1+1]? =some (.cells #[.int .i64 0,.slice none 0 0] 27 (0,0)):=(Below.heap_setCell _ _ _ _ (by show _≠w.heap.size+1;omega)).trans bR3
 have bP4:(w3.setCell ⟨w.heap.size+1,1,none⟩ (.slice a1 ys.length c1)).heap[w1.heap.size]? =some (.cells #[.int .i64 ky,.int .i64 st,.int .i64 en,.int .i64 td,.int .i64 2,.int .i64 p5,.int .i64 p6,.int .i64 p7,.int .i64 p8] 52 (0,0)):=(Below.heap_setCell _ _ _ _ (by show _≠w.heap.size+1;omega)).trans bP3
 have hO4:aS (w3.setCell ⟨w.heap.size+1,1,none⟩ (.slice a1 ys.length c1)) w.heap.size (.slice a1 ys.length c1) ys:=al (World.ownsRow.mono hO3 (by have:=hb2.size;omega)) (af hO3 bS3 (by decide))
 have hb4:Below w.heap.size w (w3.setCell ⟨w.heap.size+1,1,none⟩ (.slice a1 ys.length c1)):=av hbw3 (sA) _
 have z4:w1.heap.size<(w3.setCell ⟨w.heap.size+1,1,none⟩ (.slice a1 ys.length c1)).heap.size:=by simpa using z3
 clear y0 y1 yf0 yf1 bS3 bR3 bP3 hO3 hbw3 hb3 z3 hb2 z2
 generalize w3.setCell ⟨w.heap.size+1,1,none⟩ (.slice a1 ys.length c1)=w4 at bS4 bR4 bP4 hO4 hb4 z4 ⊢
 have zC1:w.heap.size+1<w4.heap.size:=by omega
 have zC3:w.heap.size+1+1+1<w4.heap.size:=by omega
 obtain⟨y0,y1⟩:=c2 bS4
 obtain⟨r0,r1⟩:=c2 bR4
 obtain⟨rf0,rf1⟩:=f2 bR4
 obtain⟨pc0,pc1,pc2,pc3,pc4,pc5,pc6,pc7,pc8⟩:=c9 bP4
 have hBF:Hid (Below w.heap.size w ((w4.setCell ⟨w.heap.size+1+1+1,0,none⟩ (.int .i64 m)).setCell ⟨w.heap.size+1+1+1,1,none⟩ (.slice a1 ys.length c1))):=ae (av (av hb4 (sA) _) (sA) _)
 have hOF:Hid (aS ((w4.setCell ⟨w.heap.size+1+1+1,0,none⟩ (.int .i64 m)).setCell ⟨w.heap.size+1+1+1,1,none⟩ (.slice a1 ys.length c1)) w.heap.size (.slice a1 ys.length c1) ys):=ae (al (al hO4 (af hO4 bR4 (by decide))) (af hO4 bR4 (by decide)))
 have hPF:Hid (aR (((w4.setCell ⟨w.heap.size+1+1+1,0,none⟩ (.int .i64 m)).setCell ⟨w.heap.size+1+1+1,1,none⟩ (.slice a1 ys.length c1)).alloc (.cells #[.int .i64 ky,.int .i64 st,.int .i64 en,.int .i64 td,.int .i64 2,.int .i64 p5,.int .i64 p6,.int .i64 p7,.int .i64 p8] 52)) w.heap.size (.slice (some ⟨w4.heap.size,0,none⟩) 1 1) [⟨ky,st,en,td,2,p5,p6,p7,p8⟩]):=ae (lit1P ⟨ky,st,en,td,2,p5,p6,p7,p8⟩ (by have:=(ab hBF).size;exact this) (by simp))
 clear bS4 bR4 bP4 hO4
 go_region
 go_wp2
 refine bodyPost_ret (v:= .tuple #[.agg #[.int .i64 m,(.slice a1 ys.length c1)],.slice (some ⟨w4.heap.size,0,none⟩) 1 1]) (ng) rfl ?_
 have e9:eC b m xs (⟨ky,st,en,an,asu,ale,amo,fn,fsu,fle,fmo,td,true⟩:aC)=(ys,[⟨ky,st,en,td,2,p5,p6,p7,p8⟩]):=by
  unfold eC
  rw[if_neg (by show ¬ m<en;omega),ab HYS,ab HPN]
 rw[e9]
 exact⟨_,_,rfl,World.ownsRow.alloc (ab hOF) _,ab hPF,ap (ag (ab hBF) _),_,_,_,rfl⟩
set_option maxRecDepth 100000 in
set_option maxHeartbeats 8000000 in
theorem ly(s t k z q l e:Int)(b:Bool)(v r m:Int)(a:Option Addr)(len cap:Nat)(xs:List aC)(x:aC)(w:World)(h:cO w a len xs)(hlen:len≤900)(hm:¬ m<x.en)(htd:0≤x.td∧x.td≤100000)(htm:x.tm=false):Calls Tryz.prog 89 #[.agg #[.int .i64 s,.int .i64 t,.int .i64 k,.int .i64 z,.int .i64 q,.int .i64 l,.int .i64 e,.bool b,.int .i64 v,.int .i64 r],.agg #[.int .i64 m,.slice a len cap],.agg #[.int .i64 x.ky,.int .i64 x.st,.int .i64 x.en,.int .i64 x.an,.int .i64 x.asu,.int .i64 x.ale,.int .i64 x.amo,.int .i64 x.fn,.int .i64 x.fsu,.int .i64 x.fle,.int .i64 x.fmo,.int .i64 x.td,.bool x.tm]] w fun e' w'=>∃v1 v2,e'= .returned (.tuple #[.agg #[.int .i64 m,v1],v2])∧aS w' w.heap.size v1 (eC b m xs x).1∧aR w' w.heap.size v2 (eC b m xs x).2∧Below w.heap.size w w'∧NnS v2:=by
 obtain⟨ky,st,en,an,asu,ale,amo,fn,fsu,fle,fmo,td,tm⟩:=x
 dsimp only at htm hm htd ⊢
 subst htm
 have hxl:=h.1
 have hbE:Below w.heap.size w ((((w.alloc (.cells #[.int .i64 s,.int .i64 t,.int .i64 k,.int .i64 z,.int .i64 q,.int .i64 l,.int .i64 e,.bool b,.int .i64 v,.int .i64 r] 24)).alloc (.cells #[.int .i64 m,.slice a len cap] 27)).alloc (.cells #[.int .i64 ky,.int .i64 st,.int .i64 en,.int .i64 an,.int .i64 asu,.int .i64 ale,.int .i64 amo,.int .i64 fn,.int .i64 fsu,.int .i64 fle,.int .i64 fmo,.int .i64 td,.bool false] 57)).alloc (.cells #[.int .i64 0,.slice none 0 0] 27)):=ag (ag (ag (aq _ _) _) _) _
 have HE:=ae (h.below hbE)
 have eJ:((((w.alloc (.cells #[.int .i64 s,.int .i64 t,.int .i64 k,.int .i64 z,.int .i64 q,.int .i64 l,.int .i64 e,.bool b,.int .i64 v,.int .i64 r] 24)).alloc (.cells #[.int .i64 m,.slice a len cap] 27)).alloc (.cells #[.int .i64 ky,.int .i64 st,.int .i64 en,.int .i64 an,.int .i64 asu,.int .i64 ale,.int .i64 amo,.int .i64 fn,.int .i64 fsu,.int .i64 fle,.int .i64 fmo,.int .i64 td,.bool false] 57)).alloc (.cells #[.int .i64 0,.slice none 0 0] 27)).heap[w.heap.size]? =some (.cells #[.int .i64 s,.int .i64 t,.int .i64 k,.int .i64 z,.int .i64 q,.int .i64 l,.int .i64 e,.bool b,.int .i64 v,.int .i64 r] 24 (0,0)):=(Below.heap_alloc _ _ _ (sA)).trans ((Below.heap_alloc _ _ _ (sA)).trans ((Below.heap_alloc _ _ _ (sA)).trans nA))
 have eS:((((w.alloc (.cells #[.int .i64 s,.int .i64 t,.int .i64 k,.int .i64 z,.int .i64 q,.int .i64 l,.int .i64 e,.bool b,.int .i64 v,.int .i64 r] 24)).alloc (.cells #[.int .i64 m,.slice a len cap] 27)).alloc (.cells #[.int .i64 ky,.int .i64 st,.int .i64 en,.int .i64 an,.int .i64 asu,.int .i64 ale,.int .i64 amo,.int .i64 fn,.int .i64 fsu,.int .i64 fle,.int .i64 fmo,.int .i64 td,.bool false] 57)).alloc (.cells #[.int .i64 0,.slice none 0 0] 27)).heap[w.heap.size+1]? =some (.cells #[.int .i64 m,.slice a len cap] 27 (0,0)):=(Below.heap_alloc _ _ _ (sA)).trans ((Below.heap_alloc _ _ _ (sA)).trans nA)
 have eX:((((w.alloc (.cells #[.int .i64 s,.int .i64 t,.int .i64 k,.int .i64 z,.int .i64 q,.int .i64 l,.int .i64 e,.bool b,.int .i64 v,.int .i64 r] 24)).alloc (.cells #[.int .i64 m,.slice a len cap] 27)).alloc (.cells #[.int .i64 ky,.int .i64 st,.int .i64 en,.int .i64 an,.int .i64 asu,.int .i64 ale,.int .i64 amo,.int .i64 fn,.int .i64 fsu,.int .i64 fle,.int .i64 fmo,.int .i64 td,.bool false] 57)).alloc (.cells #[.int .i64 0,.slice none 0 0] 27)).heap[w.heap.size+1+1]? =some (.cells #[.int .i64 ky,.int .i64 st,.int .i64 en,.int .i64 an,.int .i64 asu,.int .i64 ale,.int .i64 amo,.int .i64 fn,.int .i64 fsu,.int .i64 fle,.int .i64 fmo,.int .i64 td,.bool false] 57 (0,0)):=(Below.heap_alloc _ _ _ (sA)).trans nA
 have eR:((((w.alloc (.cells #[.int .i64 s,.int .i64 t,.int .i64 k,.int .i64 z,.int .i64 q,.int .i64 l,.int .i64 e,.bool b,.int .i64 v,.int .i64 r] 24)).alloc (.cells #[.int .i64 m,.slice a len cap] 27)).alloc (.cells #[.int .i64 ky,.int .i64 st,.int .i64 en,.int .i64 an,.int .i64 asu,.int .i64 ale,.int .i64 amo,.int .i64 fn,.int .i64 fsu,.int .i64 fle,.int .i64 fmo,.int .i64 td,.bool false] 57)).alloc (.cells #[.int .i64 0,.slice none 0 0] 27)).heap[w.heap.size+1+1+1]? =some (.cells #[.int .i64 0,.slice none 0 0] 27 (0,0)):=nA
 go_enter Tryz.func89,Tryz.ntmps89
 go_wp2_with fail
 refine(gH s t k z q l e b v r (⟨ky,st,en,an,asu,ale,amo,fn,fsu,fle,fmo,td,false⟩:aC) 1 _).mono ?_
 dsimp only
 obtain⟨p5,h5⟩:∃p5,(if b=true then fn else an)=p5:=⟨_,rfl⟩
 obtain⟨p6,h6⟩:∃p6,(if b=true then fsu else asu)=p6:=⟨_,rfl⟩
 obtain⟨p7,h7⟩:∃p7,(if b=true then fle else ale)=p7:=⟨_,rfl⟩
 obtain⟨p8,h8⟩:∃p8,(if b=true then fmo else amo)=p8:=⟨_,rfl⟩
 rw[h5,h6,h7,h8]
 have HPN:Hid (dJ b (⟨ky,st,en,an,asu,ale,amo,fn,fsu,fle,fmo,td,false⟩:aC)=⟨ky,st,en,td,1,p5,p6,p7,p8⟩):=ae (by rw[←h5,←h6,←h7,←h8];rfl)
 clear h5 h6 h7 h8
 rintro e' w1 ⟨rfl,hb1⟩
 have bS:=(hb1.block (w.heap.size+1) (sA)).trans eS
 have bX:=(hb1.block (w.heap.size+1+1) (sA)).trans eX
 have bR:=(hb1.block (w.heap.size+1+1+1) (sA)).trans eR
 have zw1:w.heap.size+4≤w1.heap.size:=by have:=hb1.size;simp at this;omega
 have zB0:w.heap.size<w1.heap.size:=by omega
 have zB1:w.heap.size+1<w1.heap.size:=by omega
 have zB2:w.heap.size+1+1<w1.heap.size:=by omega
 have zB3:w.heap.size+1+1+1<w1.heap.size:=by omega
 have hbw:Below w.heap.size w w1:=am hbE hb1
 have HRw:=ae (h.below hbw)
 clear eJ eS eX eR HE hbE hb1
 obtain⟨x0,x1,x2,x3,x4,x5,x6,x7,x8,x9,x10,x11,x12⟩:=eu bX
 obtain⟨xf0,xf1,xf2,xf3,xf4,xf5,xf6,xf7,xf8,xf9,xf10,xf11,xf12⟩:=f13 bX
 obtain⟨s0,s1⟩:=c2 bS
 obtain⟨sf0,sf1⟩:=f2 bS
 go_upto_region 11 with fail
 have bX1:=Joins.block_setCell (g:=w.heap.size+1+1) (i:=11) bX (.int .i64 (td+1))
 have bX2x:=Joins.block_setCell (g:=w.heap.size+1+1) (i:=12) bX1 (.bool true)
 have bX3:=Joins.block_setCell (g:=w.heap.size+1+1) (i:=7) bX2x (.int .i64 0)
 have bX4:=Joins.block_setCell (g:=w.heap.size+1+1) (i:=8) bX3 (.int .i64 0)
 have bX5:(((((w1.setCell ⟨w.heap.size+1+1,11,none⟩ (.int .i64 (td+1))).setCell ⟨w.heap.size+1+1,12,none⟩ (.bool true)).setCell ⟨w.heap.size+1+1,7,none⟩ (.int .i64 0)).setCell ⟨w.heap.size+1+1,8,none⟩ (.int .i64 0)).setCell ⟨w.heap.size+1+1,9,none⟩ (.int .i64 0)).heap[w.heap.size+1+1]? =some (.cells #[.int .i64 ky,.int .i64 st,.int .i64 en,.int .i64 an,.int .i64 asu,.int .i64 ale,.int .i64 amo,.int .i64 0,.int .i64 0,.int .i64 0,.int .i64 fmo,.int .i64 (td+1),.bool true] 57 (0,0)):=Joins.block_setCell bX4 _
 have bX6:((((((w1.setCell ⟨w.heap.size+1+1,11,none⟩ (.int .i64 (td+1))).setCell ⟨w.heap.size+1+1,12,none⟩ (.bool true)).setCell ⟨w.heap.size+1+1,7,none⟩ (.int .i64 0)).setCell ⟨w.heap.size+1+1,8,none⟩ (.int .i64 0)).setCell ⟨w.heap.size+1+1,9,none⟩ (.int .i64 0)).setCell ⟨w.heap.size+1+1,10,none⟩ (.int .i64 0)).heap[w.heap.size+1+1]? =some (.cells #[.int .i64 ky,.int .i64 st,.int .i64 en,.int .i64 an,.int .i64 asu,.int .i64 ale,.int .i64 amo,.int .i64 0,.int .i64 0,.int .i64 0,.int .i64 0,.int .i64 (td+1),.bool true] 57 (0,0)):=Joins.block_setCell bX5 _
 have bP2:(((((((w1.setCell ⟨w.heap.size+1+1,11,none⟩ (.int .i64 (td+1))).setCell ⟨w.heap.size+1+1,12,none⟩ (.bool true)).setCell ⟨w.heap.size+1+1,7,none⟩ (.int .i64 0)).setCell ⟨w.heap.size+1+1,8,none⟩ (.int .i64 0)).setCell ⟨w.heap.size+1+1,9,none⟩ (.int .i64 0)).setCell ⟨w.heap.size+1+1,10,none⟩ (.int .i64 0)).alloc (.cells #[.int .i64 ky,.int .i64 st,.int .i64 en,.int .i64 td,.int .i64 1,.int .i64 p5,.int .i64 p6,.int .i64 p7,.int .i64 p8] 52)).heap[w1.heap.size]? =some (.cells #[.int .i64 ky,.int .i64 st,.int .i64 en,.int .i64 td,.int .i64 1,.int .i64 p5,.int .i64 p6,.int .i64 p7,.int .i64 p8] 52 (0,0)):=by
  have h9:=World.alloc_heap_new ((((((w1.setCell ⟨w.heap.size+1+1,11,none⟩ (.int .i64 (td+1))).setCell ⟨w.heap.size+1+1,12,none⟩ (.bool true)).setCell ⟨w.heap.size+1+1,7,none⟩ (.int .i64 0)).setCell ⟨w.heap.size+1+1,8,none⟩ (.int .i64 0)).setCell ⟨w.heap.size+1+1,9,none⟩ (.int .i64 0)).setCell ⟨w.heap.size+1+1,10,none⟩ (.int .i64 0)) (.cells #[.int .i64 ky,.int .i64 st,.int .i64 en,.int .i64 td,.int .i64 1,.int .i64 p5,.int .i64 p6,.int .i64 p7,.int .i64 p8] 52)
  simp only[World.size_setCell]at h9
  exact h9
 have bX2:(((((((w1.setCell ⟨w.heap.size+1+1,11,none⟩ (.int .i64 (td+1))).setCell ⟨w.heap.size+1+1,12,none⟩ (.bool true)).setCell ⟨w.heap.size+1+1,7,none⟩ (.int .i64 0)).setCell ⟨w.heap.size+1+1,8,none⟩ (.int .i64 0)).setCell ⟨w.heap.size+1+1,9,none⟩ (.int .i64 0)).setCell ⟨w.heap.size+1+1,10,none⟩ (.int .i64 0)).alloc (.cells #[.int .i64 ky,.int .i64 st,.int .i64 en,.int .i64 td,.int .i64 1,.int .i64 p5,.int .i64 p6,.int .i64 p7,.int .i64 p8] 52)).heap[w.heap.size+1+1]? =some (.cells #[.int .i64 ky,.int .i64 st,.int .i64 en,.int .i64 an,.int .i64 asu,.int .i64 ale,.int .i64 amo,.int .i64 0,.int .i64 0,.int .i64 0,.int .i64 0,.int .i64 (td+1),.bool true] 57 (0,0)):=(Below.heap_alloc _ _ _ (sA)).trans bX6
 have bS2:(((((((w1.setCell ⟨w.heap.size+1+1,11,none⟩ (.int .i64 (td+1))).setCell ⟨w.heap.size+1+1,12,none⟩ (.bool true)).setCell ⟨w.heap.size+1+1,7,none⟩ (.int .i64 0)).setCell ⟨w.heap.size+1+1,8,none⟩ (.int .i64 0)).setCell ⟨w.heap.size+1+1,9,none⟩ (.int .i64 0)).setCell ⟨w.heap.size+1+1,10,none⟩ (.int .i64 0)).alloc (.cells #[.int .i64 ky,.int .i64 st,.int .i64 en,.int .i64 td,.int .i64 1,.int .i64 p5,.int .i64 p6,.int .i64 p7,.int .i64 p8] 52)).heap[w.heap.size+1]? =some (.cells #[.int .i64 m,.slice a len cap] 27 (0,0)):=(Below.heap_alloc _ _ _ (sA)).trans ((Below.heap_setCell _ _ _ _ (by simp)).trans<|(Below.heap_setCell _ _ _ _ (by simp)).trans<|(Below.heap_setCell _ _ _ _ (by simp)).trans<|(Below.heap_setCell _ _ _ _ (by simp)).trans<|(Below.heap_setCell _ _ _ _ (by simp)).trans<|(Below.heap_setCell _ _ _ _ (by simp)).trans<|bS)
 have bR2:(((((((w1.setCell ⟨w.heap.size+1+1,11,none⟩ (.int .i64 (td+1))).setCell ⟨w.heap.size+1+1,12,none⟩ (.bool true)).setCell ⟨w.heap.size+1+1,7,none⟩ (.int .i64 0)).setCell ⟨w.heap.size+1+1,8,none⟩ (.int .i64 0)).setCell ⟨w.heap.size+1+1,9,none⟩ (.int .i64 0)).setCell ⟨w.heap.size+1+1,10,none⟩ (.int .i64 0)).alloc (.cells #[.int .i64 ky,.int .i64 st,.int .i64 en,.int .i64 td,.int .i64 1,.int .i64 p5,.int .i64 p6,.int .i64 p7,.int .i64 p8] 52)).heap[w.heap.size+1+1+1]? =some (.cells #[.int .i64 0,.slice none 0 0] 27 (0,0)):=(Below.heap_alloc _ _ _ (sA)).trans ((Below.heap_setCell _ _ _ _ (by simp)).trans<|(Below.heap_setCell _ _ _ _ (by simp)).trans<|(Below.heap_setCell _ _ _ _ (by simp)).trans<|(Below.heap_setCell _ _ _ _ (by simp)).trans<|(Below.heap_setCell _ _ _ _ (by simp)).trans<|(Below.heap_setCell _ _ _ _ (by simp)).trans<|bR)
 have hb2:Below w.heap.size w (((((((w1.setCell ⟨w.heap.size+1+1,11,none⟩ (.int .i64 (td+1))).setCell ⟨w.heap.size+1+1,12,none⟩ (.bool true)).setCell ⟨w.heap.size+1+1,7,none⟩ (.int .i64 0)).setCell ⟨w.heap.size+1+1,8,none⟩ (.int .i64 0)).setCell ⟨w.heap.size+1+1,9,none⟩ (.int .i64 0)).setCell ⟨w.heap.size+1+1,10,none⟩ (.int .i64 0)).alloc (.cells #[.int .i64 ky,.int .i64 st,.int .i64 en,.int .i64 td,.int .i64 1,.int .i64 p5,.int .i64 p6,.int .i64 p7,.int .i64 p8] 52)):=ag (av (av (av (av (av (av (hbw) (sA) _) (sA) _) (sA) _) (sA) _) (sA) _) (sA) _) _
 have z2:w1.heap.size<(((((((w1.setCell ⟨w.heap.size+1+1,11,none⟩ (.int .i64 (td+1))).setCell ⟨w.heap.size+1+1,12,none⟩ (.bool true)).setCell ⟨w.heap.size+1+1,7,none⟩ (.int .i64 0)).setCell ⟨w.heap.size+1+1,8,none⟩ (.int .i64 0)).setCell ⟨w.heap.size+1+1,9,none⟩ (.int .i64 0)).setCell ⟨w.heap.size+1+1,10,none⟩ (.int .i64 0)).alloc (.cells #[.int .i64 ky,.int .i64 st,.int .i64 en,.int .i64 td,.int .i64 1,.int .i64 p5,.int .i64 p6,.int .i64 p7,.int .i64 p8] 52)).heap.size:=by simp
 clear x0 x1 x2 x3 x4 x5 x6 x7 x8 x9 x10 x11 x12 xf0 xf1 xf2 xf3 xf4 xf5 xf6 xf7 xf8 xf9 xf10 xf11 xf12 s0 s1 sf0 sf1 bX bS bR bX1 bX2x bX3 bX4 bX5 bX6
 generalize (((((((w1.setCell ⟨w.heap.size+1+1,11,none⟩ (.int .i64 (td+1))).setCell ⟨w.heap.size+1+1,12,none⟩ (.bool true)).setCell ⟨w.heap.size+1+1,7,none⟩ (.int .i64 0)).setCell ⟨w.heap.size+1+1,8,none⟩ (.int .i64 0)).setCell ⟨w.heap.size+1+1,9,none⟩ (.int .i64 0)).setCell ⟨w.heap.size+1+1,10,none⟩ (.int .i64 0)).alloc (.cells #[.int .i64 ky,.int .i64 st,.int .i64 en,.int .i64 td,.int .i64 1,.int .i64 p5,.int .i64 p6,.int .i64 p7,.int .i64 p8] 52))=w2 at bP2 bX2 bS2 bR2 hb2 z2 ⊢
 have HR2:=ae (h.below hb2)
 obtain⟨u0,u1,u2,u3,u4,u5,u6,u7,u8,u9,u10,u11,u12⟩:=eu bX2
 obtain⟨y0,y1⟩:=c2 bS2
 go_wp2_with fail
 refine(iz (cT (⟨ky,st,en,an,asu,ale,amo,fn,fsu,fle,fmo,td,false⟩:aC)) _ _ _ xs _ (ab HR2) (by omega)).mono ?_
 rintro e' w3 ⟨v1,rfl,hO3,hb3⟩
 obtain⟨a1,c1,rfl⟩:=dr hO3
 obtain⟨ys,hys⟩:∃ys,ci (cT (⟨ky,st,en,an,asu,ale,amo,fn,fsu,fle,fmo,td,false⟩:aC)) xs=ys:=⟨_,rfl⟩
 rw[hys]at hO3 ⊢
 have HYS:=ae hys
 clear hys
 have bS3:=(hb3.block (w.heap.size+1) (by omega)).trans bS2
 have bR3:=(hb3.block (w.heap.size+1+1+1) (by omega)).trans bR2
 have bP3:=(hb3.block (w1.heap.size) (by omega)).trans bP2
 have hbw3:Below w.heap.size w w3:=am hb2 hb3
 have z3:w1.heap.size<w3.heap.size:=by have:=hb3.size;omega
 clear u0 u1 u2 u3 u4 u5 u6 u7 u8 u9 u10 u11 u12 y0 y1 bX2 bS2 bR2 bP2 HR2
 obtain⟨y0,y1⟩:=c2 bS3
 obtain⟨yf0,yf1⟩:=f2 bS3
 go_upto_region 12 with fail
 have bS4:(w3.setCell ⟨w.heap.size+1,1,none⟩ (.slice a1 ys.length c1)).heap[w.heap.size+1]? =some (.cells #[.int .i64 m,.slice a1 ys.length c1] 27 (0,0)):=Joins.block_setCell bS3 _
 have bR4:(w3.setCell ⟨w.heap.size+1,1,none⟩ (.slice a1 ys.length c1)).heap[w.heap.size+1+1+1]? =some (.cells #[.int .i64 0,.slice none 0 0] 27 (0,0)):=(Below.heap_setCell _ _ _ _ (by show _≠w.heap.size+1;omega)).trans bR3
 have bP4:(w3.setCell ⟨w.heap.size+1,1,none⟩ (.slice a1 ys.length c1)).heap[w1.heap.size]? =some (.cells #[.int .i64 ky,.int .i64 st,.int .i64 en,.int .i64 td,.int .i64 1,.int .i64 p5,.int .i64 p6,.int .i64 p7,.int .i64 p8] 52 (0,0)):=(Below.heap_setCell _ _ _ _ (by show _≠w.heap.size+1;omega)).trans bP3
 have hO4:aS (w3.setCell ⟨w.heap.size+1,1,none⟩ (.slice a1 ys.length c1)) w.heap.size (.slice a1 ys.length c1) ys:=al (World.ownsRow.mono hO3 (by have:=hb2.size;omega)) (af hO3 bS3 (by decide))
 have hb4:Below w.heap.size w (w3.setCell ⟨w.heap.size+1,1,none⟩ (.slice a1 ys.length c1)):=av hbw3 (sA) _
 have z4:w1.heap.size<(w3.setCell ⟨w.heap.size+1,1,none⟩ (.slice a1 ys.length c1)).heap.size:=by simpa using z3
 clear y0 y1 yf0 yf1 bS3 bR3 bP3 hO3 hbw3 hb3 z3 hb2 z2
 generalize w3.setCell ⟨w.heap.size+1,1,none⟩ (.slice a1 ys.length c1)=w4 at bS4 bR4 bP4 hO4 hb4 z4 ⊢
 have zC1:w.heap.size+1<w4.heap.size:=by omega
 have zC3:w.heap.size+1+1+1<w4.heap.size:=by omega
 obtain⟨y0,y1⟩:=c2 bS4
 obtain⟨r0,r1⟩:=c2 bR4
 obtain⟨rf0,rf1⟩:=f2 bR4
 obtain⟨pc0,pc1,pc2,pc3,pc4,pc5,pc6,pc7,pc8⟩:=c9 bP4
 have hBF:Hid (Below w.heap.size w ((w4.setCell ⟨w.heap.size+1+1+1,0,none⟩ (.int .i64 m)).setCell ⟨w.heap.size+1+1+1,1,none⟩ (.slice a1 ys.length c1))):=ae (av (av hb4 (sA) _) (sA) _)
 have hOF:Hid (aS ((w4.setCell ⟨w.heap.size+1+1+1,0,none⟩ (.int .i64 m)).setCell ⟨w.heap.size+1+1+1,1,none⟩ (.slice a1 ys.length c1)) w.heap.size (.slice a1 ys.length c1) ys):=ae (al (al hO4 (af hO4 bR4 (by decide))) (af hO4 bR4 (by decide)))
 have hPF:Hid (aR (((w4.setCell ⟨w.heap.size+1+1+1,0,none⟩ (.int .i64 m)).setCell ⟨w.heap.size+1+1+1,1,none⟩ (.slice a1 ys.length c1)).alloc (.cells #[.int .i64 ky,.int .i64 st,.int .i64 en,.int .i64 td,.int .i64 1,.int .i64 p5,.int .i64 p6,.int .i64 p7,.int .i64 p8] 52)) w.heap.size (.slice (some ⟨w4.heap.size,0,none⟩) 1 1) [⟨ky,st,en,td,1,p5,p6,p7,p8⟩]):=ae (lit1P ⟨ky,st,en,td,1,p5,p6,p7,p8⟩ (by have:=(ab hBF).size;exact this) (by simp))
 clear bS4 bR4 bP4 hO4
 go_region
 go_wp2
 refine bodyPost_ret (v:= .tuple #[.agg #[.int .i64 m,(.slice a1 ys.length c1)],.slice (some ⟨w4.heap.size,0,none⟩) 1 1]) (ng) rfl ?_
 have e9:eC b m xs (⟨ky,st,en,an,asu,ale,amo,fn,fsu,fle,fmo,td,false⟩:aC)=(ys,[⟨ky,st,en,td,1,p5,p6,p7,p8⟩]):=by
  unfold eC
  rw[if_neg (by show ¬ m<en;omega),ab HYS,ab HPN]
 rw[e9]
 exact⟨_,_,rfl,World.ownsRow.alloc (ab hOF) _,ab hPF,ap (ag (ab hBF) _),_,_,_,rfl⟩
theorem jy(s t k z q l e:Int)(b:Bool)(v r m:Int)(a:Option Addr)(len cap:Nat)(xs:List aC)(x:aC)(w:World)(h:cO w a len xs)(hlen:len≤900)(htd:0≤x.td∧x.td≤100000):Calls Tryz.prog 89 #[.agg #[.int .i64 s,.int .i64 t,.int .i64 k,.int .i64 z,.int .i64 q,.int .i64 l,.int .i64 e,.bool b,.int .i64 v,.int .i64 r],.agg #[.int .i64 m,.slice a len cap],.agg #[.int .i64 x.ky,.int .i64 x.st,.int .i64 x.en,.int .i64 x.an,.int .i64 x.asu,.int .i64 x.ale,.int .i64 x.amo,.int .i64 x.fn,.int .i64 x.fsu,.int .i64 x.fle,.int .i64 x.fmo,.int .i64 x.td,.bool x.tm]] w fun e' w'=>∃v1 v2,e'= .returned (.tuple #[.agg #[.int .i64 m,v1],v2])∧aS w' w.heap.size v1 (eC b m xs x).1∧aR w' w.heap.size v2 (eC b m xs x).2∧Below w.heap.size w w'∧NnS v2:=by
 by_cases hm:m<x.en
 ·exact l7tell_a s t k z q l e b v r m a len cap xs x w h hlen hm
 ·cases htm:x.tm with
  |true=>have h9:=l7tell_true s t k z q l e b v r m a len cap xs x w h hlen hm htd htm;rw[htm]at h9;exact h9
  |false=>have h9:=ly s t k z q l e b v r m a len cap xs x w h hlen hm htd htm;rw[htm]at h9;exact h9
end Go.Proofs.YtdmhihcipkhecaaGreat
