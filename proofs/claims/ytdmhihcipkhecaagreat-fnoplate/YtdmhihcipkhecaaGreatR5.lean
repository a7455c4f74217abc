/- Laid together: what the claim needs of the texts that were built one by one. -/
import Derived.Test.YtdmhihcipkhecaaGreatR1
import Derived.Test.YtdmhihcipkhecaaGreatR4
import Derived.Test.YtdmhihcipkhecaaGreatR0
import Derived.BigQuiet
import Derived.Test.YtdmhihcipkhecaaGreatR2
import Derived.Deep.RegionHeld3
import Derived.Lib.SmallJoins
import Derived.LoopN
import Derived.Deep.Slices
import Derived.OwnWalk
import Derived.WalkSpells
set_option linter.unusedVariables false
namespace Go.Proofs.YtdmhihcipkhecaaGreat
open Go.ChangeShapes Go.WideShapes Go.ChangeAt Go.RowKit
set_option linter.unusedSimpArgs false
/-- A row lies in a box. -/
def eA(W:World)(g:Nat)(x:aD):Prop:=W.heap[g]? =some (.cells #[.int .i64 x.ky,.int .i64 x.st,.int .i64 x.en,.int .i64 x.an,.int .i64 x.asu,.int .i64 x.ale,.int .i64 x.amo,.int .i64 x.fn,.int .i64 x.fsu,.int .i64 x.fle,.int .i64 x.fmo,.int .i64 x.td,.bool x.tm] 57 (0,0))
theorem eA.new(W:World)(x:aD):eA (W.alloc (.cells #[.int .i64 x.ky,.int .i64 x.st,.int .i64 x.en,.int .i64 x.an,.int .i64 x.asu,.int .i64 x.ale,.int .i64 x.amo,.int .i64 x.fn,.int .i64 x.fsu,.int .i64 x.fle,.int .i64 x.fmo,.int .i64 x.td,.bool x.tm] 57)) W.heap.size x:=World.alloc_heap_new W _
theorem eA.lt{W:World}{g:Nat}{x:aD}(h:eA W g x):g<W.heap.size:=(Array.getElem?_eq_some_iff.1 h).1
theorem eA.bel{W W':World}{B g:Nat}{x:aD}(h:eA W g x)(hb:Below B W W')(hg:g<B):eA W' g x:=(hb.block g hg).trans h
/-- What a row tells, and what it is behind that. -/
def cP(m:Int)(x:aD):Bool:=decide (x.en≤m)&&decide (0<x.fn)
def dp(x:aD):aD:= {x with td:=x.td+1,tm:=true,fn:=0,fsu:=0,fle:=0,fmo:=0}
def dU(pc:Bool)(x:aD):cO:=⟨x.ky,x.st,x.en,x.td,if x.tm=true then 2 else 1,if pc=true then x.fn else x.an,if pc=true then x.fsu else x.asu,if pc=true then x.fle else x.ale,if pc=true then x.fmo else x.amo⟩
theorem plO_told(x:aD):aX (dp x)=aX x:=rfl
theorem tel_told(m:Int)(x:aD):cP m (dp x)=false:=by simp[cP,dp]
theorem iR{w w':World}{g:Option Nat}(h:Below w.heap.size w w'):w.grownBy w' g:=⟨h.os,h.tape,h.output,h.size,fun k hk _=>h.block k hk⟩
theorem aP{w w':World}{g:Nat}{p:Addr}(h:w.grownBy w' (some g))(hp:p.block=g∨w.heap.size≤p.block)(v:Value):w.grownBy (w'.setCell p v) (some g):=by
 refine⟨h.os,h.tape,h.output,by rw[World.setCell];simpa using h.size,fun k hk hne=>?_⟩
 have hne':k≠p.block:=by
  rintro rfl
  rcases hp with h9|h9
  ·exact hne (by rw[h9])
  ·omega
 rw[Below.heap_setCell w' p v k hne']
 exact h.block k hk hne
set_option linter.unusedSimpArgs false
/-- An operator while a call lasts. -/
def opV(s t k z q l e:Int)(b:Bool)(v r m:Int)(mb:Nat)(pv lv:Value):Array Value:=#[.int .i64 s,.int .i64 t,.int .i64 k,.int .i64 z,.int .i64 q,.int .i64 l,.int .i64 e,.bool b,.int .i64 v,.int .i64 r,.int .i64 m,.map (some mb),pv,lv]
def shutB(l m en:Int):Bool:=decide (en+l≤m)
set_option maxRecDepth 20000 in
set_option maxHeartbeats 2000000 in
theorem isshut_any(Bo:Nat)(s t k z q l e:Int)(b:Bool)(v r m:Int)(mb:Nat)(pv lv:Value)(st en:Int)(w:World)(h:w.heap[Bo]? =some (.cells (opV s t k z q l e b v r m mb pv lv) 75 (0,0)))(hb: -1000≤en∧en≤1000∧0≤l∧l≤20):Calls Tryz.prog 80 #[.pointer (some ⟨Bo,0,none⟩),.agg #[.int .i64 st,.int .i64 en]] w fun e' w'=>e'= .returned (.bool (shutB l m en))∧Below w.heap.size w w':=by
 have hB:Bo<w.heap.size:=(Array.getElem?_eq_some_iff.1 h).1
 have c5:w.cell? ⟨Bo,5,none⟩=some (.int .i64 l):=cA h 5
 have cV:w.cell? ⟨Bo,10,none⟩=some (.int .i64 m):=cA h 10
 have hwr:IntKind.i64.wrap (en+l)=en+l:=IntWalk.i64_in _ ⟨by omega,by omega⟩
 go_enter Tryz.func80,Tryz.ntmps80
 go_wp2_with fail
 go_quiet (fail)
 go_wp2
 go_ret
 exact⟨rfl,bz (ay _ _) _⟩
open Go.Maps
set_option linter.unusedSimpArgs false
theorem cn.store{w:World}{b n:Nat}{m:P3→Option Value}(h:cn w b n m)(hn:n<maxLen)(q:P3)(hq:gI q)(val:Value):
  ∃w',(Instr.mapUpdate 73 (.map (some b)) (.agg #[.int .i64 q.1,.int .i64 q.2.1,.int .i64 q.2.2]) val).run Tryz.prog w= .ok () w'∧cn w' b (n+1) (fun x=>if x=q then some val else m x)∧w.grownBy w' (some b):=
 bB.store h key3 Tryz.underlying73 hn some3 inj3 q hq val (ps:=[]) rfl
theorem cn.ne_cells{w:World}{b n g:Nat}{m:P3→Option Value}{cs:Array Value}{ty:TypeId}(h:cn w b n m)(hx:w.heap[g]? =some (.cells cs ty (0,0))):g≠b:=by
 rintro rfl
 obtain⟨D,⟨es,clock,h1,_⟩,_⟩:=h
 rw[hx]at h1
 cases h1
theorem cn.bel{w w':World}{b n:Nat}{m:P3→Option Value}(h:cn w b n m)(hb:Below w.heap.size w w'):cn w' b n m:=bB.below h hb
/-- Rows in boxes, and the map that points to them. -/
structure bU(W:World)(B mb nn:Nat)(es:List bV):Prop where
 map:cn W mb nn (fun q=>(dc es q).map Value.pointer)
 box:∀e ∈ es,eA W e.1 e.2
 ge:∀e ∈ es,B≤e.1
 nd:(es.map (fun e=>e.1)).Nodup
theorem bU.bel{W W':World}{B mb nn:Nat}{es:List bV}(h:bU W B mb nn es)(hb:Below W.heap.size W W'):bU W' B mb nn es:=
 ⟨h.map.bel hb,fun e he=>(h.box e he).bel hb (h.box e he).lt,h.ge,h.nd⟩
theorem bU.snoc{W W':World}{B mb nn:Nat}{es:List bV}(h:bU W B mb nn es)(g:Nat)(x:aD)(hx:eA W g x)(hg:B≤g)(hn:∀e ∈ es,e.1<g)(hm:cn W' mb (nn+1) (fun q=>(dc (es++[(g,x)]) q).map Value.pointer))(hgr:W.grownBy W' (some mb)):bU W' B mb (nn+1) (es++[(g,x)]):=by
 have hkeep:∀k y,eA W k y→eA W' k y:=fun k y hy=>(hgr.block k hy.lt (fun e9=>h.map.ne_cells hy (Option.some.inj e9))).trans hy
 refine⟨hm,?_,?_,?_⟩
 ·intro e he
  rcases List.mem_append.1 he with h9|h9
  ·exact hkeep _ _ (h.box e h9)
  ·rw[List.mem_singleton.1 h9]
   exact hkeep _ _ hx
 ·intro e he
  rcases List.mem_append.1 he with h9|h9
  ·exact h.ge e h9
  ·rw[List.mem_singleton.1 h9]
   exact hg
 ·rw[List.map_append,List.nodup_append]
  refine⟨h.nd,by simp,?_⟩
  intro a ha b hb
  obtain⟨e,he,rfl⟩:=List.mem_map.1 ha
  simp at hb
  have:=hn e he
  omega
set_option maxRecDepth 20000 in
set_option maxHeartbeats 4000000 in
theorem operof_any(s t k z q l e:Int)(b:Bool)(v r m:Int)(a:Option Addr)(len cap:Nat)(xs:List aD)(w:World)(h:cE w a len xs)(hl:len≤1000)(hok:∀x ∈ xs,gI (aX x))(hrs:xs.Pairwise (fun x y=>cg (aX x) (aX y))):Calls Tryz.prog 29 #[.agg #[.int .i64 s,.int .i64 t,.int .i64 k,.int .i64 z,.int .i64 q,.int .i64 l,.int .i64 e,.bool b,.int .i64 v,.int .i64 r],.agg #[.int .i64 m,.slice a len cap]] w fun e' w'=>∃es:List bV,e'= .returned (.pointer (some ⟨w.heap.size+1+1+1,0,none⟩))∧es.map (fun e=>e.2)=xs∧bU w' w.heap.size (w.heap.size+1+1) len es∧w'.heap[w.heap.size+1+1+1]? =some (.cells (opV s t k z q l e b v r m (w.heap.size+1+1) (.slice none 0 0) (.slice none 0 0)) 75 (0,0))∧Below w.heap.size w w':=by
 have hxl:=h.1
 have hmk:∀u:World,(Instr.makeMap 73 none).run Tryz.prog u= .ok (.map (some u.heap.size)) (u.alloc (.map #[] 0)):=fun _=>rfl
 go_enter Tryz.func29,Tryz.ntmps29
 go_wp2
 clear hmk
 go_loopw [17] (fun iv wr=>∃(i:Nat) (es:List bV),i≤len∧iv= .int .i64 i∧Hid (es.map (fun e=>e.2)=xs.take i)∧Hid (bU wr (w.heap.size+4) (w.heap.size+1+1) i es)∧Hid (wr.heap[w.heap.size+1+1+1]? =some (.cells #[.int .i64 s,.int .i64 t,.int .i64 k,.int .i64 z,.int .i64 q,.int .i64 l,.int .i64 e,.bool b,.int .i64 v,.int .i64 r,.int .i64 m,.map (some (w.heap.size+1+1)),.slice none 0 0,.slice none 0 0] 75 (0,0)))∧Below w.heap.size w wr) (fun iv _=>len - (intOf iv).toNat)
 case atStart=>
  refine⟨0,[],Nat.zero_le _,rfl,ae rfl,ae ⟨?_,by simp,by simp,by simp⟩,ae ?_,ag (ag (ag (ay _ _) _) _) _⟩
  ·have h9:=bB.made ((w.alloc (.cells #[.int .i64 s,.int .i64 t,.int .i64 k,.int .i64 z,.int .i64 q,.int .i64 l,.int .i64 e,.bool b,.int .i64 v,.int .i64 r] 24)).alloc (.cells #[.int .i64 m,.slice a len cap] 27)) Tryz.prog 87 rdV v3 gI DataW.held
   rw[World.size_alloc,World.size_alloc]at h9
   exact bB.below h9 (ay _ _)
  ·have h9:=World.alloc_heap_new (((w.alloc (.cells #[.int .i64 s,.int .i64 t,.int .i64 k,.int .i64 z,.int .i64 q,.int .i64 l,.int .i64 e,.bool b,.int .i64 v,.int .i64 r] 24)).alloc (.cells #[.int .i64 m,.slice a len cap] 27)).alloc (.map #[] 0)) (.cells #[.int .i64 s,.int .i64 t,.int .i64 k,.int .i64 z,.int .i64 q,.int .i64 l,.int .i64 e,.bool b,.int .i64 v,.int .i64 r,.int .i64 m,.map (some (w.heap.size+1+1)),.slice none 0 0,.slice none 0 0] 75)
   rw[World.size_alloc,World.size_alloc,World.size_alloc]at h9
   exact h9
 case round=>
  obtain⟨i,es,hil,rfl,HE,HR,HO,hbw⟩:=hrel
  have hBO:w.heap.size+1+1+1<wr.heap.size:=(Array.getElem?_eq_some_iff.1 (ab HO)).1
  by_cases hlt:i<len
  ·obtain⟨_,_,hy⟩:=h
   obtain⟨g,o,rfl,hr⟩:=hy.resolve_left (by omega)
   obtain⟨x,hxk⟩:∃x,xs[i]? =some x:=⟨_,List.getElem?_eq_getElem (by omega)⟩
   have hg:g<w.heap.size:=hr.lt (by omega)
   obtain⟨c0,c1,c2,c3,c4,c5,c6,c7,c8,c9,cV,c11,c12⟩:=(hr i _ hxk).below hbw hg
   have hxo:=hok x (List.mem_of_getElem? hxk)
   have hnew:∀e9 ∈ es,¬ aX e9.2=aX x:=by
    intro e9 he e8
    have h1:e9.2 ∈ xs.take i:=by rw[←ab HE];exact List.mem_map.2 ⟨e9,he,rfl⟩
    obtain⟨j,hj⟩:=List.mem_iff_getElem?.1 h1
    have hji:j<i:=by have:=(List.getElem?_eq_some_iff.1 hj).1;rw[List.length_take]at this;omega
    rw[List.getElem?_take_of_lt hji]at hj
    obtain⟨q1,q2⟩:=List.getElem?_eq_some_iff.1 hj
    obtain⟨q3,q4⟩:=List.getElem?_eq_some_iff.1 hxk
    have h2:=List.pairwise_iff_getElem.1 hrs j i q1 q3 hji
    rw[q2,q4,e8]at h2
    exact ch _ h2
   have HE2:Hid ((es++[(wr.heap.size,x)]).map (fun e=>e.2)=xs.take (i+1)):=ae (by rw[List.map_append,ab HE,List.take_add_one,hxk];rfl)
   have HN:=ae hnew
   have HXO:=ae hxo
   have hlow:∀e9 ∈ es,e9.1<wr.heap.size:=fun e9 he=>((ab HR).box e9 he).lt
   have HL:=ae hlow
   clear hr hy hxk hnew hlow
   obtain⟨ky,st,en,an,asu,ale,amo,fn,fsu,fle,fmo,td,tm⟩:=x
   dsimp only at c0 c1 c2 c3 c4 c5 c6 c7 c8 c9 cV c11 c12
   have hgr:g<wr.heap.size:=Nat.lt_of_lt_of_le hg hbw.size
   have bO:(wr.alloc (.cells #[.int .i64 ky,.int .i64 st,.int .i64 en,.int .i64 an,.int .i64 asu,.int .i64 ale,.int .i64 amo,.int .i64 fn,.int .i64 fsu,.int .i64 fle,.int .i64 fmo,.int .i64 td,.bool tm] 57)).drew.heap[w.heap.size+1+1+1]? =some (.cells #[.int .i64 s,.int .i64 t,.int .i64 k,.int .i64 z,.int .i64 q,.int .i64 l,.int .i64 e,.bool b,.int .i64 v,.int .i64 r,.int .i64 m,.map (some (w.heap.size+1+1)),.slice none 0 0,.slice none 0 0] 75 (0,0)):=(Below.heap_alloc _ _ _ hBO).trans (ab HO)
   have bR:(wr.alloc (.cells #[.int .i64 ky,.int .i64 st,.int .i64 en,.int .i64 an,.int .i64 asu,.int .i64 ale,.int .i64 amo,.int .i64 fn,.int .i64 fsu,.int .i64 fle,.int .i64 fmo,.int .i64 td,.bool tm] 57)).drew.heap[wr.heap.size]? =some (.cells #[.int .i64 ky,.int .i64 st,.int .i64 en,.int .i64 an,.int .i64 asu,.int .i64 ale,.int .i64 amo,.int .i64 fn,.int .i64 fsu,.int .i64 fle,.int .i64 fmo,.int .i64 td,.bool tm] 57 (0,0)):=World.alloc_heap_new wr _
   go_wp2_with fail
   clear c0 c1 c2 c3 c4 c5 c6 c7 c8 c9 cV c11 c12
   refine wp_region_held_drew (S:=(fun W=>W.heap[w.heap.size+1+1+1]? =some (.cells #[.int .i64 s,.int .i64 t,.int .i64 k,.int .i64 z,.int .i64 q,.int .i64 l,.int .i64 e,.bool b,.int .i64 v,.int .i64 r,.int .i64 m,.map (some (w.heap.size+1+1)),.slice none 0 0,.slice none 0 0] 75 (0,0))∧W.heap[wr.heap.size]? =some (.cells #[.int .i64 ky,.int .i64 st,.int .i64 en,.int .i64 an,.int .i64 asu,.int .i64 ale,.int .i64 amo,.int .i64 fn,.int .i64 fsu,.int .i64 fle,.int .i64 fmo,.int .i64 td,.bool tm] 57 (0,0)))) (oW) ?_ (fun hHeld=>?_)
   ·(try dsimp only);exact⟨bO,bR⟩
   refine kV 0 ?_
   refine kV 1 ?_
   refine kV 2 ?_
   refine kT 3 ?_ ?_ ?_
   rotate_left
   ·(intro w9 hSw;(try dsimp only at hSw);obtain⟨q0,q1⟩:=hSw;have g0x0:=cA q0 0;have g0x1:=cA q0 1;have g0x2:=cA q0 2;have g0x3:=cA q0 3;have g0x4:=cA q0 4;have g0x5:=cA q0 5;have g0x6:=cA q0 6;have g0x7:=cA q0 7;have g0x8:=cA q0 8;have g0x9:=cA q0 9;have g0x10:=cA q0 10;simp only[gA,gZ,gS]at g0x0 g0x1 g0x2 g0x3 g0x4 g0x5 g0x6 g0x7 g0x8 g0x9 g0x10;have g0x11:w9.cell? ⟨w.heap.size+1+1+1,11,none⟩=some (.map (some (w.heap.size+1+1))):=(by simp[World.cell?,q0,go_sem]);have g0x12:=cA q0 12;have g0x13:=cA q0 13;simp only[gA,gZ,gS]at g0x12 g0x13;go_simp<;>with_reducible rfl)
   try simp only[Act.put,tA,tZ,tS]
   refine kT 4 ?_ ?_ ?_
   rotate_left
   ·(intro w9 hSw;(try dsimp only at hSw);obtain⟨q0,q1⟩:=hSw;obtain⟨g1x0,g1x1,g1x2,g1x3,g1x4,g1x5,g1x6,g1x7,g1x8,g1x9,g1x10,g1x11,g1x12⟩:=eK q1;go_simp<;>with_reducible rfl)
   try simp only[Act.put,tA,tZ,tS]
   refine rD 5 (fun K hK=>?_)
   go_simp
   (go_at_call 58;refine(aV _ _ _ _ _ _ _ _ _ _ _ _ _ _).mono ?_;rintro e9 wv ⟨rfl,hbwv⟩)
   (try go_wp2_with fail)
   have zwv:=hbwv.size
   (try simp at zwv)
   have bO:=(hbwv.block (w.heap.size+1+1+1) (sB)).trans bO
   have bR:=(hbwv.block (wr.heap.size) (sB)).trans bR
   clear hHeld
   refine hK.out _ _ ?_ (fun hHeld=>?_)
   ·(try dsimp only);exact⟨bO,bR⟩
   clear hK K
   try simp only[Act.put,tA,tZ,tS]
   have hbv:Below wr.heap.size wr wv:=ap (aq (ay _ _)) hbwv
   have HRv:=(ab HR).bel hbv
   obtain⟨wu,hst,hOu,hgu⟩:=HRv.map.store (by unfold maxLen;omega) (ky,st,en) (ab HXO) (.pointer (some ⟨wr.heap.size,0,none⟩))
   dsimp only at hst
   refine rD 6 (fun K hK=>?_)
   go_simp
   have bOu:wu.heap[w.heap.size+1+1+1]? =some (.cells #[.int .i64 s,.int .i64 t,.int .i64 k,.int .i64 z,.int .i64 q,.int .i64 l,.int .i64 e,.bool b,.int .i64 v,.int .i64 r,.int .i64 m,.map (some (w.heap.size+1+1)),.slice none 0 0,.slice none 0 0] 75 (0,0)):=(hgu.block _ (Array.getElem?_eq_some_iff.1 bO).1 (fun e9=>HRv.map.ne_cells bO (Option.some.inj e9))).trans bO
   have bRu:wu.heap[wr.heap.size]? =some (.cells #[.int .i64 ky,.int .i64 st,.int .i64 en,.int .i64 an,.int .i64 asu,.int .i64 ale,.int .i64 amo,.int .i64 fn,.int .i64 fsu,.int .i64 fle,.int .i64 fmo,.int .i64 td,.bool tm] 57 (0,0)):=(hgu.block _ (Array.getElem?_eq_some_iff.1 bR).1 (fun e9=>HRv.map.ne_cells bR (Option.some.inj e9))).trans bR
   refine hK.out _ _ ?_ (fun nj=>?_)
   ·(try dsimp only);exact⟨bOu,bRu⟩
   clear hK K hHeld nj
   try simp only[Act.put,tA,tZ,tS]
   refine wpAnyH_done (oW) ?_ _
   rw[show(fun x9:P3=>if x9=(ky,st,en)then some (Value.pointer (some ⟨wr.heap.size,0,none⟩))else(dc es x9).map Value.pointer)=fun q9=>(dc (es++[(wr.heap.size,(⟨ky,st,en,an,asu,ale,amo,fn,fsu,fle,fmo,td,tm⟩:aD))]) q9).map Value.pointer from mapE_snoc (e:=(wr.heap.size,(⟨ky,st,en,an,asu,ale,amo,fn,fsu,fle,fmo,td,tm⟩:aD))) (ab HN)]at hOu
   have HRu:=ae (HRv.snoc wr.heap.size ⟨ky,st,en,an,asu,ale,amo,fn,fsu,fle,fmo,td,tm⟩ bR (by omega) (ab HL) hOu hgu)
   have hbu:Below w.heap.size w wu:=by
    have h9:=ap hbw hbv
    refine⟨hgu.os.trans h9.os,hgu.tape.trans h9.tape,hgu.output.trans h9.output,Nat.le_trans h9.size hgu.size,fun k9 hk9=>?_⟩
    exact(hgu.block k9 (Nat.lt_of_lt_of_le hk9 h9.size) (fun e9=>by have:=Option.some.inj e9;omega)).trans (h9.block k9 hk9)
   clear hst hOu hgu bO bR bRu hbwv HRv zwv hbv
   go_wp2
   refine⟨⟨i+1,es++[(wr.heap.size,⟨ky,st,en,an,asu,ale,amo,fn,fsu,fle,fmo,td,tm⟩)],by omega,by go_num,HE2,HRu,ae bOu,hbu⟩,by simp[intOf];omega⟩
  ·obtain rfl:i=len:=by omega
   have hE:es.map (fun e=>e.2)=xs:=by have h9:=ab HE;rw[List.take_of_length_le (by omega)]at h9;exact h9
   go_wp2
   go_ret
   refine⟨es,rfl,hE,⟨(ab HR).map,(ab HR).box,fun e9 he=>by have:=(ab HR).ge e9 he;omega,(ab HR).nd⟩,ab HO,hbw⟩
set_option linter.unusedSimpArgs false
/-- The types of what turns while an operator is at work. -/
def lr(ty:TypeId):Bool:=ty==57||ty==52||ty==75||ty==27
/-- What is no cells, and all cells of other types, lie as they lay. -/
def gn(W W':World):Prop:=W.heap.size≤W'.heap.size∧∀(k:Nat) (o:Obj),W.heap[k]? =some o→(o.isCells=false∨∃(cs:Array Value) (ty:TypeId),lr ty=false∧o= .cells cs ty (0,0))→W'.heap[k]? =some o
theorem gn.refl(W:World):gn W W:=⟨Nat.le_refl _,fun _ _ h _=>h⟩
theorem gn.trans{A B C:World}(h:gn A B)(k:gn B C):gn A C:=⟨Nat.le_trans h.1 k.1,fun i o hi ho=>k.2 i o (h.2 i o hi ho) ho⟩
theorem gn.bel{W W':World}(hb:Below W.heap.size W W'):gn W W':=⟨hb.size,fun k o hk _=>(hb.block k (Array.getElem?_eq_some_iff.1 hk).1).trans hk⟩
theorem gn.grown{W W':World}{row:Option Nat}(hg:W.grownBy W' row)(hr:∀r,row=some r→∃cs ty,W.heap[r]? =some (.cells cs ty (0,0))∧lr ty=true):gn W W':=by
 refine⟨hg.size,fun k o hk ho=>(hg.block k (Array.getElem?_eq_some_iff.1 hk).1 (fun e=>?_)).trans hk⟩
 obtain⟨cs,ty,h1,h2⟩:=hr k e.symm
 rw[hk]at h1
 cases h1
 rcases ho with h9|⟨cs',ty',h8,h9⟩
 ·cases h9
 ·cases h9
  rw[h2]at h8
  cases h8
theorem gn.set{W:World}{p:Addr}(v:Value){cs:Array Value}{ty:TypeId}(h:W.heap[p.block]? =some (.cells cs ty (0,0)))(h1:lr ty=true):gn W (W.setCell p v):=by
 refine⟨(KeepsWalks.setCell W p v).size,fun k o hk ho=>?_⟩
 have hne:k≠p.block:=by
  rintro rfl
  rw[hk]at h
  cases h
  rcases ho with h9|⟨cs',ty',h8,h9⟩
  ·cases h9
  ·cases h9
   rw[h1]at h8
   cases h8
 exact(Below.heap_setCell W p v k hne).trans hk
theorem gn.kpo{W W':World}(h:gn W W'):gU W W':=by
 refine⟨⟨h.1,fun k o hk ho=>h.2 k o hk (.inl (Obj.not_cells_of_walk ho))⟩,fun b cs ty ht hb=>h.2 b _ hb (.inr ⟨cs,ty,?_,rfl⟩)⟩
 rcases ht with rfl|rfl<;>decide
theorem gn.from{W W':World}(h:gn W W')(B:Nat):KeepsFrom B W W':=⟨h.1,fun k o _ hk ho=>h.2 k o hk (.inl ho)⟩
/-- Entries as what a map of them holds. -/
def evO:Option bV→Value
 |none=> .pointer none
 |some e=> .pointer (some ⟨e.1,0,none⟩)
def gL(es:List bV)(q:P3):Option (Option bV):=(es.find? (fun e=>decide (aX e.2=q))).map some
theorem lT(es:List bV):(fun q=>(gL es q).map evO)=fun q=>(dc es q).map Value.pointer:=by
 funext q
 unfold gL dc
 cases es.find? (fun e=>decide (aX e.2=q))<;>rfl
def PXs(es:List bV)(x:P3×Option bV):Prop:=∃e ∈ es,x.2=some e
theorem lU{es:List bV}{q:P3}{a:Option bV}(h:gL es q=some a):PXs es (q,a):=by
 unfold gL at h
 cases hf:es.find? (fun e=>decide (aX e.2=q))with
 |none=>rw[hf]at h;cases h
 |some e=>
  rw[hf]at h
  simp at h
  exact⟨e,List.mem_of_find?_eq_some hf,h.symm⟩
abbrev eQ(es:List bV):= {x:P3×Option bV // PXs es x}
def entZ:bV:=(0,⟨0,0,0,0,0,0,0,0,0,0,0,0,false⟩)
def al{es:List bV}(x:eQ es):bV:=x.1.2.getD entZ
theorem jL{es:List bV}(x:eQ es):evO x.1.2= .pointer (some ⟨(al x).1,0,none⟩):=by
 obtain⟨y,e,he,hy⟩:=x
 unfold al
 simp only[hy]
 rfl
theorem dQ{es:List bV}(x:eQ es):al x ∈ es:=by
 obtain⟨y,e,he,hy⟩:=x
 unfold al
 simp only[hy]
 exact he
theorem inO{es:List bV}{ys:List (eQ es)}(hr:eo es)(hok:∀e ∈ es,gI (aX e.2))(h:InOrd none (gL es) (ys.map (fun y=>y.1))):ys.map al=es:=by
 obtain⟨ss,⟨hnd,hmem⟩,hy⟩:=h
 have hmm:∀e ∈ es,gL es (aX e.2)=some (some e):=by
  intro e he
  unfold gL
  cases hf:es.find? (fun x=>decide (aX x.2=aX e.2))with
  |none=>
   have:=List.find?_eq_none.1 hf e he
   simp at this
  |some x=>
   have h1:x ∈ es:=List.mem_of_find?_eq_some hf
   have h2:aX x.2=aX e.2:=by simpa using List.find?_some hf
   rw[hr.inj h1 he h2]
   rfl
 have e:es.map (fun e=>aX e.2)=ga ss:=by
  refine rise_eq _ _ (List.pairwise_map.2 hr) (srt_rise hnd) (fun q=>?_)
  rw[(gF ss).mem_iff,hmem]
  constructor
  ·intro hq
   obtain⟨x,hx,rfl⟩:=List.mem_map.1 hq
   exact⟨hok x hx,by rw[hmm x hx];simp⟩
  ·rintro ⟨_,hq⟩
   cases hm:gL es q with
   |none=>exact absurd hm hq
   |some a=>
    unfold gL at hm
    cases hf:es.find? (fun e=>decide (aX e.2=q))with
    |none=>rw[hf]at hm;cases hm
    |some x=>exact List.mem_map.2 ⟨x,List.mem_of_find?_eq_some hf,by simpa using List.find?_some hf⟩
 have e2:ys.map al=(ys.map (fun y=>y.1)).map (fun x=>x.2.getD entZ):=by rw[List.map_map];rfl
 rw[e2,hy,←e,List.map_map,List.map_map]
 have e3:es.map (((fun x:P3×Option bV=>x.2.getD entZ)∘fun q=>(q,(gL es q).getD none))∘fun e:bV=>aX e.2)=es.map id:=List.map_congr_left (fun x hx=>by simp only[Function.comp];rw[hmm x hx];rfl)
 rw[e3,List.map_id]
theorem zeroEv(u:World):(zeroValue 102).run Tryz.prog u= .ok (evO none) u:=by kernel_rfl
set_option linter.unusedSimpArgs false
theorem ix{s t k z q l e v r m:Int}{xs:List aD}(h:cX s t k z q l e v r m xs=true):xs.length≤300∧(0≤l∧l≤20)∧(0≤m∧m≤1000)∧(∀x ∈ xs,x.okB l m=true)∧xs.Pairwise (fun x y=>cg (aX x) (aX y)):=by
 unfold cX at h
 simp only[Bool.and_eq_true,decide_eq_true_eq]at h
 refine⟨h.1.2,iw h.1.1.1,bQ.1 h.1.1.2,fun x hx=>?_,?_⟩
 ·obtain⟨i,hi⟩:=List.mem_iff_getElem?.1 hx
  exact lR hi (jq h.2 (List.getElem?_eq_some_iff.1 hi).1)
 ·have hstep:∀(i:Nat) (x y:aD),xs[i]? =some x→xs[i+1]? =some y→cg (aX x) (aX y):=by
   intro i x y hx hy
   have h9:=jq h.2 (List.getElem?_eq_some_iff.1 hy).1
   rw[okAt_s hy hx]at h9
   simp only[Bool.and_eq_true,fV,eq]at h9
   have h8:=ia.1 h9.2.2
   unfold cg aX
   simp only
   omega
  rw[List.pairwise_iff_getElem]
  intro i j hi hj hij
  obtain⟨d,rfl⟩:∃d,j=i+1+d:=⟨j - i - 1,by omega⟩
  clear hij
  induction d with
  |zero=>exact hstep i _ _ (List.getElem?_eq_getElem hi) (List.getElem?_eq_getElem hj)
  |succ d ih=>
   have h1:=ih (by omega)
   exact dL h1 (hstep (i+1+d) _ _ (List.getElem?_eq_getElem (by omega)) (List.getElem?_eq_getElem hj))
theorem ei{l m:Int}{x:aD}(h:x.okB l m=true):(0≤x.ky∧x.ky≤3)∧(0≤x.st∧x.st<x.en∧x.en≤120)∧0≤x.fn∧(0≤x.td∧x.td≤1500)∧m<x.en+l∧x.tm=decide (x.en≤m)∧(x.fn=0↔x.en≤m):=by
 have hw:=jr h
 simp only[aD.okB,bh,Bool.and_eq_true,decide_eq_true_eq]at h
 obtain⟨⟨⟨⟨⟨⟨⟨⟨⟨⟨h1,h2⟩,h3⟩,h4⟩,h5⟩,h6⟩,h7⟩,h8⟩,h9⟩,h10⟩,h11⟩:=h
 refine⟨bQ.1 h1,hw,?_,bQ.1 h5,h8,by simpa using h9,?_⟩
 ·unfold eO at h4
  split at h4
  ·omega
  ·simp only[Bool.and_eq_true]at h4
   have:=bQ.1 h4.1.1.1
   omega
 ·have h12:=h11
  simp only[beq_iff_eq]at h12
  by_cases hc:x.en≤m
  ·simp[hc]at h12
   simp[hc,h12]
  ·simp[hc]at h12
   simp[hc,h12]
theorem ok_ok3{l m:Int}{x:aD}(h:x.okB l m=true):gI (aX x):=by
 obtain⟨h1,h2,_⟩:=ei h
 exact⟨WalkArith.wf_i64 (show _ from⟨by simp[aX];omega,by simp[aX];omega⟩),WalkArith.wf_i64 (show _ from⟨by simp[aX];omega,by simp[aX];omega⟩),WalkArith.wf_i64 (show _ from⟨by simp[aX];omega,by simp[aX];omega⟩)⟩
theorem tel_no{l m:Int}{x:aD}(h:x.okB l m=true):cP m x=false:=by
 obtain⟨_,_,h3,_,_,h6,h7⟩:=ei h
 unfold cP
 by_cases hc:x.en≤m
 ·have:x.fn=0:=h7.2 hc
  simp[this]
 ·simp[hc]
/-- One number of what is known of both. -/
def bo(n n' x x' c:Int):Int:=if n=0 then x' else if n'=0 then x else c
theorem bo_1(n' x x' c:Int):bo 0 n' x x' c=x':=rfl
theorem bo_2{n:Int}(h:n≠0)(x x' c:Int):bo n 0 x x' c=x:=by unfold bo;rw[if_neg h];rfl
theorem bo_3{n n':Int}(h:n≠0)(h':n'≠0)(x x' c:Int):bo n n' x x' c=c:=by unfold bo;rw[if_neg h,if_neg h']
theorem dq{a b c d a' b' c' d':Int}(h1:a'=a)(h2:b'=b)(h3:c'=c)(h4:d'=d):Ending.returned (.agg #[.int .i64 a,.int .i64 b,.int .i64 c,.int .i64 d])= .returned (.agg #[.int .i64 a',.int .i64 b',.int .i64 c',.int .i64 d']):=by rw[h1,h2,h3,h4]
set_option maxHeartbeats 1000000 in
theorem both_any(n s l m n' s' l' m':Int)(w:World):Calls Tryz.prog 105 #[.agg #[.int .i64 n,.int .i64 s,.int .i64 l,.int .i64 m],.agg #[.int .i64 n',.int .i64 s',.int .i64 l',.int .i64 m']] w fun e w'=>e= .returned (.agg #[.int .i64 (bo n n' n n' (wrap64 (n+n'))),.int .i64 (bo n n' s s' (wrap64 (s+s'))),.int .i64 (bo n n' l l' (fF l l')),.int .i64 (bo n n' m m' (fE m m'))])∧Below w.heap.size w w':=by
 by_cases h1:n=0
 ·subst h1
  have hq:=ae (bo_1 n')
  go_enter Tryz.func105,Tryz.ntmps105
  go_wp2
  refine bodyPost_ret (v:= .agg #[.int .i64 n',.int .i64 s',.int .i64 l',.int .i64 m']) (oE) rfl ⟨dq (ab hq _ _ _) (ab hq _ _ _) (ab hq _ _ _) (ab hq _ _ _),?_⟩
  exact(bd)
 have g1:(n==0)=false:=by simpa using h1
 by_cases h2:n'=0
 ·subst h2
  have hq:=ae (bo_2 h1)
  clear h1
  go_enter Tryz.func105,Tryz.ntmps105
  go_wp2
  refine bodyPost_ret (v:= .agg #[.int .i64 n,.int .i64 s,.int .i64 l,.int .i64 m]) (oE) rfl ⟨dq (ab hq _ _ _) (ab hq _ _ _) (ab hq _ _ _) (ab hq _ _ _),?_⟩
  exact(bd)
 have g2:(n'==0)=false:=by simpa using h2
 have hq:=ae (bo_3 h1 h2)
 clear h1 h2
 by_cases h3:l'<l<;>by_cases h4:m<m'
 ·have k3:=ae (jb h3)
  have k4:=ae (jd h4)
  go_enter Tryz.func105,Tryz.ntmps105
  go_wp2
  all_goals first
   |(exfalso;omega)
   |(refine bodyPost_ret (v:= .agg #[.int .i64 (wrap64 (n+n')),.int .i64 (wrap64 (s+s')),.int .i64 l',.int .i64 m']) (oE) rfl ⟨dq (ab hq _ _ _) (ab hq _ _ _) ((ab hq _ _ _).trans (ab k3)) ((ab hq _ _ _).trans (ab k4)),?_⟩;exact(bd))
 ·have k3:=ae (jb h3)
  have k4:=ae (jc h4)
  go_enter Tryz.func105,Tryz.ntmps105
  go_wp2
  all_goals first
   |(exfalso;omega)
   |(refine bodyPost_ret (v:= .agg #[.int .i64 (wrap64 (n+n')),.int .i64 (wrap64 (s+s')),.int .i64 l',.int .i64 m]) (oE) rfl ⟨dq (ab hq _ _ _) (ab hq _ _ _) ((ab hq _ _ _).trans (ab k3)) ((ab hq _ _ _).trans (ab k4)),?_⟩;exact(bd))
 ·have k3:=ae (ja h3)
  have k4:=ae (jd h4)
  go_enter Tryz.func105,Tryz.ntmps105
  go_wp2
  all_goals first
   |(exfalso;omega)
   |(refine bodyPost_ret (v:= .agg #[.int .i64 (wrap64 (n+n')),.int .i64 (wrap64 (s+s')),.int .i64 l,.int .i64 m']) (oE) rfl ⟨dq (ab hq _ _ _) (ab hq _ _ _) ((ab hq _ _ _).trans (ab k3)) ((ab hq _ _ _).trans (ab k4)),?_⟩;exact(bd))
 ·have k3:=ae (ja h3)
  have k4:=ae (jc h4)
  go_enter Tryz.func105,Tryz.ntmps105
  go_wp2
  all_goals first
   |(exfalso;omega)
   |(refine bodyPost_ret (v:= .agg #[.int .i64 (wrap64 (n+n')),.int .i64 (wrap64 (s+s')),.int .i64 l,.int .i64 m]) (oE) rfl ⟨dq (ab hq _ _ _) (ab hq _ _ _) ((ab hq _ _ _).trans (ab k3)) ((ab hq _ _ _).trans (ab k4)),?_⟩;exact(bd))
set_option maxHeartbeats 1000000 in
theorem iy(n s l m n' s' l' m':Int)(w:World):Calls Tryz.prog 88 #[.agg #[.int .i64 n,.int .i64 s,.int .i64 l,.int .i64 m],.agg #[.int .i64 n',.int .i64 s',.int .i64 l',.int .i64 m']] w fun e w'=>e= .returned (.agg #[.int .i64 (bo n n' n n' (wrap64 (n+n'))),.int .i64 (bo n n' s s' (wrap64 (s+s'))),.int .i64 (bo n n' l l' (fF l l')),.int .i64 (bo n n' m m' (fE m m'))])∧Below w.heap.size w w':=by
 by_cases h1:n=0
 ·subst h1
  have hq:=ae (bo_1 n')
  go_enter Tryz.func88,Tryz.ntmps88
  go_wp2
  refine bodyPost_ret (v:= .agg #[.int .i64 n',.int .i64 s',.int .i64 l',.int .i64 m']) (oH) rfl ⟨dq (ab hq _ _ _) (ab hq _ _ _) (ab hq _ _ _) (ab hq _ _ _),?_⟩
  exact(bd)
 have g1:(n==0)=false:=by simpa using h1
 by_cases h2:n'=0
 ·subst h2
  have hq:=ae (bo_2 h1)
  clear h1
  go_enter Tryz.func88,Tryz.ntmps88
  go_wp2
  refine bodyPost_ret (v:= .agg #[.int .i64 n,.int .i64 s,.int .i64 l,.int .i64 m]) (oH) rfl ⟨dq (ab hq _ _ _) (ab hq _ _ _) (ab hq _ _ _) (ab hq _ _ _),?_⟩
  exact(bd)
 have g2:(n'==0)=false:=by simpa using h2
 have hq:=ae (bo_3 h1 h2)
 clear h1 h2
 by_cases h3:l'<l<;>by_cases h4:m<m'
 ·have k3:=ae (jb h3)
  have k4:=ae (jd h4)
  go_enter Tryz.func88,Tryz.ntmps88
  go_wp2
  all_goals first
   |(exfalso;omega)
   |(refine bodyPost_ret (v:= .agg #[.int .i64 (wrap64 (n+n')),.int .i64 (wrap64 (s+s')),.int .i64 l',.int .i64 m']) (oH) rfl ⟨dq (ab hq _ _ _) (ab hq _ _ _) ((ab hq _ _ _).trans (ab k3)) ((ab hq _ _ _).trans (ab k4)),?_⟩;exact(bd))
 ·have k3:=ae (jb h3)
  have k4:=ae (jc h4)
  go_enter Tryz.func88,Tryz.ntmps88
  go_wp2
  all_goals first
   |(exfalso;omega)
   |(refine bodyPost_ret (v:= .agg #[.int .i64 (wrap64 (n+n')),.int .i64 (wrap64 (s+s')),.int .i64 l',.int .i64 m]) (oH) rfl ⟨dq (ab hq _ _ _) (ab hq _ _ _) ((ab hq _ _ _).trans (ab k3)) ((ab hq _ _ _).trans (ab k4)),?_⟩;exact(bd))
 ·have k3:=ae (ja h3)
  have k4:=ae (jd h4)
  go_enter Tryz.func88,Tryz.ntmps88
  go_wp2
  all_goals first
   |(exfalso;omega)
   |(refine bodyPost_ret (v:= .agg #[.int .i64 (wrap64 (n+n')),.int .i64 (wrap64 (s+s')),.int .i64 l,.int .i64 m']) (oH) rfl ⟨dq (ab hq _ _ _) (ab hq _ _ _) ((ab hq _ _ _).trans (ab k3)) ((ab hq _ _ _).trans (ab k4)),?_⟩;exact(bd))
 ·have k3:=ae (ja h3)
  have k4:=ae (jc h4)
  go_enter Tryz.func88,Tryz.ntmps88
  go_wp2
  all_goals first
   |(exfalso;omega)
   |(refine bodyPost_ret (v:= .agg #[.int .i64 (wrap64 (n+n')),.int .i64 (wrap64 (s+s')),.int .i64 l,.int .i64 m]) (oH) rfl ⟨dq (ab hq _ _ _) (ab hq _ _ _) ((ab hq _ _ _).trans (ab k3)) ((ab hq _ _ _).trans (ab k4)),?_⟩;exact(bd))
theorem with_any(n s l m v:Int)(w:World):Calls Tryz.prog 103 #[.agg #[.int .i64 n,.int .i64 s,.int .i64 l,.int .i64 m],.int .i64 v] w fun e w'=>e= .returned (.agg #[.int .i64 (bo n 1 n 1 (wrap64 (n+1))),.int .i64 (bo n 1 s v (wrap64 (s+v))),.int .i64 (bo n 1 l v (fF l v)),.int .i64 (bo n 1 m v (fE m v))])∧Below w.heap.size w w':=by
 go_enter Tryz.func103,Tryz.ntmps103
 go_wp2_with (first
  |(go_at_call 105;refine(both_any _ _ _ _ _ _ _ _ _).mono ?_;rintro e w' ⟨rfl,hb⟩;obtain⟨hc,hf,hs⟩:=aA hb;(try have hz0:=zA hb w.heap.size);(try have hz1:=zA hb (w.heap.size+1));(try have hz2:=zA hb (w.heap.size+2))))
 refine bodyPost_ret (v:= .agg #[.int .i64 (bo n 1 n 1 (wrap64 (n+1))),.int .i64 (bo n 1 s v (wrap64 (s+v))),.int .i64 (bo n 1 l v (fF l v)),.int .i64 (bo n 1 m v (fE m v))]) (by simp[results,Tryz.results103,go_sem,hc]) rfl ⟨rfl,?_⟩
 exact(bd)
theorem jf(n s l m v:Int)(w:World):Calls Tryz.prog 86 #[.agg #[.int .i64 n,.int .i64 s,.int .i64 l,.int .i64 m],.int .i64 v] w fun e w'=>e= .returned (.agg #[.int .i64 (bo n 1 n 1 (wrap64 (n+1))),.int .i64 (bo n 1 s v (wrap64 (s+v))),.int .i64 (bo n 1 l v (fF l v)),.int .i64 (bo n 1 m v (fE m v))])∧Below w.heap.size w w':=by
 go_enter Tryz.func86,Tryz.ntmps86
 go_wp2_with (first
  |(go_at_call 88;refine(iy _ _ _ _ _ _ _ _ _).mono ?_;rintro e w' ⟨rfl,hb⟩;obtain⟨hc,hf,hs⟩:=aA hb;(try have hz0:=zA hb w.heap.size);(try have hz1:=zA hb (w.heap.size+1));(try have hz2:=zA hb (w.heap.size+2))))
 refine bodyPost_ret (v:= .agg #[.int .i64 (bo n 1 n 1 (wrap64 (n+1))),.int .i64 (bo n 1 s v (wrap64 (s+v))),.int .i64 (bo n 1 l v (fF l v)),.int .i64 (bo n 1 m v (fE m v))]) (by simp[results,Tryz.results86,go_sem,hc]) rfl ⟨rfl,?_⟩
 exact(bd)
/-- A row of 2 numbers. -/
structure dm where
 a:Int
 b:Int
/-- A row lies in its cells; rows lie one behind the other; a slice's value holds rows. -/
def dF(W:World)(g o:Nat)(x:dm):Prop:=W.cell? ⟨g,o,none⟩=some (.int .i64 x.a)∧W.cell? ⟨g,o+1,none⟩=some (.int .i64 x.b)
def iT(W:World)(g o:Nat)(xs:List dm):Prop:=∀i x,xs[i]? =some x→dF W g (o+i*2) x
def kQ(W:World)(a:Option Addr)(len:Nat)(xs:List dm):Prop:=xs.length=len∧len≤maxLen∧(len=0∨∃g o,a=some ⟨g,o,none⟩∧iT W g o xs)
theorem dF.lt{W:World}{g o:Nat}{x:dm}(h:dF W g o x):g<W.heap.size:=by
 obtain⟨h0,_⟩:=h
 rcases Nat.lt_or_ge g W.heap.size with hl|hg
 ·exact hl
 ·simp[World.cell?,Array.getElem?_eq_none hg]at h0
theorem iT.lt{W:World}{g o:Nat}{xs:List dm}(h:iT W g o xs)(hp:0<xs.length):g<W.heap.size:=(h 0 xs[0] (List.getElem?_eq_getElem hp)).lt
theorem dF.below{W W':World}{B g o:Nat}{x:dm}(h:dF W g o x)(hb:Below B W W')(hg:g<B):dF W' g o x:=by
 obtain⟨h0,h1⟩:=h
 exact⟨(hb.cell (p:=⟨g,_,none⟩) hg).trans h0,(hb.cell (p:=⟨g,_,none⟩) hg).trans h1⟩
theorem iT.below{W W':World}{B g o:Nat}{xs:List dm}(h:iT W g o xs)(hb:Below B W W')(hg:0<xs.length→g<B):iT W' g o xs:=by
 intro i x hx
 have hlt:i<xs.length:=(List.getElem?_eq_some_iff.1 hx).1
 exact(h i x hx).below hb (hg (by omega))
theorem kQ.below{W W':World}{a:Option Addr}{len:Nat}{xs:List dm}(h:kQ W a len xs)(hb:Below W.heap.size W W'):kQ W' a len xs:=by
 obtain⟨h1,h2,h3⟩:=h
 refine⟨h1,h2,?_⟩
 rcases h3 with h3|⟨g,o,ha,hr⟩
 ·exact Or.inl h3
 ·exact Or.inr ⟨g,o,ha,hr.below hb (fun hp=>hr.lt hp)⟩
theorem dF.grown{W W':World}{row:Option Nat}{g o:Nat}{x:dm}(h:dF W g o x)(hg:W.grownBy W' row)(hne:some g≠row):dF W' g o x:=by
 have hbk:=hg.block g h.lt hne
 obtain⟨h0,h1⟩:=h
 exact⟨(World.cell?_of_block (w:=W) hbk).trans h0,(World.cell?_of_block (w:=W) hbk).trans h1⟩
theorem kQ.grown{W W':World}{row:Option Nat}{a:Option Addr}{n:Nat}{xs:List dm}(h:kQ W a n xs)(hg:W.grownBy W' row)(hne:∀g o,0<n→a=some ⟨g,o,none⟩→some g≠row):kQ W' a n xs:=by
 obtain⟨h1,h2,h3⟩:=h
 refine⟨h1,h2,?_⟩
 rcases h3 with h3|⟨g,o,ha,hr⟩
 ·exact Or.inl h3
 ·refine Or.inr ⟨g,o,ha,fun i x hx=>(hr i x hx).grown hg (hne g o ?_ ha)⟩
  have hlt:i<xs.length:=(List.getElem?_eq_some_iff.1 hx).1
  omega
theorem kQ.lt{W:World}{g o n:Nat}{xs:List dm}(h:kQ W (some ⟨g,o,none⟩) n xs)(hp:0<n):g<W.heap.size:=by
 obtain⟨h1,h2,h3⟩:=h
 obtain⟨g',o',ha,hr⟩:=h3.resolve_left (by omega)
 simp at ha
 have:=hr.lt (by omega)
 omega
/-- A row is stored; a block of rows, known whole. -/
def setWn(W:World)(g o:Nat)(x:dm):World:=((W.setCell ⟨g,o,none⟩ (.int .i64 x.a)).setCell ⟨g,o+1,none⟩ (.int .i64 x.b))
def dZ(W:World)(g ty len:Nat):Prop:=∃cur,W.heap[g]? =some (.cells cur ty (0,0))∧cur.size=len*2
theorem dZ.set{W:World}{g ty len i:Nat}(h:dZ W g ty len)(v:Value):dZ (W.setCell ⟨g,i,none⟩ v) g ty len:=by
 obtain⟨cur,h1,h2⟩:=h
 exact⟨_,Joins.block_setCell h1 v,by simp[h2]⟩
theorem dZ.below{W W':World}{g ty len B:Nat}(h:dZ W g ty len)(hb:Below B W W')(hg:g<B):dZ W' g ty len:=by
 obtain⟨cur,h1,h2⟩:=h
 exact⟨cur,(hb.block g hg).trans h1,h2⟩
theorem dZ.lt{W:World}{g ty len:Nat}(h:dZ W g ty len):g<W.heap.size:=by
 obtain⟨cur,h1,h2⟩:=h
 exact(Array.getElem?_eq_some_iff.1 h1).1
theorem dZ.cell{W:World}{g ty len i:Nat}(h:dZ W g ty len)(hi:i<len*2):∃u,W.cell? ⟨g,i,none⟩=some u:=by
 obtain⟨cur,h1,h2⟩:=h
 exact⟨_,(cA h1 i).trans (Array.getElem?_eq_getElem (by omega))⟩
theorem dZ.frozen{W:World}{g ty len i:Nat}(h:dZ W g ty len):W.frozen? ⟨g,i,none⟩=false:=by
 obtain⟨cur,h1,h2⟩:=h
 exact Joins.unfrozen_of_block h1 i
theorem dZ.cells{W:World}{g ty len k:Nat}(h:dZ W g ty len)(hk:k<len):(∃u,W.cell? ⟨g,k*2,none⟩=some u)∧(∃u,W.cell? ⟨g,k*2+1,none⟩=some u):=⟨h.cell (by omega),h.cell (by omega)⟩
theorem dZ.sets{W:World}{g ty len o:Nat}(h:dZ W g ty len)(x:dm):dZ (setWn W g o x) g ty len:=((h.set _).set _)
/-- The cells of rows; a slice of the call's own that holds rows. -/
def dm.cells(x:dm):List Value:=[.int .i64 x.a,.int .i64 x.b]
def ft(xs:List dm):List Value:=xs.flatMap dm.cells
theorem flatWn_snoc(xs:List dm)(x:dm):ft (xs++[x])=ft xs++x.cells:=by simp[ft]
theorem flatWn_get{xs:List dm}{i:Nat}{x:dm}(h:xs[i]? =some x):(ft xs)[i*2]? =some (.int .i64 x.a)∧(ft xs)[i*2+1]? =some (.int .i64 x.b):=by
 induction xs generalizing i with
 |nil=>simp at h
 |cons y r ih=>
  have hf:ft (y :: r)=y.cells++ft r:=rfl
  cases i with
  |zero=>
   simp at h
   subst h
   rw[hf]
   exact⟨rfl,rfl⟩
  |succ i=>
   simp at h
   obtain⟨h0,h1⟩:=ih h
   have hl:y.cells.length=2:=rfl
   rw[hf]
   refine⟨?_,?_⟩
   ·rw[List.getElem?_append_right (by omega),hl,show(i+1)*2 - 2=i*2 by omega];exact h0
   ·rw[List.getElem?_append_right (by omega),hl,show(i+1)*2+1 - 2=i*2+1 by omega];exact h1
def dj(W:World)(B:Nat)(v:Value)(ys:List dm):Prop:=W.ownsRow B 48 2 v ys.length (ft ys)
theorem ownWn_ge{W:World}{B:Nat}{v:Value}{ys:List dm}(h:dj W B v ys):∀k,v.ownBlock=some k→B≤k:=by
 intro k hk
 rcases h.2 with⟨rfl,_⟩|⟨g,cap,cur,rfl,hg,_⟩
 ·cases hk
 ·simp[Value.ownBlock]at hk;omega
theorem jM{w1:World}{B:Nat}{v':Value}{ys:List dm}{x:dm}(ho:w1.ownsRow B 48 2 v' (ys.length+1) (ft ys++x.cells)):dj w1 B v' (ys++[x]):=by
 unfold dj
 rw[flatWn_snoc]
 simpa using ho
theorem jg(w:World)(a b:Int)(ty:Nat):∀j u,([.int .i64 a,.int .i64 b]:List Value)[j]? =some u→(w.alloc (.cells #[.int .i64 a,.int .i64 b] ty)).cell? ((⟨w.heap.size,0,none⟩:Addr).add j)=some u:=by
 intro j u hj
 have e:((⟨w.heap.size,0,none⟩:Addr).add j)=⟨w.heap.size,j,none⟩:=by
  unfold Addr.add
  split
  ·rename_i h0;rw[h0]
  ·simp
 rw[e]
 simpa[go_sem]using hj
theorem cells_atWn(w:World)(a b:Int)(ty:Nat){g:Nat}(hg:g=w.heap.size):∀j u,([.int .i64 a,.int .i64 b]:List Value)[j]? =some u→(w.alloc (.cells #[.int .i64 a,.int .i64 b] ty)).cell? ((⟨g,0,none⟩:Addr).add j)=some u:=by
 subst hg
 exact jg w a b ty
def markWn(i:Nat):dm:=⟨1+2*(i:Int),1+2*(i:Int)+1⟩
def WrWn(W:World)(a:Option Addr)(n cap:Nat):Prop:=n=0∨∃g,a=some ⟨g,0,none⟩∧dZ W g 48 cap∧n≤cap
def jN(W:World)(a:Option Addr)(n:Nat):Prop:=n=0∨∃g,a=some ⟨g,0,none⟩∧∀i,i<n→dF W g (i*2) (markWn i)
theorem grown0Wn{W W':World}(h:Below W.heap.size W W'):W.grownBy W' none:=⟨h.os,h.tape,h.output,h.size,fun k hk _=>h.block k hk⟩
theorem jN.below{W W':World}{a:Option Addr}{n:Nat}(h:jN W a n)(hb:Below W.heap.size W W'):jN W' a n:=by
 rcases h with h|⟨g,ha,hM⟩
 ·exact Or.inl h
 ·exact Or.inr ⟨g,ha,fun i hi=>(hM i hi).below hb (hM i hi).lt⟩
theorem holdWn{W:World}{B:Nat}{v:Value}{ys:List dm}(h:dj W B v ys)(hl:ys.length≤1048576):
  ∃a cap,v= .slice a ys.length cap∧kQ W a ys.length ys∧WrWn W a ys.length cap∧∀g o,0<ys.length→a=some ⟨g,o,none⟩→B≤g:=by
 have hm:ys.length≤maxLen:=by unfold maxLen;omega
 obtain⟨hlen,h|⟨g,cap,cur,rfl,hB,hblk,hnc,hcm,hsz,htk⟩⟩:=h
 ·obtain⟨rfl,h0⟩:=h
  rw[h0]
  exact⟨none,0,rfl,⟨h0,Nat.zero_le _,Or.inl rfl⟩,Or.inl rfl,fun _ _ hp=>by omega⟩
 ·refine⟨_,cap,rfl,⟨rfl,hm,Or.inr ⟨g,0,rfl,?_⟩⟩,Or.inr ⟨g,rfl,⟨cur,hblk,hsz⟩,hnc⟩,fun g' o' _ e=>by simp at e;omega⟩
  intro i x hx
  have hi:i<ys.length:=(List.getElem?_eq_some_iff.1 hx).1
  have hcell:∀j u,j<ys.length*2→(ft ys)[j]? =some u→W.cell? ⟨g,j,none⟩=some u:=by
   intro j u hj hu
   rw[cA hblk j,←Array.getElem?_toList]
   rw[←htk,List.getElem?_take_of_lt hj]at hu
   exact hu
  obtain⟨f0,f1⟩:=flatWn_get hx
  rw[Nat.zero_add]
  exact⟨hcell _ _ (by omega) f0,hcell _ _ (by omega) f1⟩
theorem WrWn.below{W W':World}{a:Option Addr}{n cap:Nat}(h:WrWn W a n cap)(hb:Below W.heap.size W W'):WrWn W' a n cap:=by
 rcases h with h|⟨g,ha,hB,hc⟩
 ·exact Or.inl h
 ·exact Or.inr ⟨g,ha,hB.below hb hB.lt,hc⟩
theorem WrWn.grown{W W':World}{row:Option Nat}{a:Option Addr}{n cap:Nat}(h:WrWn W a n cap)(hg:W.grownBy W' row)(hne:∀g o,0<n→a=some ⟨g,o,none⟩→some g≠row):WrWn W' a n cap:=by
 rcases h with h|⟨g,ha,hB,hc⟩
 ·exact Or.inl h
 ·by_cases h0:n=0
  ·exact Or.inl h0
  ·obtain⟨cur,c1,c2⟩:=hB
   exact Or.inr ⟨g,ha,⟨cur,(hg.block g (Array.getElem?_eq_some_iff.1 c1).1 (hne g 0 (by omega) ha)).trans c1,c2⟩,hc⟩
set_option linter.unusedSimpArgs false
abbrev A4:=Int×Int×Int×Int
def eY(g:A4)(v:Int):A4:=(bo g.1 1 g.1 1 (wrap64 (g.1+1)),bo g.1 1 g.2.1 v (wrap64 (g.2.1+v)),bo g.1 1 g.2.2.1 v (fF g.2.2.1 v),bo g.1 1 g.2.2.2 v (fE g.2.2.2 v))
def go(g h:A4):A4:=(bo g.1 h.1 g.1 h.1 (wrap64 (g.1+h.1)),bo g.1 h.1 g.2.1 h.2.1 (wrap64 (g.2.1+h.2.1)),bo g.1 h.1 g.2.2.1 h.2.2.1 (fF g.2.2.1 h.2.2.1),bo g.1 h.1 g.2.2.2 h.2.2.2 (fE g.2.2.2 h.2.2.2))
def kR(x:aD):A4:=(x.an,x.asu,x.ale,x.amo)
def frA(x:aD):A4:=(x.fn,x.fsu,x.fle,x.fmo)
/-- A row that knows of one value more; a new row; the row of no window. -/
def fe(x:aD)(v:Int):aD:=⟨x.ky,x.st,x.en,(eY (kR x) v).1,(eY (kR x) v).2.1,(eY (kR x) v).2.2.1,(eY (kR x) v).2.2.2,(eY (frA x) v).1,(eY (frA x) v).2.1,(eY (frA x) v).2.2.1,(eY (frA x) v).2.2.2,x.td,x.tm⟩
def fA(q:P3)(g:A4):aD:=⟨q.1,q.2.1,q.2.2,g.1,g.2.1,g.2.2.1,g.2.2.2,g.1,g.2.1,g.2.2.1,g.2.2.2,0,false⟩
def zerO(q:P3):aD:=⟨q.1,q.2.1,q.2.2,0,0,0,0,0,0,0,0,0,false⟩
theorem knowX_zero(q:P3)(v:Int):fe (zerO q) v=fA q (eY (0,0,0,0) v):=rfl
instance decPl (a b:P3):Decidable (cg a b):=by unfold cg;infer_instance
abbrev ea(xs:List aD):Prop:=xs.Pairwise (fun x y=>cg (aX x) (aX y))
def eG(r:aD):List aD→List aD
 | []=>[r]
 |x :: xs=>if cg (aX r) (aX x)then r :: x :: xs else x :: eG r xs
def eB(q:P3)(xs:List aD):List aD:=xs.filter (fun x=> !decide (aX x=q))
def cD(r:aD)(xs:List aD):List aD:=eG r (eB (aX r) xs)
def gb(q:P3)(xs:List aD):Option aD:=xs.find? (fun x=>decide (aX x=q))
/-- The row of a place that knows of one value more. -/
def dC(q:P3)(v:Int)(xs:List aD):aD:=fe ((gb q xs).getD (zerO q)) v
def gTx(m:Int)(x:aD):aD:=if cP m x=true then dp x else x
def fL(pc:Bool)(m:Int)(xs:List aD)(r:aD):List aD×List cO:=if m<r.en then(cD r xs,[])else(cD (dp r) xs,[dU pc r])
theorem jO(m:Int)(x:aD):aX (gTx m x)=aX x:=by unfold gTx;split<;>rfl
theorem fM{q:P3}{xs:List aD}{x:aD}(h:gb q xs=some x):aX x=q∧x ∈ xs:=⟨by simpa using List.find?_some h,List.mem_of_find?_eq_some h⟩
theorem nexO_pl(q:P3)(v:Int)(xs:List aD):aX (dC q v xs)=q:=by
 unfold dC
 cases h:gb q xs with
 |none=>rfl
 |some x=>exact(fM h).1
theorem insO_map{f:aD→aD}(hf:∀x,aX (f x)=aX x)(r:aD):∀xs:List aD,(eG r xs).map f=eG (f r) (xs.map f)
 | []=>rfl
 |x :: xs=>by
  simp only[eG,List.map_cons,hf]
  by_cases h:cg (aX r) (aX x)
  ·rw[if_pos h,if_pos h];rfl
  ·rw[if_neg h,if_neg h,List.map_cons,insO_map hf r xs]
theorem offO_map{f:aD→aD}(hf:∀x,aX (f x)=aX x)(q:P3)(xs:List aD):(eB q xs).map f=eB q (xs.map f):=by
 unfold eB
 rw[List.filter_map]
 congr 1
 refine List.filter_congr (fun x _=>?_)
 simp only[Function.comp,hf]
theorem putO_map{f:aD→aD}(hf:∀x,aX (f x)=aX x)(r:aD)(xs:List aD):(cD r xs).map f=cD (f r) (xs.map f):=by
 unfold cD
 rw[insO_map hf,offO_map hf,hf]
theorem jP{r:aD}:∀ {xs:List aD} {y:aD},y ∈ eG r xs↔y=r∨y ∈ xs
 | [],y=>by simp[eG]
 |x :: xs,y=>by
  unfold eG
  split
  ·simp
  ·rw[List.mem_cons,jP,List.mem_cons]
   constructor
   ·rintro (h|h|h)<;>simp[h]
   ·rintro (h|h|h)<;>simp[h]
theorem jQ{q:P3}{xs:List aD}{y:aD}:y ∈ eB q xs↔y ∈ xs∧¬ aX y=q:=by
 unfold eB
 rw[List.mem_filter]
 simp
theorem gp{r:aD}{xs:List aD}{y:aD}:y ∈ cD r xs↔y=r∨(y ∈ xs∧¬ aX y=aX r):=by
 unfold cD
 rw[jP,jQ]
theorem lu{r:aD}:∀ {xs:List aD},ea xs→(∀x ∈ xs,¬ aX x=aX r)→ea (eG r xs)
 | [],_,_=>by simp[eG,ea]
 |x :: xs,h,hn=>by
  have hc:=List.pairwise_cons.1 h
  unfold eG
  split
  ·rename_i hl
   refine List.pairwise_cons.2 ⟨fun y hy=>?_,h⟩
   rcases List.mem_cons.1 hy with rfl|hy
   ·exact hl
   ·exact dL hl (hc.1 y hy)
  ·rename_i hl
   refine List.pairwise_cons.2 ⟨fun y hy=>?_,lu hc.2 (fun z hz=>hn z (List.mem_cons_of_mem _ hz))⟩
   rcases jP.1 hy with rfl|hy
   ·rcases iq (aX x) (aX y)with h9|h9|h9
    ·exact h9
    ·exact absurd h9 (hn x (by simp))
    ·exact absurd h9 hl
   ·exact hc.1 y hy
theorem iU{r:aD}{xs:List aD}(h:ea xs):ea (cD r xs):=lu (h.sublist List.filter_sublist) (fun x hx=>(jQ.1 hx).2)
theorem jR(r:aD)(xs:List aD):(cD r xs).length≤xs.length+1:=by
 have h1:∀ys:List aD,(eG r ys).length=ys.length+1:=by
  intro ys
  induction ys with
  |nil=>rfl
  |cons y ys ih=>unfold eG;split<;>simp[ih]
 unfold cD
 rw[h1]
 have:=List.length_filter_le (fun x:aD=> !decide (aX x=aX r)) xs
 unfold eB
 omega
/-- What is picked behind a put row, where all that was picked lies ahead of it. -/
theorem ff{p:aD→Bool}{r:aD}(hr:p r=true):∀ {xs:List aD},ea xs→(∀x ∈ xs,p x=true→cg (aX x) (aX r))→(eG r xs).filter p=xs.filter p++[r]
 | [],_,_=>by simp[eG,hr]
 |x :: xs,h,hp=>by
  have hc:=List.pairwise_cons.1 h
  unfold eG
  split
  ·rename_i hl
   have hno:∀y ∈ x :: xs,p y=false:=by
    intro y hy
    cases hy9:p y with
    |false=>rfl
    |true=>
     have h1:=hp y hy hy9
     have h2:cg (aX r) (aX y):=by
      rcases List.mem_cons.1 hy with rfl|hy
      ·exact hl
      ·exact dL hl (hc.1 y hy)
     exact absurd (dL h1 h2) (ch _)
   have h0:(x :: xs).filter p=[]:=List.filter_eq_nil_iff.2 (fun y hy=>by rw[hno y hy];simp)
   rw[List.filter_cons,if_pos hr,h0]
   rfl
  ·rw[List.filter_cons,List.filter_cons,ff hr hc.2 (fun y hy=>hp y (List.mem_cons_of_mem _ hy))]
   split<;>rfl
theorem gu{p:aD→Bool}{r:aD}(hr:p r=false):∀ {xs:List aD},(eG r xs).filter p=xs.filter p
 | []=>by simp[eG,hr]
 |x :: xs=>by
  unfold eG
  split
  ·rw[List.filter_cons (x:=r),if_neg (by rw[hr];simp)]
  ·rw[List.filter_cons,List.filter_cons,gu hr]
theorem jS{p:aD→Bool}{q:P3}{xs:List aD}(h:∀x ∈ xs,aX x=q→p x=false):(eB q xs).filter p=xs.filter p:=by
 unfold eB
 rw[List.filter_filter]
 refine List.filter_congr (fun x hx=>?_)
 by_cases h9:aX x=q
 ·simp[h x hx h9]
 ·simp[h9]
/-- How a row is told behind one value more. -/
theorem know_fn{x:aD}{v:Int}(h:0≤x.fn∧x.fn≤1000000):0<(fe x v).fn:=by
 show 0<bo x.fn 1 x.fn 1 (wrap64 (x.fn+1))
 unfold bo
 split
 ·decide
 ·have:wrap64 (x.fn+1)=x.fn+1:=by unfold wrap64;omega
  simp[this]
  omega
theorem tel_know{m:Int}{x:aD}{v:Int}(h:0≤x.fn∧x.fn≤1000000):cP m (fe x v)=decide (x.en≤m):=by
 unfold cP
 have:=know_fn (v:=v) h
 simp[this]
 rfl
structure kL(pc:Bool)(m:Int)(xs ys:List aD)(ps:List cO)(q:P3):Prop where
 rows:xs=ys.map (gTx m)
 pans:ps=(ys.filter (cP m)).map (dU pc)
 rise:ea ys
 ahead:∀y ∈ ys,cP m y=true→cg (aX y) q
 fresh:∀y ∈ ys,¬ cg (aX y) q→0≤y.fn∧y.fn≤1000000
theorem kL.same{pc:Bool}{m:Int}{xs ys:List aD}{ps:List cO}{q:P3}(h:kL pc m xs ys ps q):gb q xs=gb q ys:=by
 rw[h.rows]
 unfold gb
 rw[List.find?_map]
 have e1:((fun x:aD=>decide (aX x=q))∘gTx m)=fun x=>decide (aX x=q):=by funext x;simp only[Function.comp,jO]
 rw[e1]
 cases hf:ys.find? (fun x=>decide (aX x=q))with
 |none=>rfl
 |some y=>
  have hy:aX y=q:=by simpa using List.find?_some hf
  have hm:y ∈ ys:=List.mem_of_find?_eq_some hf
  show some (gTx m y)=some y
  congr 1
  unfold gTx
  rw[if_neg]
  intro h9
  have:=h.ahead y hm h9
  rw[hy]at this
  exact ch _ this
/-- A row more: the specification tells of it at once, the program behind all of them. -/
theorem kL.put{pc:Bool}{m:Int}{xs ys:List aD}{ps:List cO}{q:P3}(h:kL pc m xs ys ps q){r:aD}(hp:aX r=q)(htel:cP m r=decide (r.en≤m)){q':P3}(hq:cg q q'):
  kL pc m (fL pc m xs r).1 (cD r ys) (ps++(fL pc m xs r).2) q':=by
 have hno:∀y ∈ ys,aX y=q→cP m y=false:=by
  intro y hy h9
  cases h8:cP m y with
  |false=>rfl
  |true=>
   have:=h.ahead y hy h8
   rw[h9]at this
   exact absurd this (ch _)
 have hrise:ea (eB q ys):=h.rise.sublist List.filter_sublist
 have hah:∀y ∈ eB q ys,cP m y=true→cg (aX y) (aX r):=fun y hy h9=>by rw[hp];exact h.ahead y (jQ.1 hy).1 h9
 have hfr:∀y ∈ cD r ys,¬ cg (aX y) q'→0≤y.fn∧y.fn≤1000000:=by
  intro y hy h9
  rcases gp.1 hy with rfl|⟨hy,_⟩
  ·rw[hp]at h9
   exact absurd hq h9
  ·exact h.fresh y hy (fun h8=>h9 (dL h8 hq))
 have hah2:∀y ∈ cD r ys,cP m y=true→cg (aX y) q':=by
  intro y hy h9
  rcases gp.1 hy with rfl|⟨hy,_⟩
  ·rw[hp];exact hq
  ·exact dL (h.ahead y hy h9) hq
 by_cases hm:m<r.en
 ·have ht:cP m r=false:=by rw[htel];simp;omega
  have e1:fL pc m xs r=(cD r xs,[]):=by unfold fL;rw[if_pos hm]
  rw[e1]
  refine⟨?_,?_,iU h.rise,hah2,hfr⟩
  ·rw[putO_map (jO m),←h.rows]
   have:gTx m r=r:=by unfold gTx;rw[if_neg (by rw[ht];simp)]
   rw[this]
  ·show ps++[]=_
   rw[List.append_nil,h.pans]
   unfold cD
   rw[gu ht,hp,jS hno]
 ·have ht:cP m r=true:=by rw[htel];simp;omega
  have e1:fL pc m xs r=(cD (dp r) xs,[dU pc r]):=by unfold fL;rw[if_neg hm]
  rw[e1]
  refine⟨?_,?_,iU h.rise,hah2,hfr⟩
  ·rw[putO_map (jO m),←h.rows]
   have:gTx m r=dp r:=by unfold gTx;rw[if_pos ht]
   rw[this]
  ·show ps++[dU pc r]=_
   rw[h.pans]
   unfold cD
   rw[hp,ff ht hrise hah,jS hno,List.map_append]
   rfl
theorem kL.step{pc:Bool}{m:Int}{xs ys:List aD}{ps:List cO}{q:P3}(h:kL pc m xs ys ps q)(v:Int){q':P3}(hq:cg q q'):
  kL pc m (fL pc m xs (dC q v xs)).1 (cD (dC q v ys) ys) (ps++(fL pc m xs (dC q v xs)).2) q':=by
 have hs:dC q v xs=dC q v ys:=by unfold dC;rw[h.same]
 rw[hs]
 refine h.put (nexO_pl q v ys) ?_ hq
 unfold dC
 cases hf:gb q ys with
 |none=>exact tel_know ⟨(show(0:Int)≤0 by decide),(show(0:Int)≤1000000 by decide)⟩
 |some y=>
  have:=fM hf
  exact tel_know (h.fresh y this.2 (by rw[this.1];exact ch _))
theorem kL.next{pc:Bool}{m:Int}{xs ys:List aD}{ps:List cO}{q q':P3}(h:kL pc m xs ys ps q)(hq:cg q q'):kL pc m xs ys ps q':=⟨h.rows,h.pans,h.rise,fun y hy h9=>dL (h.ahead y hy h9) hq,fun y hy h9=>h.fresh y hy (fun h8=>h9 (dL h8 hq))⟩
theorem kL.start{pc:Bool}{l m:Int}{xs:List aD}(h:ea xs)(hok:∀x ∈ xs,x.okB l m=true)(hf:∀x ∈ xs,x.fn≤1000000)(q:P3):kL pc m xs xs [] q:=by
 have hno:∀x ∈ xs,cP m x=false:=fun x hx=>tel_no (hok x hx)
 refine⟨?_,?_,h,(fun y hy h9=>by rw[hno y hy]at h9;cases h9),fun y hy _=>⟨(ei (hok y hy)).2.2.1,hf y hy⟩⟩
 ·have:xs.map (gTx m)=xs.map id:=List.map_congr_left (fun x hx=>by unfold gTx;rw[if_neg (by rw[hno x hx];simp)];rfl)
  rw[this,List.map_id]
 ·rw[List.filter_eq_nil_iff.2 (fun y hy=>by rw[hno y hy];simp)]
  rfl
/-- The specification: into a window that does not grow; into a session; all windows of a record, one behind the other. -/
def iz(pc:Bool)(l m:Int)(xs:List aD)(ky v st en:Int):List aD×List cO×Bool:=if en+l≤m then(xs,[],false)else((fL pc m xs (dC (ky,st,en) v xs)).1,(fL pc m xs (dC (ky,st,en) v xs)).2,true)
def di(ky st en:Int)(x:aD):Bool:=decide (x.ky=ky)&&bx x.st x.en st en
def eT(st en:Int)(old:List aD):Int×Int:=old.foldl (fun p x=>(fF p.1 x.st,fE p.2 x.en)) (st,en)
def eC(v:Int)(old:List aD):A4:=old.foldl (fun g x=>go g (kR x)) (eY (0,0,0,0) v)
def gonX(x:aD):cO:=⟨x.ky,x.st,x.en,x.td,3,0,0,0,0⟩
def du(old:List aD):List cO:=(old.filter (fun x=>decide (0<x.td))).map gonX
/-- One row alone that is as wide as all of it. -/
def ee(sp:Int×Int)(old:List aD):Bool:=match old with
 | [x]=>decide (x.st=sp.1)&&decide (x.en=sp.2)
 |_=>false
def seF(pc:Bool)(l m:Int)(xs:List aD)(ky v st en:Int):List aD×List cO×Bool:=
 let old:=xs.filter (di ky st en)
 let sp:=eT st en old
 if sp.2+l≤m then(xs,[],false)
 else if ee sp old=true then iz pc l m xs ky v sp.1 sp.2
 else((fL pc m (xs.filter (fun x=> !di ky st en x)) (fA (ky,sp.1,sp.2) (eC v old))).1,du old++(fL pc m (xs.filter (fun x=> !di ky st en x)) (fA (ky,sp.1,sp.2) (eC v old))).2,true)
def de(ses pc:Bool)(l m ky v:Int)(a:List aD×List cO×List dm)(w:dm):List aD×List cO×List dm:=
 let r:=if ses=true then seF pc l m a.1 ky v w.a w.b else iz pc l m a.1 ky v w.a w.b
 (r.1,a.2.1++r.2.1,if r.2.2=true then a.2.2 else a.2.2++[w])
def cY(ses pc:Bool)(l m ky v:Int)(xs:List aD)(ws:List dm):List aD×List cO×List dm:=ws.foldl (de ses pc l m ky v) (xs,[],[])
/-- The program, ahead of what is gathered: the rows that a window meets. -/
def ic(ses:Bool)(ky st en:Int)(xs:List aD):List aD:=if ses=true then xs.filter (di ky st en)else(gb (ky,st,en) xs).toList
def cd(ses:Bool)(l m ky v:Int)(a:List aD×List cO×List dm)(w:dm):List aD×List cO×List dm:=
 let met:=ic ses ky w.a w.b a.1
 let sp:=eT w.a w.b met
 if sp.2+l≤m then(a.1,a.2.1,a.2.2++[w])
 else if ee sp met=true then(cD (dC (ky,sp.1,sp.2) v a.1) a.1,a.2.1,a.2.2)
 else(cD (fA (ky,sp.1,sp.2) (eC v met)) (a.1.filter (fun x=> !met.any (fun y=>decide (aX y=aX x)))),a.2.1++du met,a.2.2)
def eU(ses:Bool)(l m ky v:Int)(xs:List aD)(ws:List dm):List aD×List cO×List dm:=ws.foldl (cd ses l m ky v) (xs,[],[])
def lV(q:P3):P3:=(q.1,q.2.1,q.2.2+1)
theorem lW(q:P3):cg q (lV q):= .inr ⟨rfl,.inr ⟨rfl,by show q.2.2<q.2.2+1;omega⟩⟩
theorem suc_le{q p:P3}(h:cg q p):lV q=p∨cg (lV q) p:=by
 rcases iq (lV q) p with h9|h9|h9
 ·exact .inr h9
 ·exact .inl h9
 ·exfalso
  unfold cg lV at*
  simp only at*
  omega
/-- Where windows do not grow the program puts the very row that the specification puts. -/
theorem loI_same(a:Int):fF a a=a:=by unfold fF;simp
theorem hiI_same(a:Int):fE a a=a:=by unfold fE;simp
theorem jT{l m ky v:Int}{a:List aD×List cO×List dm}{w:dm}:cd false l m ky v a w=if w.b+l≤m then(a.1,a.2.1,a.2.2++[w])else(cD (dC (ky,w.a,w.b) v a.1) a.1,a.2.1,a.2.2):=by
 unfold cd ic
 cases hf:gb (ky,w.a,w.b) a.1 with
 |none=>
  simp only[Bool.false_eq_true,if_false,Option.toList,eT,List.foldl_nil,ee,eC,du,List.filter_nil,List.map_nil,List.append_nil,List.any_nil,Bool.not_false]
  have e1:dC (ky,w.a,w.b) v a.1=fA (ky,w.a,w.b) (eY (0,0,0,0) v):=by unfold dC;rw[hf];exact knowX_zero _ _
  rw[e1,List.filter_eq_self.2 (fun _ _=>rfl)]
 |some y=>
  have hy:=fM hf
  have h1:y.ky=ky∧y.st=w.a∧y.en=w.b:=by have:=hy.1;unfold aX at this;simp only[Prod.mk.injEq]at this;exact this
  simp only[Bool.false_eq_true,if_false,Option.toList,eT,List.foldl_cons,List.foldl_nil,ee,h1.2.1,h1.2.2,loI_same,hiI_same,decide_true,Bool.and_self,if_true]
theorem jU{pc:Bool}{l m ky v:Int}:∀(ws:List dm) (a:List aD×List cO×List dm) (ys:List aD) (q:P3),kL pc m a.1 ys a.2.1 q→(∀w ∈ ws,q=(ky,w.a,w.b)∨cg q (ky,w.a,w.b))→ws.Pairwise (fun x y=>cg (ky,x.a,x.b) (ky,y.a,y.b))→
  ∃q',kL pc m (ws.foldl (de false pc l m ky v) a).1 (ws.foldl (cd false l m ky v) (ys,[],a.2.2)).1 (ws.foldl (de false pc l m ky v) a).2.1 q'∧(ws.foldl (cd false l m ky v) (ys,[],a.2.2)).2.1=[]∧(ws.foldl (de false pc l m ky v) a).2.2=(ws.foldl (cd false l m ky v) (ys,[],a.2.2)).2.2
 | [],a,ys,q,h,_,_=>⟨q,h,rfl,rfl⟩
 |w :: ws,a,ys,q,h,hq,hw=>by
  have hc:=List.pairwise_cons.1 hw
  have h1:kL pc m a.1 ys a.2.1 (ky,w.a,w.b):=by
   rcases hq w (by simp)with h9|h9
   ·rw[←h9];exact h
   ·exact h.next h9
  have hq2:∀w' ∈ ws,lV (ky,w.a,w.b)=(ky,w'.a,w'.b)∨cg (lV (ky,w.a,w.b)) (ky,w'.a,w'.b):=fun w' hw'=>suc_le (hc.1 w' hw')
  rw[List.foldl_cons,List.foldl_cons,jT]
  by_cases hs:w.b+l≤m
  ·have e1:de false pc l m ky v a w=(a.1,a.2.1,a.2.2++[w]):=by
    unfold de iz
    simp[hs]
   rw[e1,if_pos hs]
   exact jU ws (a.1,a.2.1,a.2.2++[w]) ys (lV (ky,w.a,w.b)) (h1.next (lW _)) hq2 hc.2
  ·have e1:de false pc l m ky v a w=((fL pc m a.1 (dC (ky,w.a,w.b) v a.1)).1,a.2.1++(fL pc m a.1 (dC (ky,w.a,w.b) v a.1)).2,a.2.2):=by
    unfold de iz
    simp[hs]
   rw[e1,if_neg hs]
   exact jU ws (_,_,a.2.2) (cD (dC (ky,w.a,w.b) v ys) ys) (lV (ky,w.a,w.b)) (h1.step v (lW _)) hq2 hc.2
end Go.Proofs.YtdmhihcipkhecaaGreat
