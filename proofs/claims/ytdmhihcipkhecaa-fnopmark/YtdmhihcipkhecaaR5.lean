/- Laid together: what the claim needs of the texts that were built one by one. -/
import Derived.Test.YtdmhihcipkhecaaR1
import Derived.Test.YtdmhihcipkhecaaR2
import Derived.Test.YtdmhihcipkhecaaR4
import Derived.Test.YtdmhihcipkhecaaR0
import Derived.BigQuiet
import Derived.Deep.RegionHeld3
import Derived.Lib.SmallJoins
import Derived.LoopN
import Derived.Deep.Slices
import Derived.OwnWalk
import Derived.WalkSpells
import Derived.Test.YtdmhihcipkhecaaR3
import Derived.OrdersHeld
set_option linter.unusedVariables false
namespace Go.Proofs.Ytdmhihcipkhecaa
open Go.ChangeShapes Go.WideShapes Go.ChangeAt Go.RowKit
set_option linter.unusedSimpArgs false
/-- A row lies in a box. -/
def fR(W:World)(g:Nat)(x:aD):Prop:=W.heap[g]? =some (.cells #[.int .i64 x.ky,.int .i64 x.st,.int .i64 x.en,.int .i64 x.an,.int .i64 x.asu,.int .i64 x.ale,.int .i64 x.amo,.int .i64 x.fn,.int .i64 x.fsu,.int .i64 x.fle,.int .i64 x.fmo,.int .i64 x.td,.bool x.tm] 42 (0,0))
theorem fR.new(W:World)(x:aD):fR (W.alloc (.cells #[.int .i64 x.ky,.int .i64 x.st,.int .i64 x.en,.int .i64 x.an,.int .i64 x.asu,.int .i64 x.ale,.int .i64 x.amo,.int .i64 x.fn,.int .i64 x.fsu,.int .i64 x.fle,.int .i64 x.fmo,.int .i64 x.td,.bool x.tm] 42)) W.heap.size x:=World.alloc_heap_new W _
theorem fR.lt{W:World}{g:Nat}{x:aD}(h:fR W g x):g<W.heap.size:=(Array.getElem?_eq_some_iff.1 h).1
theorem fR.bel{W W':World}{B g:Nat}{x:aD}(h:fR W g x)(hb:Below B W W')(hg:g<B):fR W' g x:=(hb.block g hg).trans h
/-- What a row tells, and what it is behind that. -/
def bU(m:Int)(x:aD):Bool:=decide (x.en≤m)&&decide (0<x.fn)
def ce(x:aD):aD:= {x with td:=x.td+1,tm:=true,fn:=0,fsu:=0,fle:=0,fmo:=0}
def dB(pc:Bool)(x:aD):cN:=⟨x.ky,x.st,x.en,x.td,if x.tm=true then 2 else 1,if pc=true then x.fn else x.an,if pc=true then x.fsu else x.asu,if pc=true then x.fle else x.ale,if pc=true then x.fmo else x.amo⟩
theorem plO_told(x:aD):bj (ce x)=bj x:=rfl
theorem tel_told(m:Int)(x:aD):bU m (ce x)=false:=by simp[bU,ce]
theorem kC{w w':World}{g:Option Nat}(h:Below w.heap.size w w'):w.grownBy w' g:=⟨h.os,h.tape,h.output,h.size,fun k hk _=>h.block k hk⟩
theorem aM{w w':World}{g:Nat}{p:Addr}(h:w.grownBy w' (some g))(hp:p.block=g∨w.heap.size≤p.block)(v:Value):w.grownBy (w'.setCell p v) (some g):=by
 refine⟨h.os,h.tape,h.output,by rw[World.setCell];simpa using h.size,fun k hk hne=>?_⟩
 have hne':k≠p.block:=by
  rintro rfl
  rcases hp with h9|h9
  ·exact hne (by rw[h9])
  ·omega
 rw[Below.heap_setCell w' p v k hne']
 exact h.block k hk hne
set_option linter.unusedSimpArgs false
/-- An operator while a call lasts. -/
def opV(s t k z q l e:Int)(b:Bool)(v r m:Int)(mb:Nat)(pv lv:Value):Array Value:=#[.int .i64 s,.int .i64 t,.int .i64 k,.int .i64 z,.int .i64 q,.int .i64 l,.int .i64 e,.bool b,.int .i64 v,.int .i64 r,.int .i64 m,.map (some mb),pv,lv]
def fl(l m en:Int):Bool:=decide (en+l≤m)
set_option maxRecDepth 20000 in
set_option maxHeartbeats 2000000 in
theorem isshut_any(Bo:Nat)(s t k z q l e:Int)(b:Bool)(v r m:Int)(mb:Nat)(pv lv:Value)(st en:Int)(w:World)(h:w.heap[Bo]? =some (.cells (opV s t k z q l e b v r m mb pv lv) 62 (0,0)))(hb: -1000≤en∧en≤1000∧0≤l∧l≤20):Calls Try.prog 56 #[.pointer (some ⟨Bo,0,none⟩),.agg #[.int .i64 st,.int .i64 en]] w fun e' w'=>e'= .returned (.bool (fl l m en))∧Below w.heap.size w w':=by
 have hB:Bo<w.heap.size:=(Array.getElem?_eq_some_iff.1 h).1
 have c5:w.cell? ⟨Bo,5,none⟩=some (.int .i64 l):=cA h 5
 have bH:w.cell? ⟨Bo,10,none⟩=some (.int .i64 m):=cA h 10
 have hwr:IntKind.i64.wrap (en+l)=en+l:=IntWalk.i64_in _ ⟨by omega,by omega⟩
 go_enter Try.func56,Try.ntmps56
 go_wp2_with fail
 go_quiet (fail)
 go_wp2
 go_ret
 exact⟨rfl,aQ (ax _ _) _⟩
open Go.Maps
set_option linter.unusedSimpArgs false
theorem cD.store{w:World}{b n:Nat}{m:P3→Option Value}(h:cD w b n m)(hn:n<maxLen)(q:P3)(hq:gP q)(val:Value):
  ∃w',(Instr.mapUpdate 59 (.map (some b)) (.agg #[.int .i64 q.1,.int .i64 q.2.1,.int .i64 q.2.2]) val).run Try.prog w= .ok () w'∧cD w' b (n+1) (fun x=>if x=q then some val else m x)∧w.grownBy w' (some b):=
 bq.store h iP Try.underlying59 hn some3 inj3 q hq val (ps:=[]) rfl
theorem cD.ne_cells{w:World}{b n g:Nat}{m:P3→Option Value}{cs:Array Value}{ty:TypeId}(h:cD w b n m)(hx:w.heap[g]? =some (.cells cs ty (0,0))):g≠b:=by
 rintro rfl
 obtain⟨D,⟨es,clock,h1,_⟩,_⟩:=h
 rw[hx]at h1
 cases h1
theorem cD.bel{w w':World}{b n:Nat}{m:P3→Option Value}(h:cD w b n m)(hb:Below w.heap.size w w'):cD w' b n m:=bq.below h hb
/-- Rows in boxes, and the map that points to them. -/
structure dC(W:World)(B mb nn:Nat)(es:List cm):Prop where
 map:cD W mb nn (fun q=>(dJ es q).map Value.pointer)
 box:∀e ∈ es,fR W e.1 e.2
 ge:∀e ∈ es,B≤e.1
 nd:(es.map (fun e=>e.1)).Nodup
theorem dC.bel{W W':World}{B mb nn:Nat}{es:List cm}(h:dC W B mb nn es)(hb:Below W.heap.size W W'):dC W' B mb nn es:=
 ⟨h.map.bel hb,fun e he=>(h.box e he).bel hb (h.box e he).lt,h.ge,h.nd⟩
theorem dC.snoc{W W':World}{B mb nn:Nat}{es:List cm}(h:dC W B mb nn es)(g:Nat)(x:aD)(hx:fR W g x)(hg:B≤g)(hn:∀e ∈ es,e.1<g)(hm:cD W' mb (nn+1) (fun q=>(dJ (es++[(g,x)]) q).map Value.pointer))(hgr:W.grownBy W' (some mb)):dC W' B mb (nn+1) (es++[(g,x)]):=by
 have hkeep:∀k y,fR W k y→fR W' k y:=fun k y hy=>(hgr.block k hy.lt (fun e9=>h.map.ne_cells hy (Option.some.inj e9))).trans hy
 refine⟨hm,?_,?_,?_⟩
 ·intro e he
  rcases List.mem_append.1 he with h9|h9
  ·exact hkeep _ _ (h.box e h9)
  ·rw[List.mem_singleton.1 h9]
   exact hkeep _ _ hx
 ·intro e he
  rcases List.mem_append.1 he with h9|h9
  ·exact h.ge e h9
  ·rw[List.mem_singleton.1 h9]
   exact hg
 ·rw[List.map_append,List.nodup_append]
  refine⟨h.nd,by simp,?_⟩
  intro a ha b hb
  obtain⟨e,he,rfl⟩:=List.mem_map.1 ha
  simp at hb
  have:=hn e he
  omega
set_option maxRecDepth 20000 in
set_option maxHeartbeats 4000000 in
theorem operof_any(s t k z q l e:Int)(b:Bool)(v r m:Int)(a:Option Addr)(len cap:Nat)(xs:List aD)(w:World)(h:bw w a len xs)(hl:len≤1000)(hok:∀x ∈ xs,gP (bj x))(hrs:xs.Pairwise (fun x y=>ca (bj x) (bj y))):Calls Try.prog 18 #[.agg #[.int .i64 s,.int .i64 t,.int .i64 k,.int .i64 z,.int .i64 q,.int .i64 l,.int .i64 e,.bool b,.int .i64 v,.int .i64 r],.agg #[.int .i64 m,.slice a len cap]] w fun e' w'=>∃es:List cm,e'= .returned (.pointer (some ⟨w.heap.size+1+1+1,0,none⟩))∧es.map (fun e=>e.2)=xs∧dC w' w.heap.size (w.heap.size+1+1) len es∧w'.heap[w.heap.size+1+1+1]? =some (.cells (opV s t k z q l e b v r m (w.heap.size+1+1) (.slice none 0 0) (.slice none 0 0)) 62 (0,0))∧Below w.heap.size w w':=by
 have hxl:=h.1
 have hmk:∀u:World,(Instr.makeMap 59 none).run Try.prog u= .ok (.map (some u.heap.size)) (u.alloc (.map #[] 0)):=fun _=>rfl
 go_enter Try.func18,Try.ntmps18
 go_wp2
 clear hmk
 go_loopw [17] (fun iv wr=>∃(i:Nat) (es:List cm),i≤len∧iv= .int .i64 i∧Hid (es.map (fun e=>e.2)=xs.take i)∧Hid (dC wr (w.heap.size+4) (w.heap.size+1+1) i es)∧Hid (wr.heap[w.heap.size+1+1+1]? =some (.cells #[.int .i64 s,.int .i64 t,.int .i64 k,.int .i64 z,.int .i64 q,.int .i64 l,.int .i64 e,.bool b,.int .i64 v,.int .i64 r,.int .i64 m,.map (some (w.heap.size+1+1)),.slice none 0 0,.slice none 0 0] 62 (0,0)))∧Below w.heap.size w wr) (fun iv _=>len - (intOf iv).toNat)
 case atStart=>
  refine⟨0,[],Nat.zero_le _,rfl,ae rfl,ae ⟨?_,by simp,by simp,by simp⟩,ae ?_,af (af (af (ax _ _) _) _) _⟩
  ·have h9:=bq.made ((w.alloc (.cells #[.int .i64 s,.int .i64 t,.int .i64 k,.int .i64 z,.int .i64 q,.int .i64 l,.int .i64 e,.bool b,.int .i64 v,.int .i64 r] 24)).alloc (.cells #[.int .i64 m,.slice a len cap] 27)) Try.prog 70 rdV v3 gP DataW.held
   rw[World.size_alloc,World.size_alloc]at h9
   exact bq.below h9 (ax _ _)
  ·have h9:=World.alloc_heap_new (((w.alloc (.cells #[.int .i64 s,.int .i64 t,.int .i64 k,.int .i64 z,.int .i64 q,.int .i64 l,.int .i64 e,.bool b,.int .i64 v,.int .i64 r] 24)).alloc (.cells #[.int .i64 m,.slice a len cap] 27)).alloc (.map #[] 0)) (.cells #[.int .i64 s,.int .i64 t,.int .i64 k,.int .i64 z,.int .i64 q,.int .i64 l,.int .i64 e,.bool b,.int .i64 v,.int .i64 r,.int .i64 m,.map (some (w.heap.size+1+1)),.slice none 0 0,.slice none 0 0] 62)
   rw[World.size_alloc,World.size_alloc,World.size_alloc]at h9
   exact h9
 case round=>
  obtain⟨i,es,hil,rfl,HE,HR,HO,hbw⟩:=hrel
  have hBO:w.heap.size+1+1+1<wr.heap.size:=(Array.getElem?_eq_some_iff.1 (ab HO)).1
  by_cases hlt:i<len
  ·obtain⟨_,_,hy⟩:=h
   obtain⟨g,o,rfl,hr⟩:=hy.resolve_left (by omega)
   obtain⟨x,hxk⟩:∃x,xs[i]? =some x:=⟨_,List.getElem?_eq_getElem (by omega)⟩
   have hg:g<w.heap.size:=hr.lt (by omega)
   obtain⟨c0,c1,c2,c3,c4,c5,c6,c7,c8,c9,bH,c11,c12⟩:=(hr i _ hxk).below hbw hg
   have hxo:=hok x (List.mem_of_getElem? hxk)
   have hnew:∀e9 ∈ es,¬ bj e9.2=bj x:=by
    intro e9 he e8
    have h1:e9.2 ∈ xs.take i:=by rw[←ab HE];exact List.mem_map.2 ⟨e9,he,rfl⟩
    obtain⟨j,hj⟩:=List.mem_iff_getElem?.1 h1
    have hji:j<i:=by have:=(List.getElem?_eq_some_iff.1 hj).1;rw[List.length_take]at this;omega
    rw[List.getElem?_take_of_lt hji]at hj
    obtain⟨q1,q2⟩:=List.getElem?_eq_some_iff.1 hj
    obtain⟨q3,q4⟩:=List.getElem?_eq_some_iff.1 hxk
    have h2:=List.pairwise_iff_getElem.1 hrs j i q1 q3 hji
    rw[q2,q4,e8]at h2
    exact cx _ h2
   have HE2:Hid ((es++[(wr.heap.size,x)]).map (fun e=>e.2)=xs.take (i+1)):=ae (by rw[List.map_append,ab HE,List.take_add_one,hxk];rfl)
   have HN:=ae hnew
   have HXO:=ae hxo
   have hlow:∀e9 ∈ es,e9.1<wr.heap.size:=fun e9 he=>((ab HR).box e9 he).lt
   have HL:=ae hlow
   clear hr hy hxk hnew hlow
   obtain⟨ky,st,en,an,asu,ale,amo,fn,fsu,fle,fmo,td,tm⟩:=x
   dsimp only at c0 c1 c2 c3 c4 c5 c6 c7 c8 c9 bH c11 c12
   have hgr:g<wr.heap.size:=Nat.lt_of_lt_of_le hg hbw.size
   have bO:(wr.alloc (.cells #[.int .i64 ky,.int .i64 st,.int .i64 en,.int .i64 an,.int .i64 asu,.int .i64 ale,.int .i64 amo,.int .i64 fn,.int .i64 fsu,.int .i64 fle,.int .i64 fmo,.int .i64 td,.bool tm] 42)).drew.heap[w.heap.size+1+1+1]? =some (.cells #[.int .i64 s,.int .i64 t,.int .i64 k,.int .i64 z,.int .i64 q,.int .i64 l,.int .i64 e,.bool b,.int .i64 v,.int .i64 r,.int .i64 m,.map (some (w.heap.size+1+1)),.slice none 0 0,.slice none 0 0] 62 (0,0)):=(Below.heap_alloc _ _ _ hBO).trans (ab HO)
   have bR:(wr.alloc (.cells #[.int .i64 ky,.int .i64 st,.int .i64 en,.int .i64 an,.int .i64 asu,.int .i64 ale,.int .i64 amo,.int .i64 fn,.int .i64 fsu,.int .i64 fle,.int .i64 fmo,.int .i64 td,.bool tm] 42)).drew.heap[wr.heap.size]? =some (.cells #[.int .i64 ky,.int .i64 st,.int .i64 en,.int .i64 an,.int .i64 asu,.int .i64 ale,.int .i64 amo,.int .i64 fn,.int .i64 fsu,.int .i64 fle,.int .i64 fmo,.int .i64 td,.bool tm] 42 (0,0)):=World.alloc_heap_new wr _
   go_wp2_with fail
   clear c0 c1 c2 c3 c4 c5 c6 c7 c8 c9 bH c11 c12
   refine wp_region_held_drew (S:=(fun W=>W.heap[w.heap.size+1+1+1]? =some (.cells #[.int .i64 s,.int .i64 t,.int .i64 k,.int .i64 z,.int .i64 q,.int .i64 l,.int .i64 e,.bool b,.int .i64 v,.int .i64 r,.int .i64 m,.map (some (w.heap.size+1+1)),.slice none 0 0,.slice none 0 0] 62 (0,0))∧W.heap[wr.heap.size]? =some (.cells #[.int .i64 ky,.int .i64 st,.int .i64 en,.int .i64 an,.int .i64 asu,.int .i64 ale,.int .i64 amo,.int .i64 fn,.int .i64 fsu,.int .i64 fle,.int .i64 fmo,.int .i64 td,.bool tm] 42 (0,0)))) (ni) ?_ (fun hHeld=>?_)
   ·(try dsimp only);exact⟨bO,bR⟩
   refine kV 0 ?_
   refine kV 1 ?_
   refine kV 2 ?_
   refine kT 3 ?_ ?_ ?_
   rotate_left
   ·(intro w9 hSw;(try dsimp only at hSw);obtain⟨q0,q1⟩:=hSw;have g0x0:=cA q0 0;have g0x1:=cA q0 1;have g0x2:=cA q0 2;have g0x3:=cA q0 3;have g0x4:=cA q0 4;have g0x5:=cA q0 5;have g0x6:=cA q0 6;have g0x7:=cA q0 7;have g0x8:=cA q0 8;have g0x9:=cA q0 9;have g0x10:=cA q0 10;simp only[gA,gZ,gS]at g0x0 g0x1 g0x2 g0x3 g0x4 g0x5 g0x6 g0x7 g0x8 g0x9 g0x10;have g0x11:w9.cell? ⟨w.heap.size+1+1+1,11,none⟩=some (.map (some (w.heap.size+1+1))):=(by simp[World.cell?,q0,go_sem]);have g0x12:=cA q0 12;have g0x13:=cA q0 13;simp only[gA,gZ,gS]at g0x12 g0x13;go_simp<;>with_reducible rfl)
   try simp only[Act.put,tA,tZ,tS]
   refine kT 4 ?_ ?_ ?_
   rotate_left
   ·(intro w9 hSw;(try dsimp only at hSw);obtain⟨q0,q1⟩:=hSw;obtain⟨g1x0,g1x1,g1x2,g1x3,g1x4,g1x5,g1x6,g1x7,g1x8,g1x9,g1x10,g1x11,g1x12⟩:=fw q1;go_simp<;>with_reducible rfl)
   try simp only[Act.put,tA,tZ,tS]
   refine rD 5 (fun K hK=>?_)
   go_simp
   (go_at_call 29;refine(aO _ _ _ _ _ _ _ _ _ _ _ _ _ _).mono ?_;rintro e9 wv ⟨rfl,hbwv⟩)
   (try go_wp2_with fail)
   have zwv:=hbwv.size
   (try simp at zwv)
   have bO:=(hbwv.block (w.heap.size+1+1+1) (sB)).trans bO
   have bR:=(hbwv.block (wr.heap.size) (sB)).trans bR
   clear hHeld
   refine hK.out _ _ ?_ (fun hHeld=>?_)
   ·(try dsimp only);exact⟨bO,bR⟩
   clear hK K
   try simp only[Act.put,tA,tZ,tS]
   have hbv:Below wr.heap.size wr wv:=ap (aq (ax _ _)) hbwv
   have HRv:=(ab HR).bel hbv
   obtain⟨wu,hst,hOu,hgu⟩:=HRv.map.store (by unfold maxLen;omega) (ky,st,en) (ab HXO) (.pointer (some ⟨wr.heap.size,0,none⟩))
   dsimp only at hst
   refine rD 6 (fun K hK=>?_)
   go_simp
   have bOu:wu.heap[w.heap.size+1+1+1]? =some (.cells #[.int .i64 s,.int .i64 t,.int .i64 k,.int .i64 z,.int .i64 q,.int .i64 l,.int .i64 e,.bool b,.int .i64 v,.int .i64 r,.int .i64 m,.map (some (w.heap.size+1+1)),.slice none 0 0,.slice none 0 0] 62 (0,0)):=(hgu.block _ (Array.getElem?_eq_some_iff.1 bO).1 (fun e9=>HRv.map.ne_cells bO (Option.some.inj e9))).trans bO
   have bRu:wu.heap[wr.heap.size]? =some (.cells #[.int .i64 ky,.int .i64 st,.int .i64 en,.int .i64 an,.int .i64 asu,.int .i64 ale,.int .i64 amo,.int .i64 fn,.int .i64 fsu,.int .i64 fle,.int .i64 fmo,.int .i64 td,.bool tm] 42 (0,0)):=(hgu.block _ (Array.getElem?_eq_some_iff.1 bR).1 (fun e9=>HRv.map.ne_cells bR (Option.some.inj e9))).trans bR
   refine hK.out _ _ ?_ (fun lJ=>?_)
   ·(try dsimp only);exact⟨bOu,bRu⟩
   clear hK K hHeld lJ
   try simp only[Act.put,tA,tZ,tS]
   refine wpAnyH_done (ni) ?_ _
   rw[show(fun x9:P3=>if x9=(ky,st,en)then some (Value.pointer (some ⟨wr.heap.size,0,none⟩))else(dJ es x9).map Value.pointer)=fun q9=>(dJ (es++[(wr.heap.size,(⟨ky,st,en,an,asu,ale,amo,fn,fsu,fle,fmo,td,tm⟩:aD))]) q9).map Value.pointer from mapE_snoc (e:=(wr.heap.size,(⟨ky,st,en,an,asu,ale,amo,fn,fsu,fle,fmo,td,tm⟩:aD))) (ab HN)]at hOu
   have HRu:=ae (HRv.snoc wr.heap.size ⟨ky,st,en,an,asu,ale,amo,fn,fsu,fle,fmo,td,tm⟩ bR (by omega) (ab HL) hOu hgu)
   have hbu:Below w.heap.size w wu:=by
    have h9:=ap hbw hbv
    refine⟨hgu.os.trans h9.os,hgu.tape.trans h9.tape,hgu.output.trans h9.output,Nat.le_trans h9.size hgu.size,fun k9 hk9=>?_⟩
    exact(hgu.block k9 (Nat.lt_of_lt_of_le hk9 h9.size) (fun e9=>by have:=Option.some.inj e9;omega)).trans (h9.block k9 hk9)
   clear hst hOu hgu bO bR bRu hbwv HRv zwv hbv
   go_wp2
   refine⟨⟨i+1,es++[(wr.heap.size,⟨ky,st,en,an,asu,ale,amo,fn,fsu,fle,fmo,td,tm⟩)],by omega,by go_num,HE2,HRu,ae bOu,hbu⟩,by simp[intOf];omega⟩
  ·obtain rfl:i=len:=by omega
   have hE:es.map (fun e=>e.2)=xs:=by have h9:=ab HE;rw[List.take_of_length_le (by omega)]at h9;exact h9
   go_wp2
   go_ret
   refine⟨es,rfl,hE,⟨(ab HR).map,(ab HR).box,fun e9 he=>by have:=(ab HR).ge e9 he;omega,(ab HR).nd⟩,ab HO,hbw⟩
set_option linter.unusedSimpArgs false
/-- The types of what turns while an operator is at work. -/
def turnT(ty:TypeId):Bool:=ty==42||ty==44||ty==62||ty==27
/-- What is no cells, and all cells of other types, lie as they lay. -/
def fT(W W':World):Prop:=W.heap.size≤W'.heap.size∧∀(k:Nat) (o:Obj),W.heap[k]? =some o→(o.isCells=false∨∃(cs:Array Value) (ty:TypeId),turnT ty=false∧o= .cells cs ty (0,0))→W'.heap[k]? =some o
theorem fT.refl(W:World):fT W W:=⟨Nat.le_refl _,fun _ _ h _=>h⟩
theorem fT.trans{A B C:World}(h:fT A B)(k:fT B C):fT A C:=⟨Nat.le_trans h.1 k.1,fun i o hi ho=>k.2 i o (h.2 i o hi ho) ho⟩
theorem fT.bel{W W':World}(hb:Below W.heap.size W W'):fT W W':=⟨hb.size,fun k o hk _=>(hb.block k (Array.getElem?_eq_some_iff.1 hk).1).trans hk⟩
theorem fT.grown{W W':World}{row:Option Nat}(hg:W.grownBy W' row)(hr:∀r,row=some r→∃cs ty,W.heap[r]? =some (.cells cs ty (0,0))∧turnT ty=true):fT W W':=by
 refine⟨hg.size,fun k o hk ho=>(hg.block k (Array.getElem?_eq_some_iff.1 hk).1 (fun e=>?_)).trans hk⟩
 obtain⟨cs,ty,h1,h2⟩:=hr k e.symm
 rw[hk]at h1
 cases h1
 rcases ho with h9|⟨cs',ty',h8,h9⟩
 ·cases h9
 ·cases h9
  rw[h2]at h8
  cases h8
theorem fT.set{W:World}{p:Addr}(v:Value){cs:Array Value}{ty:TypeId}(h:W.heap[p.block]? =some (.cells cs ty (0,0)))(h1:turnT ty=true):fT W (W.setCell p v):=by
 refine⟨(KeepsWalks.setCell W p v).size,fun k o hk ho=>?_⟩
 have hne:k≠p.block:=by
  rintro rfl
  rw[hk]at h
  cases h
  rcases ho with h9|⟨cs',ty',h8,h9⟩
  ·cases h9
  ·cases h9
   rw[h1]at h8
   cases h8
 exact(Below.heap_setCell W p v k hne).trans hk
theorem fT.kpo{W W':World}(h:fT W W'):gV W W':=by
 refine⟨⟨h.1,fun k o hk ho=>h.2 k o hk (.inl (Obj.not_cells_of_walk ho))⟩,fun b cs ty ht hb=>h.2 b _ hb (.inr ⟨cs,ty,?_,rfl⟩)⟩
 rcases ht with rfl|rfl<;>decide
theorem fT.from{W W':World}(h:fT W W')(B:Nat):KeepsFrom B W W':=⟨h.1,fun k o _ hk ho=>h.2 k o hk (.inl ho)⟩
/-- Entries as what a map of them holds. -/
def evO:Option cm→Value
 |none=> .pointer none
 |some e=> .pointer (some ⟨e.1,0,none⟩)
def gC(es:List cm)(q:P3):Option (Option cm):=(es.find? (fun e=>decide (bj e.2=q))).map some
theorem mapO_ev(es:List cm):(fun q=>(gC es q).map evO)=fun q=>(dJ es q).map Value.pointer:=by
 funext q
 unfold gC dJ
 cases es.find? (fun e=>decide (bj e.2=q))<;>rfl
def PXs(es:List cm)(x:P3×Option cm):Prop:=∃e ∈ es,x.2=some e
theorem mapO_px{es:List cm}{q:P3}{a:Option cm}(h:gC es q=some a):PXs es (q,a):=by
 unfold gC at h
 cases hf:es.find? (fun e=>decide (bj e.2=q))with
 |none=>rw[hf]at h;cases h
 |some e=>
  rw[hf]at h
  simp at h
  exact⟨e,List.mem_of_find?_eq_some hf,h.symm⟩
abbrev eu(es:List cm):= {x:P3×Option cm // PXs es x}
def entZ:cm:=(0,⟨0,0,0,0,0,0,0,0,0,0,0,0,false⟩)
def am{es:List cm}(x:eu es):cm:=x.1.2.getD entZ
theorem entOf_ev{es:List cm}(x:eu es):evO x.1.2= .pointer (some ⟨(am x).1,0,none⟩):=by
 obtain⟨y,e,he,hy⟩:=x
 unfold am
 simp only[hy]
 rfl
theorem ea{es:List cm}(x:eu es):am x ∈ es:=by
 obtain⟨y,e,he,hy⟩:=x
 unfold am
 simp only[hy]
 exact he
theorem inO{es:List cm}{ys:List (eu es)}(hr:dT es)(hok:∀e ∈ es,gP (bj e.2))(h:InOrd none (gC es) (ys.map (fun y=>y.1))):ys.map am=es:=by
 obtain⟨ss,⟨hnd,hmem⟩,hy⟩:=h
 have hmm:∀e ∈ es,gC es (bj e.2)=some (some e):=by
  intro e he
  unfold gC
  cases hf:es.find? (fun x=>decide (bj x.2=bj e.2))with
  |none=>
   have:=List.find?_eq_none.1 hf e he
   simp at this
  |some x=>
   have h1:x ∈ es:=List.mem_of_find?_eq_some hf
   have h2:bj x.2=bj e.2:=by simpa using List.find?_some hf
   rw[hr.inj h1 he h2]
   rfl
 have e:es.map (fun e=>bj e.2)=ft ss:=by
  refine rise_eq _ _ (List.pairwise_map.2 hr) (srt_rise hnd) (fun q=>?_)
  rw[(fN ss).mem_iff,hmem]
  constructor
  ·intro hq
   obtain⟨x,hx,rfl⟩:=List.mem_map.1 hq
   exact⟨hok x hx,by rw[hmm x hx];simp⟩
  ·rintro ⟨_,hq⟩
   cases hm:gC es q with
   |none=>exact absurd hm hq
   |some a=>
    unfold gC at hm
    cases hf:es.find? (fun e=>decide (bj e.2=q))with
    |none=>rw[hf]at hm;cases hm
    |some x=>exact List.mem_map.2 ⟨x,List.mem_of_find?_eq_some hf,by simpa using List.find?_some hf⟩
 have e2:ys.map am=(ys.map (fun y=>y.1)).map (fun x=>x.2.getD entZ):=by rw[List.map_map];rfl
 rw[e2,hy,←e,List.map_map,List.map_map]
 have e3:es.map (((fun x:P3×Option cm=>x.2.getD entZ)∘fun q=>(q,(gC es q).getD none))∘fun e:cm=>bj e.2)=es.map id:=List.map_congr_left (fun x hx=>by simp only[Function.comp];rw[hmm x hx];rfl)
 rw[e3,List.map_id]
theorem zeroEv(u:World):(zeroValue 80).run Try.prog u= .ok (evO none) u:=by kernel_rfl
set_option linter.unusedSimpArgs false
theorem eT{s t k z q l e v r m:Int}{xs:List aD}(h:bT s t k z q l e v r m xs=true):xs.length≤300∧(0≤l∧l≤20)∧(0≤m∧m≤1000)∧(∀x ∈ xs,x.okB l m=true)∧xs.Pairwise (fun x y=>ca (bj x) (bj y)):=by
 unfold bT at h
 simp only[Bool.and_eq_true,decide_eq_true_eq]at h
 refine⟨h.1.2,iD h.1.1.1,bB.1 h.1.1.2,fun x hx=>?_,?_⟩
 ·obtain⟨i,hi⟩:=List.mem_iff_getElem?.1 hx
  exact kz hi (iB h.2 (List.getElem?_eq_some_iff.1 hi).1)
 ·have hstep:∀(i:Nat) (x y:aD),xs[i]? =some x→xs[i+1]? =some y→ca (bj x) (bj y):=by
   intro i x y hx hy
   have h9:=iB h.2 (List.getElem?_eq_some_iff.1 hy).1
   rw[okAt_s hy hx]at h9
   simp only[Bool.and_eq_true,fk,dP]at h9
   have h8:=gk.1 h9.2.2
   unfold ca bj
   simp only
   omega
  rw[List.pairwise_iff_getElem]
  intro i j hi hj hij
  obtain⟨d,rfl⟩:∃d,j=i+1+d:=⟨j - i - 1,by omega⟩
  clear hij
  induction d with
  |zero=>exact hstep i _ _ (List.getElem?_eq_getElem hi) (List.getElem?_eq_getElem hj)
  |succ d ih=>
   have h1:=ih (by omega)
   exact dV h1 (hstep (i+1+d) _ _ (List.getElem?_eq_getElem (by omega)) (List.getElem?_eq_getElem hj))
theorem dl{l m:Int}{x:aD}(h:x.okB l m=true):(0≤x.ky∧x.ky≤3)∧(0≤x.st∧x.st<x.en∧x.en≤120)∧0≤x.fn∧(0≤x.td∧x.td≤1500)∧m<x.en+l∧x.tm=decide (x.en≤m)∧(x.fn=0↔x.en≤m):=by
 have hw:=iC h
 simp only[aD.okB,aY,Bool.and_eq_true,decide_eq_true_eq]at h
 obtain⟨⟨⟨⟨⟨⟨⟨⟨⟨⟨h1,h2⟩,h3⟩,h4⟩,h5⟩,h6⟩,h7⟩,h8⟩,h9⟩,h10⟩,h11⟩:=h
 refine⟨bB.1 h1,hw,?_,bB.1 h5,h8,by simpa using h9,?_⟩
 ·unfold eB at h4
  split at h4
  ·omega
  ·simp only[Bool.and_eq_true]at h4
   have:=bB.1 h4.1.1.1
   omega
 ·have h12:=h11
  simp only[beq_iff_eq]at h12
  by_cases hc:x.en≤m
  ·simp[hc]at h12
   simp[hc,h12]
  ·simp[hc]at h12
   simp[hc,h12]
theorem ok_ok3{l m:Int}{x:aD}(h:x.okB l m=true):gP (bj x):=by
 obtain⟨h1,h2,_⟩:=dl h
 exact⟨WalkArith.wf_i64 (show _ from⟨by simp[bj];omega,by simp[bj];omega⟩),WalkArith.wf_i64 (show _ from⟨by simp[bj];omega,by simp[bj];omega⟩),WalkArith.wf_i64 (show _ from⟨by simp[bj];omega,by simp[bj];omega⟩)⟩
theorem tel_no{l m:Int}{x:aD}(h:x.okB l m=true):bU m x=false:=by
 obtain⟨_,_,h3,_,_,h6,h7⟩:=dl h
 unfold bU
 by_cases hc:x.en≤m
 ·have:x.fn=0:=h7.2 hc
  simp[this]
 ·simp[hc]
/-- One number of what is known of both. -/
def bo(n n' x x' c:Int):Int:=if n=0 then x' else if n'=0 then x else c
theorem bo_1(n' x x' c:Int):bo 0 n' x x' c=x':=rfl
theorem bo_2{n:Int}(h:n≠0)(x x' c:Int):bo n 0 x x' c=x:=by unfold bo;rw[if_neg h];rfl
theorem bo_3{n n':Int}(h:n≠0)(h':n'≠0)(x x' c:Int):bo n n' x x' c=c:=by unfold bo;rw[if_neg h,if_neg h']
theorem eF{a b c d a' b' c' d':Int}(h1:a'=a)(h2:b'=b)(h3:c'=c)(h4:d'=d):Ending.returned (.agg #[.int .i64 a,.int .i64 b,.int .i64 c,.int .i64 d])= .returned (.agg #[.int .i64 a',.int .i64 b',.int .i64 c',.int .i64 d']):=by rw[h1,h2,h3,h4]
set_option maxHeartbeats 1000000 in
theorem gD(n s l m n' s' l' m':Int)(w:World):Calls Try.prog 72 #[.agg #[.int .i64 n,.int .i64 s,.int .i64 l,.int .i64 m],.agg #[.int .i64 n',.int .i64 s',.int .i64 l',.int .i64 m']] w fun e w'=>e= .returned (.agg #[.int .i64 (bo n n' n n' (wrap64 (n+n'))),.int .i64 (bo n n' s s' (wrap64 (s+s'))),.int .i64 (bo n n' l l' (loI l l')),.int .i64 (bo n n' m m' (jE m m'))])∧Below w.heap.size w w':=by
 by_cases h1:n=0
 ·subst h1
  have hq:=ae (bo_1 n')
  go_enter Try.func72,Try.ntmps72
  go_wp2
  refine bodyPost_ret (v:= .agg #[.int .i64 n',.int .i64 s',.int .i64 l',.int .i64 m']) (mQ) rfl ⟨eF (ab hq _ _ _) (ab hq _ _ _) (ab hq _ _ _) (ab hq _ _ _),?_⟩
  exact(bu)
 have g1:(n==0)=false:=by simpa using h1
 by_cases h2:n'=0
 ·subst h2
  have hq:=ae (bo_2 h1)
  clear h1
  go_enter Try.func72,Try.ntmps72
  go_wp2
  refine bodyPost_ret (v:= .agg #[.int .i64 n,.int .i64 s,.int .i64 l,.int .i64 m]) (mQ) rfl ⟨eF (ab hq _ _ _) (ab hq _ _ _) (ab hq _ _ _) (ab hq _ _ _),?_⟩
  exact(bu)
 have g2:(n'==0)=false:=by simpa using h2
 have hq:=ae (bo_3 h1 h2)
 clear h1 h2
 by_cases h3:l'<l<;>by_cases h4:m<m'
 ·have k3:=ae (loI_c h3)
  have k4:=ae (hiI_d h4)
  go_enter Try.func72,Try.ntmps72
  go_wp2
  all_goals first
   |(exfalso;omega)
   |(refine bodyPost_ret (v:= .agg #[.int .i64 (wrap64 (n+n')),.int .i64 (wrap64 (s+s')),.int .i64 l',.int .i64 m']) (mQ) rfl ⟨eF (ab hq _ _ _) (ab hq _ _ _) ((ab hq _ _ _).trans (ab k3)) ((ab hq _ _ _).trans (ab k4)),?_⟩;exact(bu))
 ·have k3:=ae (loI_c h3)
  have k4:=ae (hiI_b h4)
  go_enter Try.func72,Try.ntmps72
  go_wp2
  all_goals first
   |(exfalso;omega)
   |(refine bodyPost_ret (v:= .agg #[.int .i64 (wrap64 (n+n')),.int .i64 (wrap64 (s+s')),.int .i64 l',.int .i64 m]) (mQ) rfl ⟨eF (ab hq _ _ _) (ab hq _ _ _) ((ab hq _ _ _).trans (ab k3)) ((ab hq _ _ _).trans (ab k4)),?_⟩;exact(bu))
 ·have k3:=ae (loI_a h3)
  have k4:=ae (hiI_d h4)
  go_enter Try.func72,Try.ntmps72
  go_wp2
  all_goals first
   |(exfalso;omega)
   |(refine bodyPost_ret (v:= .agg #[.int .i64 (wrap64 (n+n')),.int .i64 (wrap64 (s+s')),.int .i64 l,.int .i64 m']) (mQ) rfl ⟨eF (ab hq _ _ _) (ab hq _ _ _) ((ab hq _ _ _).trans (ab k3)) ((ab hq _ _ _).trans (ab k4)),?_⟩;exact(bu))
 ·have k3:=ae (loI_a h3)
  have k4:=ae (hiI_b h4)
  go_enter Try.func72,Try.ntmps72
  go_wp2
  all_goals first
   |(exfalso;omega)
   |(refine bodyPost_ret (v:= .agg #[.int .i64 (wrap64 (n+n')),.int .i64 (wrap64 (s+s')),.int .i64 l,.int .i64 m]) (mQ) rfl ⟨eF (ab hq _ _ _) (ab hq _ _ _) ((ab hq _ _ _).trans (ab k3)) ((ab hq _ _ _).trans (ab k4)),?_⟩;exact(bu))
theorem ip(n s l m v:Int)(w:World):Calls Try.prog 63 #[.agg #[.int .i64 n,.int .i64 s,.int .i64 l,.int .i64 m],.int .i64 v] w fun e w'=>e= .returned (.agg #[.int .i64 (bo n 1 n 1 (wrap64 (n+1))),.int .i64 (bo n 1 s v (wrap64 (s+v))),.int .i64 (bo n 1 l v (loI l v)),.int .i64 (bo n 1 m v (jE m v))])∧Below w.heap.size w w':=by
 go_enter Try.func63,Try.ntmps63
 go_wp2_with (first
  |(go_at_call 72;refine(gD _ _ _ _ _ _ _ _ _).mono ?_;rintro e w' ⟨rfl,hb⟩;obtain⟨hc,hf,hs⟩:=aC hb;(try have hz0:=zA hb w.heap.size);(try have hz1:=zA hb (w.heap.size+1));(try have hz2:=zA hb (w.heap.size+2))))
 refine bodyPost_ret (v:= .agg #[.int .i64 (bo n 1 n 1 (wrap64 (n+1))),.int .i64 (bo n 1 s v (wrap64 (s+v))),.int .i64 (bo n 1 l v (loI l v)),.int .i64 (bo n 1 m v (jE m v))]) (by simp[results,Try.results63,go_sem,hc]) rfl ⟨rfl,?_⟩
 exact(bu)
/-- A row of 2 numbers. -/
structure dF where
 a:Int
 b:Int
/-- A row lies in its cells; rows lie one behind the other; a slice's value holds rows. -/
def dh(W:World)(g o:Nat)(x:dF):Prop:=W.cell? ⟨g,o,none⟩=some (.int .i64 x.a)∧W.cell? ⟨g,o+1,none⟩=some (.int .i64 x.b)
def gY(W:World)(g o:Nat)(xs:List dF):Prop:=∀i x,xs[i]? =some x→dh W g (o+i*2) x
def jx(W:World)(a:Option Addr)(len:Nat)(xs:List dF):Prop:=xs.length=len∧len≤maxLen∧(len=0∨∃g o,a=some ⟨g,o,none⟩∧gY W g o xs)
theorem dh.lt{W:World}{g o:Nat}{x:dF}(h:dh W g o x):g<W.heap.size:=by
 obtain⟨h0,_⟩:=h
 rcases Nat.lt_or_ge g W.heap.size with hl|hg
 ·exact hl
 ·simp[World.cell?,Array.getElem?_eq_none hg]at h0
theorem gY.lt{W:World}{g o:Nat}{xs:List dF}(h:gY W g o xs)(hp:0<xs.length):g<W.heap.size:=(h 0 xs[0] (List.getElem?_eq_getElem hp)).lt
theorem dh.below{W W':World}{B g o:Nat}{x:dF}(h:dh W g o x)(hb:Below B W W')(hg:g<B):dh W' g o x:=by
 obtain⟨h0,h1⟩:=h
 exact⟨(hb.cell (p:=⟨g,_,none⟩) hg).trans h0,(hb.cell (p:=⟨g,_,none⟩) hg).trans h1⟩
theorem gY.below{W W':World}{B g o:Nat}{xs:List dF}(h:gY W g o xs)(hb:Below B W W')(hg:0<xs.length→g<B):gY W' g o xs:=by
 intro i x hx
 have hlt:i<xs.length:=(List.getElem?_eq_some_iff.1 hx).1
 exact(h i x hx).below hb (hg (by omega))
theorem jx.below{W W':World}{a:Option Addr}{len:Nat}{xs:List dF}(h:jx W a len xs)(hb:Below W.heap.size W W'):jx W' a len xs:=by
 obtain⟨h1,h2,h3⟩:=h
 refine⟨h1,h2,?_⟩
 rcases h3 with h3|⟨g,o,ha,hr⟩
 ·exact Or.inl h3
 ·exact Or.inr ⟨g,o,ha,hr.below hb (fun hp=>hr.lt hp)⟩
theorem dh.grown{W W':World}{row:Option Nat}{g o:Nat}{x:dF}(h:dh W g o x)(hg:W.grownBy W' row)(hne:some g≠row):dh W' g o x:=by
 have hbk:=hg.block g h.lt hne
 obtain⟨h0,h1⟩:=h
 exact⟨(World.cell?_of_block (w:=W) hbk).trans h0,(World.cell?_of_block (w:=W) hbk).trans h1⟩
theorem jx.grown{W W':World}{row:Option Nat}{a:Option Addr}{n:Nat}{xs:List dF}(h:jx W a n xs)(hg:W.grownBy W' row)(hne:∀g o,0<n→a=some ⟨g,o,none⟩→some g≠row):jx W' a n xs:=by
 obtain⟨h1,h2,h3⟩:=h
 refine⟨h1,h2,?_⟩
 rcases h3 with h3|⟨g,o,ha,hr⟩
 ·exact Or.inl h3
 ·refine Or.inr ⟨g,o,ha,fun i x hx=>(hr i x hx).grown hg (hne g o ?_ ha)⟩
  have hlt:i<xs.length:=(List.getElem?_eq_some_iff.1 hx).1
  omega
theorem jx.lt{W:World}{g o n:Nat}{xs:List dF}(h:jx W (some ⟨g,o,none⟩) n xs)(hp:0<n):g<W.heap.size:=by
 obtain⟨h1,h2,h3⟩:=h
 obtain⟨g',o',ha,hr⟩:=h3.resolve_left (by omega)
 simp at ha
 have:=hr.lt (by omega)
 omega
/-- A row is stored; a block of rows, known whole. -/
def setWn(W:World)(g o:Nat)(x:dF):World:=((W.setCell ⟨g,o,none⟩ (.int .i64 x.a)).setCell ⟨g,o+1,none⟩ (.int .i64 x.b))
def dG(W:World)(g ty len:Nat):Prop:=∃cur,W.heap[g]? =some (.cells cur ty (0,0))∧cur.size=len*2
theorem dG.set{W:World}{g ty len i:Nat}(h:dG W g ty len)(v:Value):dG (W.setCell ⟨g,i,none⟩ v) g ty len:=by
 obtain⟨cur,h1,h2⟩:=h
 exact⟨_,Joins.block_setCell h1 v,by simp[h2]⟩
theorem dG.below{W W':World}{g ty len B:Nat}(h:dG W g ty len)(hb:Below B W W')(hg:g<B):dG W' g ty len:=by
 obtain⟨cur,h1,h2⟩:=h
 exact⟨cur,(hb.block g hg).trans h1,h2⟩
theorem dG.lt{W:World}{g ty len:Nat}(h:dG W g ty len):g<W.heap.size:=by
 obtain⟨cur,h1,h2⟩:=h
 exact(Array.getElem?_eq_some_iff.1 h1).1
theorem dG.cell{W:World}{g ty len i:Nat}(h:dG W g ty len)(hi:i<len*2):∃u,W.cell? ⟨g,i,none⟩=some u:=by
 obtain⟨cur,h1,h2⟩:=h
 exact⟨_,(cA h1 i).trans (Array.getElem?_eq_getElem (by omega))⟩
theorem dG.frozen{W:World}{g ty len i:Nat}(h:dG W g ty len):W.frozen? ⟨g,i,none⟩=false:=by
 obtain⟨cur,h1,h2⟩:=h
 exact Joins.unfrozen_of_block h1 i
theorem dG.cells{W:World}{g ty len k:Nat}(h:dG W g ty len)(hk:k<len):(∃u,W.cell? ⟨g,k*2,none⟩=some u)∧(∃u,W.cell? ⟨g,k*2+1,none⟩=some u):=⟨h.cell (by omega),h.cell (by omega)⟩
theorem dG.sets{W:World}{g ty len o:Nat}(h:dG W g ty len)(x:dF):dG (setWn W g o x) g ty len:=((h.set _).set _)
/-- The cells of rows; a slice of the call's own that holds rows. -/
def dF.cells(x:dF):List Value:=[.int .i64 x.a,.int .i64 x.b]
def ew(xs:List dF):List Value:=xs.flatMap dF.cells
theorem flatWn_snoc(xs:List dF)(x:dF):ew (xs++[x])=ew xs++x.cells:=by simp[ew]
theorem flatWn_get{xs:List dF}{i:Nat}{x:dF}(h:xs[i]? =some x):(ew xs)[i*2]? =some (.int .i64 x.a)∧(ew xs)[i*2+1]? =some (.int .i64 x.b):=by
 induction xs generalizing i with
 |nil=>simp at h
 |cons y r ih=>
  have hf:ew (y :: r)=y.cells++ew r:=rfl
  cases i with
  |zero=>
   simp at h
   subst h
   rw[hf]
   exact⟨rfl,rfl⟩
  |succ i=>
   simp at h
   obtain⟨h0,h1⟩:=ih h
   have hl:y.cells.length=2:=rfl
   rw[hf]
   refine⟨?_,?_⟩
   ·rw[List.getElem?_append_right (by omega),hl,show(i+1)*2 - 2=i*2 by omega];exact h0
   ·rw[List.getElem?_append_right (by omega),hl,show(i+1)*2+1 - 2=i*2+1 by omega];exact h1
def ed(W:World)(B:Nat)(v:Value)(ys:List dF):Prop:=W.ownsRow B 38 2 v ys.length (ew ys)
theorem ownWn_ge{W:World}{B:Nat}{v:Value}{ys:List dF}(h:ed W B v ys):∀k,v.ownBlock=some k→B≤k:=by
 intro k hk
 rcases h.2 with⟨rfl,_⟩|⟨g,cap,cur,rfl,hg,_⟩
 ·cases hk
 ·simp[Value.ownBlock]at hk;omega
theorem ownWn_snoc{w1:World}{B:Nat}{v':Value}{ys:List dF}{x:dF}(ho:w1.ownsRow B 38 2 v' (ys.length+1) (ew ys++x.cells)):ed w1 B v' (ys++[x]):=by
 unfold ed
 rw[flatWn_snoc]
 simpa using ho
theorem cells_newWn(w:World)(a b:Int)(ty:Nat):∀j u,([.int .i64 a,.int .i64 b]:List Value)[j]? =some u→(w.alloc (.cells #[.int .i64 a,.int .i64 b] ty)).cell? ((⟨w.heap.size,0,none⟩:Addr).add j)=some u:=by
 intro j u hj
 have e:((⟨w.heap.size,0,none⟩:Addr).add j)=⟨w.heap.size,j,none⟩:=by
  unfold Addr.add
  split
  ·rename_i h0;rw[h0]
  ·simp
 rw[e]
 simpa[go_sem]using hj
def markWn(i:Nat):dF:=⟨1+2*(i:Int),1+2*(i:Int)+1⟩
def WrWn(W:World)(a:Option Addr)(n cap:Nat):Prop:=n=0∨∃g,a=some ⟨g,0,none⟩∧dG W g 38 cap∧n≤cap
def iY(W:World)(a:Option Addr)(n:Nat):Prop:=n=0∨∃g,a=some ⟨g,0,none⟩∧∀i,i<n→dh W g (i*2) (markWn i)
theorem grown0Wn{W W':World}(h:Below W.heap.size W W'):W.grownBy W' none:=⟨h.os,h.tape,h.output,h.size,fun k hk _=>h.block k hk⟩
theorem iY.below{W W':World}{a:Option Addr}{n:Nat}(h:iY W a n)(hb:Below W.heap.size W W'):iY W' a n:=by
 rcases h with h|⟨g,ha,hM⟩
 ·exact Or.inl h
 ·exact Or.inr ⟨g,ha,fun i hi=>(hM i hi).below hb (hM i hi).lt⟩
theorem holdWn{W:World}{B:Nat}{v:Value}{ys:List dF}(h:ed W B v ys)(hl:ys.length≤1048576):
  ∃a cap,v= .slice a ys.length cap∧jx W a ys.length ys∧WrWn W a ys.length cap∧∀g o,0<ys.length→a=some ⟨g,o,none⟩→B≤g:=by
 have hm:ys.length≤maxLen:=by unfold maxLen;omega
 obtain⟨hlen,h|⟨g,cap,cur,rfl,hB,hblk,hnc,hcm,hsz,htk⟩⟩:=h
 ·obtain⟨rfl,h0⟩:=h
  rw[h0]
  exact⟨none,0,rfl,⟨h0,Nat.zero_le _,Or.inl rfl⟩,Or.inl rfl,fun _ _ hp=>by omega⟩
 ·refine⟨_,cap,rfl,⟨rfl,hm,Or.inr ⟨g,0,rfl,?_⟩⟩,Or.inr ⟨g,rfl,⟨cur,hblk,hsz⟩,hnc⟩,fun g' o' _ e=>by simp at e;omega⟩
  intro i x hx
  have hi:i<ys.length:=(List.getElem?_eq_some_iff.1 hx).1
  have hcell:∀j u,j<ys.length*2→(ew ys)[j]? =some u→W.cell? ⟨g,j,none⟩=some u:=by
   intro j u hj hu
   rw[cA hblk j,←Array.getElem?_toList]
   rw[←htk,List.getElem?_take_of_lt hj]at hu
   exact hu
  obtain⟨f0,f1⟩:=flatWn_get hx
  rw[Nat.zero_add]
  exact⟨hcell _ _ (by omega) f0,hcell _ _ (by omega) f1⟩
theorem WrWn.below{W W':World}{a:Option Addr}{n cap:Nat}(h:WrWn W a n cap)(hb:Below W.heap.size W W'):WrWn W' a n cap:=by
 rcases h with h|⟨g,ha,hB,hc⟩
 ·exact Or.inl h
 ·exact Or.inr ⟨g,ha,hB.below hb hB.lt,hc⟩
theorem WrWn.grown{W W':World}{row:Option Nat}{a:Option Addr}{n cap:Nat}(h:WrWn W a n cap)(hg:W.grownBy W' row)(hne:∀g o,0<n→a=some ⟨g,o,none⟩→some g≠row):WrWn W' a n cap:=by
 rcases h with h|⟨g,ha,hB,hc⟩
 ·exact Or.inl h
 ·by_cases h0:n=0
  ·exact Or.inl h0
  ·obtain⟨cur,c1,c2⟩:=hB
   exact Or.inr ⟨g,ha,⟨cur,(hg.block g (Array.getElem?_eq_some_iff.1 c1).1 (hne g 0 (by omega) ha)).trans c1,c2⟩,hc⟩
set_option linter.unusedSimpArgs false
abbrev A4:=Int×Int×Int×Int
def gE(g:A4)(v:Int):A4:=(bo g.1 1 g.1 1 (wrap64 (g.1+1)),bo g.1 1 g.2.1 v (wrap64 (g.2.1+v)),bo g.1 1 g.2.2.1 v (loI g.2.2.1 v),bo g.1 1 g.2.2.2 v (jE g.2.2.2 v))
def bothA(g h:A4):A4:=(bo g.1 h.1 g.1 h.1 (wrap64 (g.1+h.1)),bo g.1 h.1 g.2.1 h.2.1 (wrap64 (g.2.1+h.2.1)),bo g.1 h.1 g.2.2.1 h.2.2.1 (loI g.2.2.1 h.2.2.1),bo g.1 h.1 g.2.2.2 h.2.2.2 (jE g.2.2.2 h.2.2.2))
def allA(x:aD):A4:=(x.an,x.asu,x.ale,x.amo)
def frA(x:aD):A4:=(x.fn,x.fsu,x.fle,x.fmo)
/-- A row that knows of one value more; a new row; the row of no window. -/
def knowX(x:aD)(v:Int):aD:=⟨x.ky,x.st,x.en,(gE (allA x) v).1,(gE (allA x) v).2.1,(gE (allA x) v).2.2.1,(gE (allA x) v).2.2.2,(gE (frA x) v).1,(gE (frA x) v).2.1,(gE (frA x) v).2.2.1,(gE (frA x) v).2.2.2,x.td,x.tm⟩
def newX(q:P3)(g:A4):aD:=⟨q.1,q.2.1,q.2.2,g.1,g.2.1,g.2.2.1,g.2.2.2,g.1,g.2.1,g.2.2.1,g.2.2.2,0,false⟩
def zerO(q:P3):aD:=⟨q.1,q.2.1,q.2.2,0,0,0,0,0,0,0,0,0,false⟩
instance decPl (a b:P3):Decidable (ca a b):=by unfold ca;infer_instance
abbrev gF(xs:List aD):Prop:=xs.Pairwise (fun x y=>ca (bj x) (bj y))
def eG(r:aD):List aD→List aD
 | []=>[r]
 |x :: xs=>if ca (bj r) (bj x)then r :: x :: xs else x :: eG r xs
def eU(q:P3)(xs:List aD):List aD:=xs.filter (fun x=> !decide (bj x=q))
def di(r:aD)(xs:List aD):List aD:=eG r (eU (bj r) xs)
def iZ(q:P3)(xs:List aD):Option aD:=xs.find? (fun x=>decide (bj x=q))
/-- The row of a place that knows of one value more. -/
def eV(q:P3)(v:Int)(xs:List aD):aD:=knowX ((iZ q xs).getD (zerO q)) v
def gTx(m:Int)(x:aD):aD:=if bU m x=true then ce x else x
def fu(pc:Bool)(m:Int)(xs:List aD)(r:aD):List aD×List cN:=if m<r.en then(di r xs,[])else(di (ce r) xs,[dB pc r])
theorem gTx_pl(m:Int)(x:aD):bj (gTx m x)=bj x:=by unfold gTx;split<;>rfl
theorem iE{q:P3}{xs:List aD}{x:aD}(h:iZ q xs=some x):bj x=q∧x ∈ xs:=⟨by simpa using List.find?_some h,List.mem_of_find?_eq_some h⟩
theorem nexO_pl(q:P3)(v:Int)(xs:List aD):bj (eV q v xs)=q:=by
 unfold eV
 cases h:iZ q xs with
 |none=>rfl
 |some x=>exact(iE h).1
theorem insO_map{f:aD→aD}(hf:∀x,bj (f x)=bj x)(r:aD):∀xs:List aD,(eG r xs).map f=eG (f r) (xs.map f)
 | []=>rfl
 |x :: xs=>by
  simp only[eG,List.map_cons,hf]
  by_cases h:ca (bj r) (bj x)
  ·rw[if_pos h,if_pos h];rfl
  ·rw[if_neg h,if_neg h,List.map_cons,insO_map hf r xs]
theorem offO_map{f:aD→aD}(hf:∀x,bj (f x)=bj x)(q:P3)(xs:List aD):(eU q xs).map f=eU q (xs.map f):=by
 unfold eU
 rw[List.filter_map]
 congr 1
 refine List.filter_congr (fun x _=>?_)
 simp only[Function.comp,hf]
theorem putO_map{f:aD→aD}(hf:∀x,bj (f x)=bj x)(r:aD)(xs:List aD):(di r xs).map f=di (f r) (xs.map f):=by
 unfold di
 rw[insO_map hf,offO_map hf,hf]
theorem i5{r:aD}:∀ {xs:List aD} {y:aD},y ∈ eG r xs↔y=r∨y ∈ xs
 | [],y=>by simp[eG]
 |x :: xs,y=>by
  unfold eG
  split
  ·simp
  ·rw[List.mem_cons,i5,List.mem_cons]
   constructor
   ·rintro (h|h|h)<;>simp[h]
   ·rintro (h|h|h)<;>simp[h]
theorem i6{q:P3}{xs:List aD}{y:aD}:y ∈ eU q xs↔y ∈ xs∧¬ bj y=q:=by
 unfold eU
 rw[List.mem_filter]
 simp
theorem gG{r:aD}{xs:List aD}{y:aD}:y ∈ di r xs↔y=r∨(y ∈ xs∧¬ bj y=bj r):=by
 unfold di
 rw[i5,i6]
theorem jP{r:aD}:∀ {xs:List aD},gF xs→(∀x ∈ xs,¬ bj x=bj r)→gF (eG r xs)
 | [],_,_=>by simp[eG,gF]
 |x :: xs,h,hn=>by
  have hc:=List.pairwise_cons.1 h
  unfold eG
  split
  ·rename_i hl
   refine List.pairwise_cons.2 ⟨fun y hy=>?_,h⟩
   rcases List.mem_cons.1 hy with rfl|hy
   ·exact hl
   ·exact dV hl (hc.1 y hy)
  ·rename_i hl
   refine List.pairwise_cons.2 ⟨fun y hy=>?_,jP hc.2 (fun z hz=>hn z (List.mem_cons_of_mem _ hz))⟩
   rcases i5.1 hy with rfl|hy
   ·rcases iT (bj x) (bj y)with h9|h9|h9
    ·exact h9
    ·exact absurd h9 (hn x (by simp))
    ·exact absurd h9 hl
   ·exact hc.1 y hy
theorem jQ{r:aD}{xs:List aD}(h:gF xs):gF (di r xs):=jP (h.sublist List.filter_sublist) (fun x hx=>(i6.1 hx).2)
theorem putO_len(r:aD)(xs:List aD):(di r xs).length≤xs.length+1:=by
 have h1:∀ys:List aD,(eG r ys).length=ys.length+1:=by
  intro ys
  induction ys with
  |nil=>rfl
  |cons y ys ih=>unfold eG;split<;>simp[ih]
 unfold di
 rw[h1]
 have:=List.length_filter_le (fun x:aD=> !decide (bj x=bj r)) xs
 unfold eU
 omega
/-- What is picked behind a put row, where all that was picked lies ahead of it. -/
theorem ei{p:aD→Bool}{r:aD}(hr:p r=true):∀ {xs:List aD},gF xs→(∀x ∈ xs,p x=true→ca (bj x) (bj r))→(eG r xs).filter p=xs.filter p++[r]
 | [],_,_=>by simp[eG,hr]
 |x :: xs,h,hp=>by
  have hc:=List.pairwise_cons.1 h
  unfold eG
  split
  ·rename_i hl
   have hno:∀y ∈ x :: xs,p y=false:=by
    intro y hy
    cases hy9:p y with
    |false=>rfl
    |true=>
     have h1:=hp y hy hy9
     have h2:ca (bj r) (bj y):=by
      rcases List.mem_cons.1 hy with rfl|hy
      ·exact hl
      ·exact dV hl (hc.1 y hy)
     exact absurd (dV h1 h2) (cx _)
   have h0:(x :: xs).filter p=[]:=List.filter_eq_nil_iff.2 (fun y hy=>by rw[hno y hy];simp)
   rw[List.filter_cons,if_pos hr,h0]
   rfl
  ·rw[List.filter_cons,List.filter_cons,ei hr hc.2 (fun y hy=>hp y (List.mem_cons_of_mem _ hy))]
   split<;>rfl
theorem fE{p:aD→Bool}{r:aD}(hr:p r=false):∀ {xs:List aD},(eG r xs).filter p=xs.filter p
 | []=>by simp[eG,hr]
 |x :: xs=>by
  unfold eG
  split
  ·rw[List.filter_cons (x:=r),if_neg (by rw[hr];simp)]
  ·rw[List.filter_cons,List.filter_cons,fE hr]
theorem i7{p:aD→Bool}{q:P3}{xs:List aD}(h:∀x ∈ xs,bj x=q→p x=false):(eU q xs).filter p=xs.filter p:=by
 unfold eU
 rw[List.filter_filter]
 refine List.filter_congr (fun x hx=>?_)
 by_cases h9:bj x=q
 ·simp[h x hx h9]
 ·simp[h9]
/-- How a row is told behind one value more. -/
theorem know_fn{x:aD}{v:Int}(h:0≤x.fn∧x.fn≤1000000):0<(knowX x v).fn:=by
 show 0<bo x.fn 1 x.fn 1 (wrap64 (x.fn+1))
 unfold bo
 split
 ·decide
 ·have:wrap64 (x.fn+1)=x.fn+1:=by unfold wrap64;omega
  simp[this]
  omega
theorem tel_know{m:Int}{x:aD}{v:Int}(h:0≤x.fn∧x.fn≤1000000):bU m (knowX x v)=decide (x.en≤m):=by
 unfold bU
 have:=know_fn (v:=v) h
 simp[this]
 rfl
structure TkI(pc:Bool)(m:Int)(xs ys:List aD)(ps:List cN)(q:P3):Prop where
 rows:xs=ys.map (gTx m)
 pans:ps=(ys.filter (bU m)).map (dB pc)
 rise:gF ys
 ahead:∀y ∈ ys,bU m y=true→ca (bj y) q
 fresh:∀y ∈ ys,¬ ca (bj y) q→0≤y.fn∧y.fn≤1000000
theorem TkI.same{pc:Bool}{m:Int}{xs ys:List aD}{ps:List cN}{q:P3}(h:TkI pc m xs ys ps q):iZ q xs=iZ q ys:=by
 rw[h.rows]
 unfold iZ
 rw[List.find?_map]
 have e1:((fun x:aD=>decide (bj x=q))∘gTx m)=fun x=>decide (bj x=q):=by funext x;simp only[Function.comp,gTx_pl]
 rw[e1]
 cases hf:ys.find? (fun x=>decide (bj x=q))with
 |none=>rfl
 |some y=>
  have hy:bj y=q:=by simpa using List.find?_some hf
  have hm:y ∈ ys:=List.mem_of_find?_eq_some hf
  show some (gTx m y)=some y
  congr 1
  unfold gTx
  rw[if_neg]
  intro h9
  have:=h.ahead y hm h9
  rw[hy]at this
  exact cx _ this
/-- A row more: the specification tells of it at once, the program behind all of them. -/
theorem TkI.put{pc:Bool}{m:Int}{xs ys:List aD}{ps:List cN}{q:P3}(h:TkI pc m xs ys ps q){r:aD}(hp:bj r=q)(htel:bU m r=decide (r.en≤m)){q':P3}(hq:ca q q'):
  TkI pc m (fu pc m xs r).1 (di r ys) (ps++(fu pc m xs r).2) q':=by
 have hno:∀y ∈ ys,bj y=q→bU m y=false:=by
  intro y hy h9
  cases h8:bU m y with
  |false=>rfl
  |true=>
   have:=h.ahead y hy h8
   rw[h9]at this
   exact absurd this (cx _)
 have hrise:gF (eU q ys):=h.rise.sublist List.filter_sublist
 have hah:∀y ∈ eU q ys,bU m y=true→ca (bj y) (bj r):=fun y hy h9=>by rw[hp];exact h.ahead y (i6.1 hy).1 h9
 have hfr:∀y ∈ di r ys,¬ ca (bj y) q'→0≤y.fn∧y.fn≤1000000:=by
  intro y hy h9
  rcases gG.1 hy with rfl|⟨hy,_⟩
  ·rw[hp]at h9
   exact absurd hq h9
  ·exact h.fresh y hy (fun h8=>h9 (dV h8 hq))
 have hah2:∀y ∈ di r ys,bU m y=true→ca (bj y) q':=by
  intro y hy h9
  rcases gG.1 hy with rfl|⟨hy,_⟩
  ·rw[hp];exact hq
  ·exact dV (h.ahead y hy h9) hq
 by_cases hm:m<r.en
 ·have ht:bU m r=false:=by rw[htel];simp;omega
  have e1:fu pc m xs r=(di r xs,[]):=by unfold fu;rw[if_pos hm]
  rw[e1]
  refine⟨?_,?_,jQ h.rise,hah2,hfr⟩
  ·rw[putO_map (gTx_pl m),←h.rows]
   have:gTx m r=r:=by unfold gTx;rw[if_neg (by rw[ht];simp)]
   rw[this]
  ·show ps++[]=_
   rw[List.append_nil,h.pans]
   unfold di
   rw[fE ht,hp,i7 hno]
 ·have ht:bU m r=true:=by rw[htel];simp;omega
  have e1:fu pc m xs r=(di (ce r) xs,[dB pc r]):=by unfold fu;rw[if_neg hm]
  rw[e1]
  refine⟨?_,?_,jQ h.rise,hah2,hfr⟩
  ·rw[putO_map (gTx_pl m),←h.rows]
   have:gTx m r=ce r:=by unfold gTx;rw[if_pos ht]
   rw[this]
  ·show ps++[dB pc r]=_
   rw[h.pans]
   unfold di
   rw[hp,ei ht hrise hah,i7 hno,List.map_append]
   rfl
theorem TkI.step{pc:Bool}{m:Int}{xs ys:List aD}{ps:List cN}{q:P3}(h:TkI pc m xs ys ps q)(v:Int){q':P3}(hq:ca q q'):
  TkI pc m (fu pc m xs (eV q v xs)).1 (di (eV q v ys) ys) (ps++(fu pc m xs (eV q v xs)).2) q':=by
 have hs:eV q v xs=eV q v ys:=by unfold eV;rw[h.same]
 rw[hs]
 refine h.put (nexO_pl q v ys) ?_ hq
 unfold eV
 cases hf:iZ q ys with
 |none=>exact tel_know ⟨(show(0:Int)≤0 by decide),(show(0:Int)≤1000000 by decide)⟩
 |some y=>
  have:=iE hf
  exact tel_know (h.fresh y this.2 (by rw[this.1];exact cx _))
theorem TkI.start{pc:Bool}{l m:Int}{xs:List aD}(h:gF xs)(hok:∀x ∈ xs,x.okB l m=true)(hf:∀x ∈ xs,x.fn≤1000000)(q:P3):TkI pc m xs xs [] q:=by
 have hno:∀x ∈ xs,bU m x=false:=fun x hx=>tel_no (hok x hx)
 refine⟨?_,?_,h,(fun y hy h9=>by rw[hno y hy]at h9;cases h9),fun y hy _=>⟨(dl (hok y hy)).2.2.1,hf y hy⟩⟩
 ·have:xs.map (gTx m)=xs.map id:=List.map_congr_left (fun x hx=>by unfold gTx;rw[if_neg (by rw[hno x hx];simp)];rfl)
  rw[this,List.map_id]
 ·rw[List.filter_eq_nil_iff.2 (fun y hy=>by rw[hno y hy];simp)]
  rfl
/-- The specification: into a window that does not grow; into a session; all windows of a record, one behind the other. -/
def iF(pc:Bool)(l m:Int)(xs:List aD)(ky v st en:Int):List aD×List cN×Bool:=if en+l≤m then(xs,[],false)else((fu pc m xs (eV (ky,st,en) v xs)).1,(fu pc m xs (eV (ky,st,en) v xs)).2,true)
def dY(ky st en:Int)(x:aD):Bool:=decide (x.ky=ky)&&bh x.st x.en st en
def jy(st en:Int)(old:List aD):Int×Int:=old.foldl (fun p x=>(loI p.1 x.st,jE p.2 x.en)) (st,en)
def kD(v:Int)(old:List aD):A4:=old.foldl (fun g x=>bothA g (allA x)) (gE (0,0,0,0) v)
def gonX(x:aD):cN:=⟨x.ky,x.st,x.en,x.td,3,0,0,0,0⟩
def ee(old:List aD):List cN:=(old.filter (fun x=>decide (0<x.td))).map gonX
/-- One row alone that is as wide as all of it. -/
def kE(sp:Int×Int)(old:List aD):Bool:=match old with
 | [x]=>decide (x.st=sp.1)&&decide (x.en=sp.2)
 |_=>false
def seF(pc:Bool)(l m:Int)(xs:List aD)(ky v st en:Int):List aD×List cN×Bool:=
 let old:=xs.filter (dY ky st en)
 let sp:=jy st en old
 if sp.2+l≤m then(xs,[],false)
 else if kE sp old=true then iF pc l m xs ky v sp.1 sp.2
 else((fu pc m (xs.filter (fun x=> !dY ky st en x)) (newX (ky,sp.1,sp.2) (kD v old))).1,ee old++(fu pc m (xs.filter (fun x=> !dY ky st en x)) (newX (ky,sp.1,sp.2) (kD v old))).2,true)
def ey(ses pc:Bool)(l m ky v:Int)(a:List aD×List cN×List dF)(w:dF):List aD×List cN×List dF:=
 let r:=if ses=true then seF pc l m a.1 ky v w.a w.b else iF pc l m a.1 ky v w.a w.b
 (r.1,a.2.1++r.2.1,if r.2.2=true then a.2.2 else a.2.2++[w])
def dL(ses pc:Bool)(l m ky v:Int)(xs:List aD)(ws:List dF):List aD×List cN×List dF:=ws.foldl (ey ses pc l m ky v) (xs,[],[])
theorem iG:∀(l:List Bool) (i:Nat),l[i]? =some false→(l.set i true).count false+1=l.count false
 | [],i,h=>by simp at h
 |b :: l,0,h=>by
  simp at h
  subst h
  simp
 |b :: l,i+1,h=>by
  have h1:=iG l i (by simpa using h)
  simp only[List.set_cons_succ,List.count_cons]
  omega
theorem cnt_zero{l:List Bool}(h:l.count false=0){i:Nat}(hi:l[i]? =some false):False:=by
 have:=iG l i hi
 omega
/-- All that a region's operations wait for stands ahead of them. -/
def fm:Nat→List Oper→Bool
 |_,[]=>true
 |k,o :: os=>o.after.all (fun e=> !Region.binds .any e||decide (e.on<k))&&fm (k+1) os
theorem fF:∀(l:List Oper) (k:Nat),fm k l=true→∀(i:Nat) (o:Oper),l[i]? =some o→∀e ∈ o.after,Region.binds .any e=true→e.on<k+i
 | [],k,_,i,o,h=>by simp at h
 |x :: l,k,hw,0,o,h=>by
  simp only[fm,Bool.and_eq_true]at hw
  simp at h
  subst h
  intro e he hb
  have:=Array.all_eq_true_iff_forall_mem.1 hw.1 e he
  rw[hb]at this
  simpa using this
 |x :: l,k,hw,i+1,o,h=>by
  simp only[fm,Bool.and_eq_true]at hw
  intro e he hb
  have:=fF l (k+1) hw.2 i o (by simpa using h) e he hb
  omega
/-- For each operation, with its number. -/
def kF(F:Nat→Oper→Prop):Nat→List Oper→Prop
 |_,[]=>True
 |k,o :: os=>F k o∧kF F (k+1) os
theorem hG{F:Nat→Oper→Prop}:∀(l:List Oper) (k:Nat),kF F k l→∀(i:Nat) (o:Oper),l[i]? =some o→F (k+i) o
 | [],k,_,i,o,h=>by simp at h
 |x :: l,k,hF,0,o,h=>by
  simp at h
  subst h
  exact hF.1
 |x :: l,k,hF,i+1,o,h=>by
  have:=hG l (k+1) hF.2 i o (by simpa using h)
  rw[Nat.add_assoc,Nat.add_comm 1 i]at this
  exact this
/-- What is done, and one more. -/
def more(L:Nat→Bool)(i:Nat):Nat→Bool:=fun j=>if j=i then true else L j
theorem mO{L:Nat→Bool}{i j:Nat}{v:Bool}{p:Prop}(h:L j=v→p)(hn:decide (j=i)=false:=by decide):more L i j=v→p:=fun h9=>h (by unfold more at h9;rw[if_neg (of_decide_eq_false hn)]at h9;exact h9)
theorem mP{L:Nat→Bool}{i j:Nat}{v:Bool}(h9:more L i j=v)(hn:decide (j=i)=false:=by decide):L j=v:=by unfold more at h9;rw[if_neg (of_decide_eq_false hn)]at h9;exact h9
theorem eb(L:Nat→Bool)(i:Nat):more L i i=true:=by simp[more]
theorem dZ{L:Nat→Bool}{i j:Nat}(h:j≠i):more L i j=L j:=by simp[more,h]
section
variable {P : Program} {ops : List Oper} {Q : Exit → Act → World → Prop}
/-- One operation keeps the invariant, whenever it comes. -/
def Keeps1(P:Program)(ops:List Oper)(Q:Exit→Act→World→Prop)(I:(Nat→Bool)→Act→World→Prop)(i:Nat)(o:Oper):Prop:=∀(L:Nat→Bool) (a:Act) (w:World),I L a w→L i=false→(∀e ∈ o.after,Region.binds .any e=true→L e.on=true)→∀K':Act→World→Prop,Shut (∀a' w',I (more L i) a' w'→K' a' w')→if Region.wanted o (yielded ops.toArray a.tmps)=true then Oper.wp P o a w K' Q else K' (a.put o.dst undef) w
theorem jR(I:(Nat→Bool)→Act→World→Prop)(step:∀i o,ops[i]? =some o→Keeps1 P ops Q I i o)(fin:∀L a w,I L a w→(∀i,i<ops.length→L i=true)→Q .normal a w)(hw:fm 0 ops=true):
  ∀(fuel:Nat) (l:Array Bool) (L:Nat→Bool) (a:Act) (w:World),l.size=ops.length→(∀i,i<ops.length→l[i]? =some (L i))→l.toList.count false≤fuel→I L a w→wpAny P .any ops.toArray Q fuel l a w:=by
 have key:∀(l:Array Bool) (L:Nat→Bool),l.size=ops.length→(∀i,i<ops.length→l[i]? =some (L i))→Region.ready .any ops.toArray l=[]→∀i,i<ops.length→L i=true:=by
  intro l L hs hL hr i
  induction i using Nat.strongRecOn with
  |_ i ih=>
   intro hi
   cases hb:L i with
   |true=>rfl
   |false=>
    have hm:i ∈ Region.ready .any ops.toArray l:=by
     refine mem_ready.2 ⟨?_,ops[i],?_,fun e he hb'=>?_⟩
     ·rw[Array.getD_eq_getD_getElem?,hL i hi,hb];rfl
     ·simp[hi]
     ·have hlt:=fF ops 0 hw i ops[i] (by simp[hi]) e he hb'
      rw[Nat.zero_add]at hlt
      rw[Array.getD_eq_getD_getElem?,hL e.on (by omega),ih e.on hlt (by omega)]
      rfl
    rw[hr]at hm
    cases hm
 intro fuel
 induction fuel with
 |zero=>
  intro l L a w hs hL hc hI
  have hr:Region.ready .any ops.toArray l=[]:=by
   cases hx:Region.ready .any ops.toArray l with
   |nil=>rfl
   |cons i rs=>
    have hm:i ∈ Region.ready .any ops.toArray l:=by rw[hx];exact List.mem_cons_self
    obtain⟨h1,o,ho,_⟩:=mem_ready.1 hm
    have hi:i<ops.length:=by simpa using(Array.getElem?_eq_some_iff.1 ho).1
    rw[Array.getD_eq_getD_getElem?,hL i hi]at h1
    exact absurd (cnt_zero (i:=i) (Nat.le_zero.1 hc) (by rw[Array.getElem?_toList,hL i hi];simpa using h1)) (fun h=>h)
  exact⟨hr,fin L a w hI (key l L hs hL hr)⟩
 |succ fuel ih=>
  intro l L a w hs hL hc hI
  refine⟨fun hr=>fin L a w hI (key l L hs hL hr),fun i hi=>?_⟩
  obtain⟨h1,o,ho,hall⟩:=mem_ready.1 hi
  have hlt:i<ops.length:=by simpa using(Array.getElem?_eq_some_iff.1 ho).1
  rw[Array.getD_eq_getD_getElem?,hL i hlt]at h1
  have hLi:L i=false:=by simpa using h1
  refine wpOp_step ho (fun K' hK=>?_)
  have hst:=step i o (by simpa using ho)
  refine hst L a w hI hLi (fun e he hb=>?_) K' (fun a' w' hI'=>hK a' w' ?_)
  ·have:=hall e he hb
   have hlt2:=fF ops 0 hw i o (by simpa using ho) e he hb
   rw[Nat.zero_add]at hlt2
   rw[Array.getD_eq_getD_getElem?,hL e.on (by omega)]at this
   simpa using this
  ·refine ih _ (more L i) a' w' (by simpa using hs) (fun j hj=>?_) ?_ hI'
   ·by_cases hji:j=i
    ·subst hji
     rw[eb,Array.getElem?_setIfInBounds]
     simp[hs,hlt]
    ·rw[dZ hji,Array.getElem?_setIfInBounds,if_neg (fun e=>hji e.symm)]
     exact hL j hj
   ·have h9:=iG l.toList i (by rw[Array.getElem?_toList,hL i hlt,hLi])
    rw[Array.toList_setIfInBounds]
    omega
theorem wp_region_inv{id:Nat}{a:Act}{w:World}(hm:P.follows .mixedOrders=true)(hw:fm 0 ops=true)(I:(Nat→Bool)→Act→World→Prop)(h0:I (fun _=>false) a w.drew)(step:kF (Keeps1 P ops Q I) 0 ops)(fin:∀L a w,I L a w→(∀i,i<ops.length→L i=true)→Q .normal a w):(Code.region id ops.toArray true).wp P Q a w:=by
 refine wp_region_any hm (jR I (fun i o ho=>by have:=hG ops 0 step i o ho;rw[Nat.zero_add]at this;exact this) fin hw ops.toArray.size _ (fun _=>false) a _ (by simp) (fun i hi=>by simp[hi]) ?_ h0)
 simp
/-- For each operation but the last; and for the last one. -/
def iH(F G:Nat→Oper→Prop):Nat→List Oper→Prop
 |_,[]=>True
 |k,[o]=>G k o
 |k,o :: o' :: os=>F k o∧iH F G (k+1) (o' :: os)
theorem gl{F G:Nat→Oper→Prop}:∀(l:List Oper) (k:Nat),iH F G k l→∀(i:Nat) (o:Oper),l[i]? =some o→(i+1<l.length→F (k+i) o)∧(i+1=l.length→G (k+i) o)
 | [],k,_,i,o,h=>by simp at h
 | [x],k,hF,0,o,h=>by
  simp at h
  subst h
  exact⟨fun h=>by simp at h,fun _=>hF⟩
 | [x],k,hF,i+1,o,h=>by simp at h
 |x :: y :: l,k,hF,0,o,h=>by
  simp at h
  subst h
  exact⟨fun _=>hF.1,fun h=>by simp at h⟩
 |x :: y :: l,k,hF,i+1,o,h=>by
  have h9:=gl (y :: l) (k+1) hF.2 i o (by simpa using h)
  rw[Nat.add_assoc,Nat.add_comm 1 i]at h9
  refine⟨fun hl=>h9.1 ?_,fun hl=>h9.2 ?_⟩
  ·simp at hl ⊢;omega
  ·simp at hl ⊢;omega
/-- The last operation fm for all others. -/
def fO(ops:List Oper):Bool:=match ops.getLast? with
 |none=>false
 |some o=>(List.range (ops.length - 1)).all (fun j=>o.after.any (fun e=>e.on==j&&Region.binds .any e))
/-- The last operation, when all others are done. -/
def Ends1(P:Program)(ops:List Oper)(Q:Exit→Act→World→Prop)(I:(Nat→Bool)→Act→World→Prop)(i:Nat)(o:Oper):Prop:=∀(L:Nat→Bool) (a:Act) (w:World),I L a w→(∀j,j<i→L j=true)→∀K':Act→World→Prop,Shut (∀a' w',Q .normal a' w'→K' a' w')→if Region.wanted o (yielded ops.toArray a.tmps)=true then Oper.wp P o a w K' Q else K' (a.put o.dst undef) w
theorem fG{id:Nat}{a:Act}{w:World}(hm:P.follows .mixedOrders=true)(hw:fm 0 ops=true)(hl:fO ops=true)(I:(Nat→Bool)→Act→World→Prop)(h0:I (fun _=>false) a w.drew)(step:iH (Keeps1 P ops Q I) (Ends1 P ops Q I) 0 ops):(Code.region id ops.toArray true).wp P Q a w:=by
 have hne:ops≠ []:=by
  intro h
  rw[h]at hl
  cases hl
 have hlen:0<ops.length:=List.length_pos_iff.2 hne
 obtain⟨lo,hlo⟩:∃lo,ops.getLast? =some lo:=⟨_,List.getLast?_eq_some_getLast hne⟩
 have hat:ops[ops.length - 1]? =some lo:=by rw[←List.getLast?_eq_getElem?];exact hlo
 unfold fO at hl
 rw[hlo]at hl
 have hedge:∀j,j<ops.length - 1→∃e ∈ lo.after,e.on=j∧Region.binds .any e=true:=by
  intro j hj
  have h1:=List.all_eq_true.1 hl j (List.mem_range.2 hj)
  simp at h1
  obtain⟨i,hi,h2,h3⟩:=h1
  exact⟨lo.after[i],Array.getElem_mem hi,h2,h3⟩
 refine wp_region_any hm (jR (fun L a w=>(L (ops.length - 1)=false∧I L a w)∨((∀j,j<ops.length→L j=true)∧Q .normal a w)) ?_ ?_ hw ops.toArray.size _ (fun _=>false) a _ (by simp) (fun i hi=>by simp[hi]) ?_ (Or.inl ⟨rfl,h0⟩))
 ·intro i o ho L a w hI hL hA K' hK
  have hi:i<ops.length:=(List.getElem?_eq_some_iff.1 ho).1
  rcases hI with⟨h1,hI⟩|⟨h1,_⟩
  ·have h9:=gl ops 0 step i o ho
   rw[Nat.zero_add]at h9
   by_cases hil:i+1=ops.length
   ·obtain rfl:o=lo:=by
     have:i=ops.length - 1:=by omega
     rw[this,hat]at ho
     exact(Option.some.inj ho).symm
    have hall:∀j,j<i→L j=true:=by
     intro j hj
     obtain⟨e,he,rfl,hb⟩:=hedge j (by omega)
     exact hA e he hb
    refine h9.2 hil L a w hI hall K' (fun a' w' hQ=>hK.out a' w' (Or.inr ⟨fun j hj=>?_,hQ⟩))
    by_cases hji:j=i
    ·subst hji;exact eb L j
    ·rw[dZ hji];exact hall j (by omega)
   ·refine h9.1 (by omega) L a w hI hL hA K' (fun a' w' hI'=>hK.out a' w' (Or.inl ⟨?_,hI'⟩))
    rw[dZ (by omega)]
    exact h1
  ·rw[h1 i hi]at hL
   cases hL
 ·intro L a w hI hall
  rcases hI with⟨h1,_⟩|⟨_,hQ⟩
  ·rw[hall (ops.length - 1) (by omega)]at h1
   cases h1
  ·exact hQ
 ·simp
theorem kG{Pd:Nat→Value→World→Prop}{V:Nat→Value}{L:Nat→Bool}{w w':World}{i:Nat}{v:Value}(h:∀j,L j=true→Pd j (V j) w)(hst:∀j u,Pd j u w→Pd j u w')(hv:Pd i v w'):∀j,more L i j=true→Pd j (if j=i then v else V j) w':=by
 intro j hj
 by_cases hji:j=i
 ·subst hji;rw[if_pos rfl];exact hv
 ·rw[if_neg hji];rw[dZ hji]at hj;exact hst j _ (h j hj)
end
end Go.Proofs.Ytdmhihcipkhecaa
