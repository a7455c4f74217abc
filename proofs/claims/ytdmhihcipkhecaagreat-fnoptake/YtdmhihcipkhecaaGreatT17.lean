/- Laid together: what the claim needs of the texts that were built one by one. -/
import Derived.Test.YtdmhihcipkhecaaGreatT7
import Derived.Test.YtdmhihcipkhecaaGreatT16
import Derived.OwnWalk
import Derived.Test.YtdmhihcipkhecaaGreatT5
import Derived.Deep.DeepCutAuto
import Derived.Test.YtdmhihcipkhecaaGreatT0
set_option linter.unusedVariables false
namespace Go.Proofs.YtdmhihcipkhecaaGreat
open Go.ChangeShapes Go.WideShapes Go.ChangeAt Go.RowKit Go.Shelf Go.Maps
set_option linter.unusedSimpArgs false
theorem dI{l mark:Int}{xs:List aC}{i:Nat}{x:aC}(h:xs[i]? =some x):bq l mark (xs.take (i+1))=if decide (mark<(ie mark x).en+l)=true then bq l mark (xs.take i)++[ie mark x]else bq l mark (xs.take i):=by
 unfold bq
 rw[List.take_add_one,h,List.map_append,List.filter_append]
 simp only[Option.toList,List.map_cons,List.map_nil,List.filter_cons,List.filter_nil]
 split<;>simp
theorem fU{b:Bool}{mark:Int}{xs:List aC}{i:Nat}{x:aC}(h:xs[i]? =some x):bx b mark (xs.take (i+1))=bx b mark (xs.take i)++(if iU mark x=true then [mkPan b x]else []):=by
 unfold bx
 rw[List.take_add_one,h,List.filter_append,List.map_append]
 simp only[Option.toList,List.filter_cons,List.filter_nil]
 split<;>simp
theorem kE(l mark:Int)(xs:List aC):(bq l mark xs).length≤xs.length:=by
 unfold bq
 refine Nat.le_trans (List.length_filter_le _ _) ?_
 rw[List.length_map]
 exact Nat.le_refl _
theorem mkPans_le(b:Bool)(mark:Int)(xs:List aC):(bx b mark xs).length≤xs.length:=by
 unfold bx
 rw[List.length_map]
 exact List.length_filter_le _ _
theorem lI{W W':World}{row:Option Nat}{B size n:Nat}{e:TypeId}{v:Value}{ys:List Value}(h:W.ownsRow B e size v n ys)(hg:W.grownBy W' row)(hne:∀k,row=some k→v.ownBlock≠some k):W'.ownsRow B e size v n ys:=by
 rcases h with⟨hl,h|⟨q,cap,cur,rfl,hB,hblk,r⟩⟩
 ·exact⟨hl,Or.inl h⟩
 ·exact⟨hl,Or.inr ⟨q,cap,cur,rfl,hB,(hg.block q (Array.getElem?_eq_some_iff.1 hblk).1 (fun e9=>hne q e9.symm rfl)).trans hblk,r⟩⟩
theorem fa{W:World}{B B' size size' n n':Nat}{e e':TypeId}{v v':Value}{ys ys':List Value}(h:W.ownsRow B e size v n ys)(h':W.ownsRow B' e' size' v' n' ys')(hne:e'≠e):∀k,v.ownBlock=some k→v'.ownBlock≠some k:=by
 intro k hk hk'
 rcases h'.2 with⟨rfl,_⟩|⟨g,cap,cur,rfl,_,hgb,_⟩
 ·cases hk'
 ·simp[Value.ownBlock]at hk'
  subst hk'
  exact af h hgb hne hk
set_option maxRecDepth 100000 in
set_option maxHeartbeats 8000000 in
theorem l7mark_t(s t k z q l e:Int)(b:Bool)(v r m:Int)(a:Option Addr)(len cap:Nat)(xs:List aC)(mark:Int)(w:World)(h:cO w a len xs)(hm:m<mark)(hl:0≤l∧l≤20)(hx:∀x ∈ xs,(0≤x.en∧x.en≤1000)∧0≤x.td∧x.td≤100000)(hlen:len≤1000):Calls Tryz.prog 36 #[.agg #[.int .i64 s,.int .i64 t,.int .i64 k,.int .i64 z,.int .i64 q,.int .i64 l,.int .i64 e,.bool b,.int .i64 v,.int .i64 r],.agg #[.int .i64 m,.slice a len cap],.int .i64 mark] w fun e' w'=>∃v1 v2,e'= .returned (.tuple #[.agg #[.int .i64 mark,v1],v2])∧aS w' w.heap.size v1 (bq l mark xs)∧aR w' w.heap.size v2 (bx b mark xs)∧Below w.heap.size w w':=by
 obtain⟨i0,hi,hz0',hz1',hz2'⟩:=info_parts Tryz.infoOr
 obtain⟨i1,hi1,hy0,hy1,hy2⟩:=info_parts Tryz.infoPn
 have hxl:=h.1
 have hnm:¬ mark≤m:=by omega
 go_enter Tryz.func36,Tryz.ntmps36
 go_wp2
 go_loopw [8,9,10] (fun pv rv iv wr=>∃i:Nat,i≤len∧iv= .int .i64 i∧Hid (aR wr (w.heap.size+1+1+1) pv (bx b mark (xs.take i)))∧Hid (aS wr (w.heap.size+1+1+1) rv (bq l mark (xs.take i)))∧wr.heap[w.heap.size]? =some (.cells #[.int .i64 s,.int .i64 t,.int .i64 k,.int .i64 z,.int .i64 q,.int .i64 l,.int .i64 e,.bool b,.int .i64 v,.int .i64 r] 24 (0,0))∧wr.heap[w.heap.size+1]? =some (.cells #[.int .i64 mark,.slice a len cap] 27 (0,0))∧wr.heap[w.heap.size+1+1]? =some (.cells #[.int .i64 0,.slice none 0 0] 27 (0,0))∧Below w.heap.size w wr) (fun _ _ iv _=>len - (intOf iv).toNat)
 case atStart=>
  refine⟨0,Nat.zero_le _,rfl,ae ?_,ae ?_,?_,?_,?_,ag (ag (ag (ag (aq _ _) _) _) _) _⟩
  ·rw[List.take_zero]
   exact World.ownsRow.alloc (cE (W:=((w.alloc (.cells #[.int .i64 s,.int .i64 t,.int .i64 k,.int .i64 z,.int .i64 q,.int .i64 l,.int .i64 e,.bool b,.int .i64 v,.int .i64 r] 24)).alloc (.cells #[.int .i64 mark,.slice a len cap] 27)).alloc (.cells #[.int .i64 0,.slice none 0 0] 27)) (B:=w.heap.size+1+1+1) _ _ (by simp) (by simp)) _
  ·rw[List.take_zero]
   exact cE (W:=(((w.alloc (.cells #[.int .i64 s,.int .i64 t,.int .i64 k,.int .i64 z,.int .i64 q,.int .i64 l,.int .i64 e,.bool b,.int .i64 v,.int .i64 r] 24)).alloc (.cells #[.int .i64 mark,.slice a len cap] 27)).alloc (.cells #[.int .i64 0,.slice none 0 0] 27)).alloc (.cells #[] 52)) (B:=w.heap.size+1+1+1) _ _ (by simp) (by simp)
  ·exact(Below.heap_alloc _ _ _ (sA)).trans ((Below.heap_alloc _ _ _ (sA)).trans ((Below.heap_alloc _ _ _ (sA)).trans ((Below.heap_alloc _ _ _ (by simp)).trans (World.alloc_heap_new w _))))
  ·refine(Below.heap_alloc _ _ _ (sA)).trans ((Below.heap_alloc _ _ _ (sA)).trans ((Below.heap_alloc _ _ _ (by simp)).trans ?_))
   have h9:=World.alloc_heap_new (w.alloc (.cells #[.int .i64 s,.int .i64 t,.int .i64 k,.int .i64 z,.int .i64 q,.int .i64 l,.int .i64 e,.bool b,.int .i64 v,.int .i64 r] 24)) (.cells #[.int .i64 mark,.slice a len cap] 27)
   rw[World.size_alloc]at h9
   exact h9
  ·refine(Below.heap_alloc _ _ _ (sA)).trans ((Below.heap_alloc _ _ _ (by simp)).trans ?_)
   have h9:=World.alloc_heap_new ((w.alloc (.cells #[.int .i64 s,.int .i64 t,.int .i64 k,.int .i64 z,.int .i64 q,.int .i64 l,.int .i64 e,.bool b,.int .i64 v,.int .i64 r] 24)).alloc (.cells #[.int .i64 mark,.slice a len cap] 27)) (.cells #[.int .i64 0,.slice none 0 0] 27)
   rw[World.size_alloc,World.size_alloc]at h9
   exact h9
 case round=>
  obtain⟨i,hil,rfl,HP,HO,bJ,bS,bR,hbw⟩:=hrel
  have hzr:w.heap.size+1+1+1≤wr.heap.size:=by have:=(Array.getElem?_eq_some_iff.1 bR).1;omega
  have hPl:=mkPans_le b mark (xs.take i)
  have hOl:=kE l mark (xs.take i)
  rw[List.length_take]at hPl hOl
  have s1:wr.cell? ⟨w.heap.size+1,1,none⟩=some (.slice a len cap):=cA bS 1
  have hzs:w.heap.size+1<wr.heap.size:=by omega
  by_cases hlt:i<len
  ·obtain⟨_,_,hy⟩:=h
   obtain⟨g,o,rfl,hr⟩:=hy.resolve_left (by omega)
   obtain⟨x,hxk⟩:∃x,xs[i]? =some x:=⟨_,List.getElem?_eq_getElem (by omega)⟩
   have hg:g<w.heap.size:=hr.lt (by omega)
   obtain⟨d0,d1,d2,d3,d4,d5,d6,d7,d8,d9,d10,d11,d12⟩:=(hr i _ hxk).below hbw hg
   have hxx:=hx x (List.mem_of_getElem? hxk)
   have Hxk:=ae hxk
   have hgr:g<wr.heap.size:=by omega
   clear hr hy hxk
   obtain⟨ky,st,en,an,asu,ale,amo,fn,fsu,fle,fmo,td,tm⟩:=x
   dsimp only at d0 d1 d2 d3 d4 d5 d6 d7 d8 d9 d10 d11 d12 hxx
   cases tm with
   |true=>
    have Hmt:Hid (iU mark (⟨ky,st,en,an,asu,ale,amo,fn,fsu,fle,fmo,td,true⟩:aC)=false):=ae rfl
    have HPn2:Hid (bx b mark (xs.take (i+1))=bx b mark (xs.take i)):=ae (by rw[fU (ab Hxk),ab Hmt];exact List.append_nil _)
    have Htl:Hid (ie mark (⟨ky,st,en,an,asu,ale,amo,fn,fsu,fle,fmo,td,true⟩:aC)=(⟨ky,st,en,an,asu,ale,amo,fn,fsu,fle,fmo,td,true⟩:aC)):=ae (by unfold ie;rw[ab Hmt];rfl)
    go_upto_region 9 with fail
    go_cut [11] (fun pv W=>pv= .pointer (some ⟨wr.heap.size,0,none⟩)∧W.heap[wr.heap.size]? =some (.cells #[.int .i64 ky,.int .i64 st,.int .i64 en,.int .i64 an,.int .i64 asu,.int .i64 ale,.int .i64 amo,.int .i64 fn,.int .i64 fsu,.int .i64 fle,.int .i64 fmo,.int .i64 td,.bool true] 57 (0,0))∧W.heap[w.heap.size]? =some (.cells #[.int .i64 s,.int .i64 t,.int .i64 k,.int .i64 z,.int .i64 q,.int .i64 l,.int .i64 e,.bool b,.int .i64 v,.int .i64 r] 24 (0,0))∧W.heap[w.heap.size+1]? =some (.cells #[.int .i64 mark,.slice (some ⟨g,o,none⟩) len cap] 27 (0,0))∧W.heap[w.heap.size+1+1]? =some (.cells #[.int .i64 0,.slice none 0 0] 27 (0,0))∧Hid (aR W (w.heap.size+1+1+1) u8 (bx b mark (xs.take (i+1))))∧Hid (aS W (w.heap.size+1+1+1) u9 (bq l mark (xs.take i)))∧Below w.heap.size w W∧w.heap.size+1+1+1≤W.heap.size)
    case first=>
     go_wp2
     go_meet
     exact⟨rfl,World.alloc_heap_new wr _,(Below.heap_alloc wr _ _ (Array.getElem?_eq_some_iff.1 bJ).1).trans bJ,(Below.heap_alloc wr _ _ (Array.getElem?_eq_some_iff.1 bS).1).trans bS,(Below.heap_alloc wr _ _ (Array.getElem?_eq_some_iff.1 bR).1).trans bR,ae ((by rw[ab HPn2];exact World.ownsRow.alloc (ab HP) _)),ae (World.ownsRow.alloc (ab HO) _),ag hbw _,(oa)⟩
    case rest=>
     rename World=>wq
     obtain⟨rfl,bG1,bJ1,bS1,bR1,HP1,HO1,hb1,hz1⟩:=hcut
     clear HP HO bJ bS bR hbw s1 d0 d1 d2 d3 d4 d5 d6 d7 d8 d9 d10 d11 d12
     obtain⟨g0,g1,g2,g3,g4,g5,g6,g7,g8,g9,g10,g11,g12⟩:=eu bG1
     have c5:=cA bJ1 5
     simp only[gA,gZ,gS]at c5
     have hwr2:IntKind.i64.wrap (en+l)=en+l:=IntWalk.i64_in _ ⟨by omega,by omega⟩
     have zG:wr.heap.size<wq.heap.size:=(Array.getElem?_eq_some_iff.1 bG1).1
     by_cases hkp:mark<en+l
     ·have HROW:Hid (bq l mark (xs.take (i+1))=bq l mark (xs.take i)++[⟨ky,st,en,an,asu,ale,amo,fn,fsu,fle,fmo,td,true⟩]):=ae (by rw[dI (ab Hxk),ab Htl];exact if_pos (by exact decide_eq_true hkp))
      have dk:decide (mark<en+l)=true:=decide_eq_true hkp
      have hge:=ae (fun b9 (hb9:u9.ownBlock=some b9)=>(World.ownsRow.lt (ab HO1) b9 hb9).1)
      go_wp2_with (at_builtin;go_loud (refine wpList_append_own _ rfl _ _ 25 rfl (w.heap.size+1+1+1) 57 i0 _ 13 104 Tryz.underlying25 hi hz0' hz1' hz2' rfl (by decide) u9 _ _ rfl (World.ownsRow.alloc (ab HO1) _) ⟨wq.heap.size,0,none⟩ 1 1 [.int .i64 ky,.int .i64 st,.int .i64 en,.int .i64 an,.int .i64 asu,.int .i64 ale,.int .i64 amo,.int .i64 fn,.int .i64 fsu,.int .i64 fle,.int .i64 fmo,.int .i64 td,.bool true] rfl rfl (aX wq _ _ _ _ _ _ _ _ _ _ _ _ _ _) (nT) (by unfold maxLen;omega) (by omega) (oa) ?_);intro v' w5 hown ml hnn)
      have hne:∀(b9:Nat) (cs:Array Value) (ty:TypeId),wq.heap[b9]? =some (.cells cs ty (0,0))→ty≠57→w5.heap[b9]? =some (.cells cs ty (0,0)):=fun b9 cs ty h9 h8=>(ml.block b9 (by have:=(Array.getElem?_eq_some_iff.1 h9).1;simp;omega) (fun e9=>af (ab HO1) h9 h8 e9.symm)).trans ((Below.heap_alloc _ _ _ (Array.getElem?_eq_some_iff.1 h9).1).trans h9)
      have bJ5:=hne _ _ _ bJ1 (by decide)
      have bS5:=hne _ _ _ bS1 (by decide)
      have bR5:=hne _ _ _ bR1 (by decide)
      have hb5:Below w.heap.size w w5:=(ag hb1 _).grown ml (by have:=hb1.size;simp;omega) (fun k9 e9=>by have:=ab hge k9 e9;omega)
      have hP5:Hid (aR w5 (w.heap.size+1+1+1) u8 (bx b mark (xs.take (i+1)))):=ae (by
       have h9:aR (wq.alloc (.cells #[.int .i64 ky,.int .i64 st,.int .i64 en,.int .i64 an,.int .i64 asu,.int .i64 ale,.int .i64 amo,.int .i64 fn,.int .i64 fsu,.int .i64 fle,.int .i64 fmo,.int .i64 td,.bool true] 57)) (w.heap.size+1+1+1) u8 (bx b mark (xs.take (i+1))):=World.ownsRow.alloc (ab HP1) _
       exact lI h9 ml (fun k9 e9=>fa (World.ownsRow.alloc (ab HO1) _) h9 (by decide) k9 e9))
      have hO5:Hid (aS w5 (w.heap.size+1+1+1) v' (bq l mark (xs.take (i+1)))):=ae (by rw[ab HROW];exact bi hown)
      clear g0 g1 g2 g3 g4 g5 g6 g7 g8 g9 g10 g11 g12 c5 hown ml hne
      go_wp2
      refine⟨⟨i+1,by omega,by go_num,hP5,hO5,bJ5,bS5,bR5,hb5⟩,by simp[intOf];omega⟩
     ·have HROW:Hid (bq l mark (xs.take (i+1))=bq l mark (xs.take i)):=ae (by rw[dI (ab Hxk),ab Htl];exact(if_neg (fun h9=>hkp (of_decide_eq_true h9))))
      have dk:decide (mark<en+l)=false:=decide_eq_false hkp
      go_wp2
      refine⟨⟨i+1,by omega,by go_num,HP1,(by rw[ab HROW];exact HO1),bJ1,bS1,bR1,hb1⟩,by simp[intOf];omega⟩
   |false=>
    by_cases hen:en≤mark
    ·have Hmt:Hid (iU mark (⟨ky,st,en,an,asu,ale,amo,fn,fsu,fle,fmo,td,false⟩:aC)=true):=ae (by simp[iU,hen])
     have dn:decide (en≤mark)=true:=decide_eq_true hen
     clear hen
     obtain⟨pn,psu,ple,pmo,hpa⟩:∃pn psu ple pmo,((if b=true then fn else an)=pn∧(if b=true then fsu else asu)=psu∧(if b=true then fle else ale)=ple∧(if b=true then fmo else amo)=pmo):=⟨_,_,_,_,rfl,rfl,rfl,rfl⟩
     have HPn2:Hid (bx b mark (xs.take (i+1))=bx b mark (xs.take i)++[⟨ky,st,en,td,1,pn,psu,ple,pmo⟩]):=ae (by rw[fU (ab Hxk),ab Hmt];unfold mkPan;dsimp only;rw[hpa.1,hpa.2.1,hpa.2.2.1,hpa.2.2.2];rfl)
     have hpl:=ae (fun w9=>gH s t k z q l e b v r (⟨ky,st,en,an,asu,ale,amo,fn,fsu,fle,fmo,td,false⟩:aC) 1 w9)
     dsimp only at hpl
     rw[hpa.1,hpa.2.1,hpa.2.2.1,hpa.2.2.2]at hpl
     have Htl:Hid (ie mark (⟨ky,st,en,an,asu,ale,amo,fn,fsu,fle,fmo,td,false⟩:aC)=⟨ky,st,en,an,asu,ale,amo,0,0,0,0,(td+1),true⟩):=ae (by unfold ie;rw[ab Hmt];rfl)
     have hn9:u9.ownBlock≠some wr.heap.size:=fun e9=>by have:=(World.ownsRow.lt (ab HO) _ e9).2;omega
     clear hpa
     go_upto_region 9 with fail
     go_cut [11] (fun pv W=>pv= .pointer (some ⟨wr.heap.size,0,none⟩)∧W.heap[wr.heap.size]? =some (.cells #[.int .i64 ky,.int .i64 st,.int .i64 en,.int .i64 an,.int .i64 asu,.int .i64 ale,.int .i64 amo,.int .i64 fn,.int .i64 fsu,.int .i64 fle,.int .i64 fmo,.int .i64 td,.bool false] 57 (0,0))∧W.heap[w.heap.size]? =some (.cells #[.int .i64 s,.int .i64 t,.int .i64 k,.int .i64 z,.int .i64 q,.int .i64 l,.int .i64 e,.bool b,.int .i64 v,.int .i64 r] 24 (0,0))∧W.heap[w.heap.size+1]? =some (.cells #[.int .i64 mark,.slice (some ⟨g,o,none⟩) len cap] 27 (0,0))∧W.heap[w.heap.size+1+1]? =some (.cells #[.int .i64 0,.slice none 0 0] 27 (0,0))∧Hid (aR W (w.heap.size+1+1+1) u8 (bx b mark (xs.take i)))∧Hid (aS W (w.heap.size+1+1+1) u9 (bq l mark (xs.take i)))∧Below w.heap.size w W∧w.heap.size+1+1+1≤W.heap.size)
     case first=>
      go_wp2
      go_meet
      exact⟨rfl,World.alloc_heap_new wr _,(Below.heap_alloc wr _ _ (Array.getElem?_eq_some_iff.1 bJ).1).trans bJ,(Below.heap_alloc wr _ _ (Array.getElem?_eq_some_iff.1 bS).1).trans bS,(Below.heap_alloc wr _ _ (Array.getElem?_eq_some_iff.1 bR).1).trans bR,ae (World.ownsRow.alloc (ab HP) _),ae (World.ownsRow.alloc (ab HO) _),ag hbw _,(oa)⟩
     case rest=>
      rename World=>wq
      obtain⟨rfl,bG1,bJ1,bS1,bR1,HP1,HO1,hb1,hz1⟩:=hcut
      clear HP HO bJ bS bR hbw s1 d0 d1 d2 d3 d4 d5 d6 d7 d8 d9 d10 d11 d12
      obtain⟨j0,j1,j2,j3,j4,j5,j6,j7,j8,j9⟩:=cZ bJ1
      obtain⟨g0,g1,g2,g3,g4,g5,g6,g7,g8,g9,g10,g11,g12⟩:=eu bG1
      have hgeP:=ae (fun b9 (hb9:u8.ownBlock=some b9)=>(World.ownsRow.lt (ab HP1) b9 hb9).1)
      go_upto_region 11 with fail
      go_cut [8] (fun pv W=>∃v4,pv=v4∧W.heap[wr.heap.size]? =some (.cells #[.int .i64 ky,.int .i64 st,.int .i64 en,.int .i64 an,.int .i64 asu,.int .i64 ale,.int .i64 amo,.int .i64 fn,.int .i64 fsu,.int .i64 fle,.int .i64 fmo,.int .i64 td,.bool false] 57 (0,0))∧W.heap[w.heap.size]? =some (.cells #[.int .i64 s,.int .i64 t,.int .i64 k,.int .i64 z,.int .i64 q,.int .i64 l,.int .i64 e,.bool b,.int .i64 v,.int .i64 r] 24 (0,0))∧W.heap[w.heap.size+1]? =some (.cells #[.int .i64 mark,.slice (some ⟨g,o,none⟩) len cap] 27 (0,0))∧W.heap[w.heap.size+1+1]? =some (.cells #[.int .i64 0,.slice none 0 0] 27 (0,0))∧Hid (aR W (w.heap.size+1+1+1) v4 (bx b mark (xs.take (i+1))))∧Hid (aS W (w.heap.size+1+1+1) u9 (bq l mark (xs.take i)))∧Below w.heap.size w W∧w.heap.size+1+1+1≤W.heap.size)
      case first=>
       go_wp2_with fail
       clear j0 j1 j2 j3 j4 j5 j6 j7 j8 j9 g0 g1 g2 g3 g4 g5 g6 g7 g8 g9 g10 g11 g12
       refine(ab hpl _).mono ?_
       rintro e9 w3 ⟨rfl,hb3⟩
       have bG3:=(hb3.block _ (Array.getElem?_eq_some_iff.1 bG1).1).trans bG1
       have bJ3:=(hb3.block _ (Array.getElem?_eq_some_iff.1 bJ1).1).trans bJ1
       have bS3:=(hb3.block _ (Array.getElem?_eq_some_iff.1 bS1).1).trans bS1
       have bR3:=(hb3.block _ (Array.getElem?_eq_some_iff.1 bR1).1).trans bR1
       have HP3:Hid (aR w3 (w.heap.size+1+1+1) u8 (bx b mark (xs.take i))):=ae (aJ (ab HP1) (aB hb3) (fun _ e9=>by cases e9))
       have HO3:Hid (aS w3 (w.heap.size+1+1+1) u9 (bq l mark (xs.take i))):=ae (aJ (ab HO1) (aB hb3) (fun _ e9=>by cases e9))
       have hbq3:Below w.heap.size w w3:=am hb1 hb3
       have hz3:w.heap.size+1+1+1≤w3.heap.size:=Nat.le_trans hz1 hb3.size
       clear hpl bG1 bJ1 bS1 bR1 HP1 HO1 hb1 hz1 hb3
       go_wp2_with (at_builtin;go_loud (refine wpList_append_own _ rfl _ _ 32 rfl (w.heap.size+1+1+1) 52 i1 _ 9 72 Tryz.underlying32 hi1 hy0 hy1 hy2 rfl (by decide) u8 _ _ rfl (World.ownsRow.alloc (ab HP3) _) ⟨w3.heap.size,0,none⟩ 1 1 [.int .i64 ky,.int .i64 st,.int .i64 en,.int .i64 td,.int .i64 1,.int .i64 pn,.int .i64 psu,.int .i64 ple,.int .i64 pmo] rfl rfl (eM w3 _ _ _ _ _ _ _ _ _ _) (nT) (by unfold maxLen;omega) (by omega) (oa) ?_);intro v4 w4 hown4 mm hnn4)
       have hne4:∀(b9:Nat) (cs:Array Value) (ty:TypeId),w3.heap[b9]? =some (.cells cs ty (0,0))→ty≠52→w4.heap[b9]? =some (.cells cs ty (0,0)):=fun b9 cs ty h9 h8=>(mm.block b9 (by have:=(Array.getElem?_eq_some_iff.1 h9).1;simp;omega) (fun e9=>af (ab HP3) h9 h8 e9.symm)).trans ((Below.heap_alloc _ _ _ (Array.getElem?_eq_some_iff.1 h9).1).trans h9)
       have hP4:aR w4 (w.heap.size+1+1+1) v4 (bx b mark (xs.take (i+1))):=by rw[ab HPn2];exact fw hown4
       have hO4:aS w4 (w.heap.size+1+1+1) u9 (bq l mark (xs.take i)):=by
        have h9:aS (w3.alloc (.cells #[.int .i64 ky,.int .i64 st,.int .i64 en,.int .i64 td,.int .i64 1,.int .i64 pn,.int .i64 psu,.int .i64 ple,.int .i64 pmo] 52)) (w.heap.size+1+1+1) u9 (bq l mark (xs.take i)):=World.ownsRow.alloc (ab HO3) _
        exact lI h9 mm (fun k9 e9=>fa (World.ownsRow.alloc (ab HP3) _) h9 (by decide) k9 e9)
       have hb4:Below w.heap.size w w4:=(ag hbq3 _).grown mm (by have:=hbq3.size;simp;omega) (fun k9 e9=>by have:=ab hgeP k9 e9;omega)
       have hz4:w.heap.size+1+1+1≤w4.heap.size:=by have:=mm.size;simp at this;omega
       go_wp2
       go_meet
       exact⟨v4,rfl,hne4 _ _ _ bG3 (by decide),hne4 _ _ _ bJ3 (by decide),hne4 _ _ _ bS3 (by decide),hne4 _ _ _ bR3 (by decide),ae hP4,ae hO4,hb4,hz4⟩
      case rest=>
       rename World=>wt
       obtain⟨v4,mF,bG4,bJ4,bS4,bR4,HP4,HO4,hb4,hz4⟩:=hcut
       rw[mF]
       clear mF hpl bG1 bJ1 bS1 bR1 HP1 HO1 hb1 hz1 hgeP j0 j1 j2 j3 j4 j5 j6 j7 j8 j9 g0 g1 g2 g3 g4 g5 g6 g7 g8 g9 g10 g11 g12
       have hwr:IntKind.i64.wrap (td+1)=td+1:=IntWalk.i64_in _ ⟨by omega,by omega⟩
       have hn84:v4.ownBlock≠some wr.heap.size:=af (ab HP4) bG4 (by decide)
       have hn94:u9.ownBlock≠some wr.heap.size:=hn9
       obtain⟨g0,g1,g2,g3,g4,g5,g6,g7,g8,g9,g10,g11,g12⟩:=eu bG4
       have fg12:=cF bG4 12
       have zG:wr.heap.size<wt.heap.size:=(Array.getElem?_eq_some_iff.1 bG4).1
       go_upto_region 12 with fail
       go_cut [11] (fun pv W=>pv= .pointer (some ⟨wr.heap.size,0,none⟩)∧W.heap[wr.heap.size]? =some (.cells #[.int .i64 ky,.int .i64 st,.int .i64 en,.int .i64 an,.int .i64 asu,.int .i64 ale,.int .i64 amo,.int .i64 fn,.int .i64 fsu,.int .i64 fle,.int .i64 fmo,.int .i64 td,.bool true] 57 (0,0))∧W.heap[w.heap.size]? =some (.cells #[.int .i64 s,.int .i64 t,.int .i64 k,.int .i64 z,.int .i64 q,.int .i64 l,.int .i64 e,.bool b,.int .i64 v,.int .i64 r] 24 (0,0))∧W.heap[w.heap.size+1]? =some (.cells #[.int .i64 mark,.slice (some ⟨g,o,none⟩) len cap] 27 (0,0))∧W.heap[w.heap.size+1+1]? =some (.cells #[.int .i64 0,.slice none 0 0] 27 (0,0))∧Hid (aR W (w.heap.size+1+1+1) v4 (bx b mark (xs.take (i+1))))∧Hid (aS W (w.heap.size+1+1+1) u9 (bq l mark (xs.take i)))∧Below w.heap.size w W∧w.heap.size+1+1+1≤W.heap.size)
       case first=>
        go_wp2
        go_meet
        exact⟨rfl,(Joins.block_setCell bG4 _),(Below.heap_setCell _ _ _ _ (oa)).trans (bJ4),(Below.heap_setCell _ _ _ _ (oa)).trans (bS4),(Below.heap_setCell _ _ _ _ (oa)).trans (bR4),ae (al (ab HP4) hn84),ae (al (ab HO4) hn94),(av hb4 (oa) _),(by simp[World.setCell];omega)⟩
       case rest=>
        rename World=>wu
        obtain⟨rfl,bG5,bJ5,bS5,bR5,HP5,HO5,hb5,hz5⟩:=hcut
        clear g0 g1 g2 g3 g4 g5 g6 g7 g8 g9 g10 g11 g12 fg12 zG bG4 bJ4 bS4 bR4 HP4 HO4 hb4 hz4 hn84 hn94
        have hn85:v4.ownBlock≠some wr.heap.size:=af (ab HP5) bG5 (by decide)
        have hn95:u9.ownBlock≠some wr.heap.size:=hn9
        obtain⟨g0,g1,g2,g3,g4,g5,g6,g7,g8,g9,g10,g11,g12⟩:=eu bG5
        have fg11:=cF bG5 11
        have zG:wr.heap.size<wu.heap.size:=(Array.getElem?_eq_some_iff.1 bG5).1
        go_upto_region 13 with fail
        go_cut [11] (fun pv W=>pv= .pointer (some ⟨wr.heap.size,0,none⟩)∧W.heap[wr.heap.size]? =some (.cells #[.int .i64 ky,.int .i64 st,.int .i64 en,.int .i64 an,.int .i64 asu,.int .i64 ale,.int .i64 amo,.int .i64 fn,.int .i64 fsu,.int .i64 fle,.int .i64 fmo,.int .i64 (td+1),.bool true] 57 (0,0))∧W.heap[w.heap.size]? =some (.cells #[.int .i64 s,.int .i64 t,.int .i64 k,.int .i64 z,.int .i64 q,.int .i64 l,.int .i64 e,.bool b,.int .i64 v,.int .i64 r] 24 (0,0))∧W.heap[w.heap.size+1]? =some (.cells #[.int .i64 mark,.slice (some ⟨g,o,none⟩) len cap] 27 (0,0))∧W.heap[w.heap.size+1+1]? =some (.cells #[.int .i64 0,.slice none 0 0] 27 (0,0))∧Hid (aR W (w.heap.size+1+1+1) v4 (bx b mark (xs.take (i+1))))∧Hid (aS W (w.heap.size+1+1+1) u9 (bq l mark (xs.take i)))∧Below w.heap.size w W∧w.heap.size+1+1+1≤W.heap.size)
        case first=>
         go_wp2
         go_meet
         exact⟨rfl,(Joins.block_setCell bG5 _),(Below.heap_setCell _ _ _ _ (oa)).trans (bJ5),(Below.heap_setCell _ _ _ _ (oa)).trans (bS5),(Below.heap_setCell _ _ _ _ (oa)).trans (bR5),ae (al (ab HP5) hn85),ae (al (ab HO5) hn95),(av hb5 (oa) _),(by simp[World.setCell];omega)⟩
        case rest=>
         rename World=>wv
         obtain⟨rfl,bG6,bJ6,bS6,bR6,HP6,HO6,hb6,hz6⟩:=hcut
         clear g0 g1 g2 g3 g4 g5 g6 g7 g8 g9 g10 g11 g12 fg11 zG bG5 bJ5 bS5 bR5 HP5 HO5 hb5 hz5 hn85 hn95
         have hn86:v4.ownBlock≠some wr.heap.size:=af (ab HP6) bG6 (by decide)
         have hn96:u9.ownBlock≠some wr.heap.size:=hn9
         obtain⟨g0,g1,g2,g3,g4,g5,g6,g7,g8,g9,g10,g11,g12⟩:=eu bG6
         have fg7:=cF bG6 7
         have fg8:=cF bG6 8
         have fg9:=cF bG6 9
         have fg10:=cF bG6 10
         have zG:wr.heap.size<wv.heap.size:=(Array.getElem?_eq_some_iff.1 bG6).1
         go_upto_region 14 with fail
         go_cut [11] (fun pv W=>pv= .pointer (some ⟨wr.heap.size,0,none⟩)∧W.heap[wr.heap.size]? =some (.cells #[.int .i64 ky,.int .i64 st,.int .i64 en,.int .i64 an,.int .i64 asu,.int .i64 ale,.int .i64 amo,.int .i64 0,.int .i64 0,.int .i64 0,.int .i64 0,.int .i64 (td+1),.bool true] 57 (0,0))∧W.heap[w.heap.size]? =some (.cells #[.int .i64 s,.int .i64 t,.int .i64 k,.int .i64 z,.int .i64 q,.int .i64 l,.int .i64 e,.bool b,.int .i64 v,.int .i64 r] 24 (0,0))∧W.heap[w.heap.size+1]? =some (.cells #[.int .i64 mark,.slice (some ⟨g,o,none⟩) len cap] 27 (0,0))∧W.heap[w.heap.size+1+1]? =some (.cells #[.int .i64 0,.slice none 0 0] 27 (0,0))∧Hid (aR W (w.heap.size+1+1+1) v4 (bx b mark (xs.take (i+1))))∧Hid (aS W (w.heap.size+1+1+1) u9 (bq l mark (xs.take i)))∧Below w.heap.size w W∧w.heap.size+1+1+1≤W.heap.size)
         case first=>
          go_wp2
          go_meet
          exact⟨rfl,(Joins.block_setCell (Joins.block_setCell (Joins.block_setCell (Joins.block_setCell bG6 _) _) _) _),(Below.heap_setCell _ _ _ _ (oa)).trans ((Below.heap_setCell _ _ _ _ (oa)).trans ((Below.heap_setCell _ _ _ _ (oa)).trans ((Below.heap_setCell _ _ _ _ (oa)).trans (bJ6)))),(Below.heap_setCell _ _ _ _ (oa)).trans ((Below.heap_setCell _ _ _ _ (oa)).trans ((Below.heap_setCell _ _ _ _ (oa)).trans ((Below.heap_setCell _ _ _ _ (oa)).trans (bS6)))),(Below.heap_setCell _ _ _ _ (oa)).trans ((Below.heap_setCell _ _ _ _ (oa)).trans ((Below.heap_setCell _ _ _ _ (oa)).trans ((Below.heap_setCell _ _ _ _ (oa)).trans (bR6)))),ae (al (al (al (al (ab HP6) hn86) hn86) hn86) hn86),ae (al (al (al (al (ab HO6) hn96) hn96) hn96) hn96),(av (av (av (av hb6 (oa) _) (oa) _) (oa) _) (oa) _),(by simp[World.setCell];omega)⟩
         case rest=>
          rename World=>wx
          obtain⟨rfl,bG7,bJ7,bS7,bR7,HP7,HO7,hb7,hz7⟩:=hcut
          clear g0 g1 g2 g3 g4 g5 g6 g7 g8 g9 g10 g11 g12 fg7 fg8 fg9 fg10 zG bG6 bJ6 bS6 bR6 HP6 HO6 hb6 hz6 hn86 hn96
          obtain⟨g0,g1,g2,g3,g4,g5,g6,g7,g8,g9,g10,g11,g12⟩:=eu bG7
          have c5:=cA bJ7 5
          simp only[gA,gZ,gS]at c5
          have hwr2:IntKind.i64.wrap (en+l)=en+l:=IntWalk.i64_in _ ⟨by omega,by omega⟩
          have zG:wr.heap.size<wx.heap.size:=(Array.getElem?_eq_some_iff.1 bG7).1
          by_cases hkp:mark<en+l
          ·have HROW:Hid (bq l mark (xs.take (i+1))=bq l mark (xs.take i)++[⟨ky,st,en,an,asu,ale,amo,0,0,0,0,(td+1),true⟩]):=ae (by rw[dI (ab Hxk),ab Htl];exact if_pos (by exact decide_eq_true hkp))
           have dk:decide (mark<en+l)=true:=decide_eq_true hkp
           have hge:=ae (fun b9 (hb9:u9.ownBlock=some b9)=>(World.ownsRow.lt (ab HO7) b9 hb9).1)
           go_wp2_with (at_builtin;go_loud (refine wpList_append_own _ rfl _ _ 25 rfl (w.heap.size+1+1+1) 57 i0 _ 13 104 Tryz.underlying25 hi hz0' hz1' hz2' rfl (by decide) u9 _ _ rfl (World.ownsRow.alloc (ab HO7) _) ⟨wx.heap.size,0,none⟩ 1 1 [.int .i64 ky,.int .i64 st,.int .i64 en,.int .i64 an,.int .i64 asu,.int .i64 ale,.int .i64 amo,.int .i64 0,.int .i64 0,.int .i64 0,.int .i64 0,.int .i64 (td+1),.bool true] rfl rfl (aX wx _ _ _ _ _ _ _ _ _ _ _ _ _ _) (nT) (by unfold maxLen;omega) (by omega) (oa) ?_);intro v' w5 hown ml hnn)
           have hne:∀(b9:Nat) (cs:Array Value) (ty:TypeId),wx.heap[b9]? =some (.cells cs ty (0,0))→ty≠57→w5.heap[b9]? =some (.cells cs ty (0,0)):=fun b9 cs ty h9 h8=>(ml.block b9 (by have:=(Array.getElem?_eq_some_iff.1 h9).1;simp;omega) (fun e9=>af (ab HO7) h9 h8 e9.symm)).trans ((Below.heap_alloc _ _ _ (Array.getElem?_eq_some_iff.1 h9).1).trans h9)
           have bJ5:=hne _ _ _ bJ7 (by decide)
           have bS5:=hne _ _ _ bS7 (by decide)
           have bR5:=hne _ _ _ bR7 (by decide)
           have hb5:Below w.heap.size w w5:=(ag hb7 _).grown ml (by have:=hb7.size;simp;omega) (fun k9 e9=>by have:=ab hge k9 e9;omega)
           have hP5:Hid (aR w5 (w.heap.size+1+1+1) v4 (bx b mark (xs.take (i+1)))):=ae (by
            have h9:aR (wx.alloc (.cells #[.int .i64 ky,.int .i64 st,.int .i64 en,.int .i64 an,.int .i64 asu,.int .i64 ale,.int .i64 amo,.int .i64 0,.int .i64 0,.int .i64 0,.int .i64 0,.int .i64 (td+1),.bool true] 57)) (w.heap.size+1+1+1) v4 (bx b mark (xs.take (i+1))):=World.ownsRow.alloc (ab HP7) _
            exact lI h9 ml (fun k9 e9=>fa (World.ownsRow.alloc (ab HO7) _) h9 (by decide) k9 e9))
           have hO5:Hid (aS w5 (w.heap.size+1+1+1) v' (bq l mark (xs.take (i+1)))):=ae (by rw[ab HROW];exact bi hown)
           clear g0 g1 g2 g3 g4 g5 g6 g7 g8 g9 g10 g11 g12 c5 hown ml hne
           go_wp2
           refine⟨⟨i+1,by omega,by go_num,hP5,hO5,bJ5,bS5,bR5,hb5⟩,by simp[intOf];omega⟩
          ·have HROW:Hid (bq l mark (xs.take (i+1))=bq l mark (xs.take i)):=ae (by rw[dI (ab Hxk),ab Htl];exact(if_neg (fun h9=>hkp (of_decide_eq_true h9))))
           have dk:decide (mark<en+l)=false:=decide_eq_false hkp
           go_wp2
           refine⟨⟨i+1,by omega,by go_num,HP7,(by rw[ab HROW];exact HO7),bJ7,bS7,bR7,hb7⟩,by simp[intOf];omega⟩
    ·have Hmt:Hid (iU mark (⟨ky,st,en,an,asu,ale,amo,fn,fsu,fle,fmo,td,false⟩:aC)=false):=ae (by simp[iU,hen])
     have dn:decide (en≤mark)=false:=decide_eq_false hen
     clear hen
     have HPn2:Hid (bx b mark (xs.take (i+1))=bx b mark (xs.take i)):=ae (by rw[fU (ab Hxk),ab Hmt];exact List.append_nil _)
     have Htl:Hid (ie mark (⟨ky,st,en,an,asu,ale,amo,fn,fsu,fle,fmo,td,false⟩:aC)=(⟨ky,st,en,an,asu,ale,amo,fn,fsu,fle,fmo,td,false⟩:aC)):=ae (by unfold ie;rw[ab Hmt];rfl)
     go_upto_region 9 with fail
     go_cut [11] (fun pv W=>pv= .pointer (some ⟨wr.heap.size,0,none⟩)∧W.heap[wr.heap.size]? =some (.cells #[.int .i64 ky,.int .i64 st,.int .i64 en,.int .i64 an,.int .i64 asu,.int .i64 ale,.int .i64 amo,.int .i64 fn,.int .i64 fsu,.int .i64 fle,.int .i64 fmo,.int .i64 td,.bool false] 57 (0,0))∧W.heap[w.heap.size]? =some (.cells #[.int .i64 s,.int .i64 t,.int .i64 k,.int .i64 z,.int .i64 q,.int .i64 l,.int .i64 e,.bool b,.int .i64 v,.int .i64 r] 24 (0,0))∧W.heap[w.heap.size+1]? =some (.cells #[.int .i64 mark,.slice (some ⟨g,o,none⟩) len cap] 27 (0,0))∧W.heap[w.heap.size+1+1]? =some (.cells #[.int .i64 0,.slice none 0 0] 27 (0,0))∧Hid (aR W (w.heap.size+1+1+1) u8 (bx b mark (xs.take (i+1))))∧Hid (aS W (w.heap.size+1+1+1) u9 (bq l mark (xs.take i)))∧Below w.heap.size w W∧w.heap.size+1+1+1≤W.heap.size)
     case first=>
      go_wp2
      go_meet
      exact⟨rfl,World.alloc_heap_new wr _,(Below.heap_alloc wr _ _ (Array.getElem?_eq_some_iff.1 bJ).1).trans bJ,(Below.heap_alloc wr _ _ (Array.getElem?_eq_some_iff.1 bS).1).trans bS,(Below.heap_alloc wr _ _ (Array.getElem?_eq_some_iff.1 bR).1).trans bR,ae ((by rw[ab HPn2];exact World.ownsRow.alloc (ab HP) _)),ae (World.ownsRow.alloc (ab HO) _),ag hbw _,(oa)⟩
     case rest=>
      rename World=>wq
      obtain⟨rfl,bG1,bJ1,bS1,bR1,HP1,HO1,hb1,hz1⟩:=hcut
      clear HP HO bJ bS bR hbw s1 d0 d1 d2 d3 d4 d5 d6 d7 d8 d9 d10 d11 d12
      obtain⟨g0,g1,g2,g3,g4,g5,g6,g7,g8,g9,g10,g11,g12⟩:=eu bG1
      have c5:=cA bJ1 5
      simp only[gA,gZ,gS]at c5
      have hwr2:IntKind.i64.wrap (en+l)=en+l:=IntWalk.i64_in _ ⟨by omega,by omega⟩
      have zG:wr.heap.size<wq.heap.size:=(Array.getElem?_eq_some_iff.1 bG1).1
      by_cases hkp:mark<en+l
      ·have HROW:Hid (bq l mark (xs.take (i+1))=bq l mark (xs.take i)++[⟨ky,st,en,an,asu,ale,amo,fn,fsu,fle,fmo,td,false⟩]):=ae (by rw[dI (ab Hxk),ab Htl];exact if_pos (by exact decide_eq_true hkp))
       have dk:decide (mark<en+l)=true:=decide_eq_true hkp
       have hge:=ae (fun b9 (hb9:u9.ownBlock=some b9)=>(World.ownsRow.lt (ab HO1) b9 hb9).1)
       go_wp2_with (at_builtin;go_loud (refine wpList_append_own _ rfl _ _ 25 rfl (w.heap.size+1+1+1) 57 i0 _ 13 104 Tryz.underlying25 hi hz0' hz1' hz2' rfl (by decide) u9 _ _ rfl (World.ownsRow.alloc (ab HO1) _) ⟨wq.heap.size,0,none⟩ 1 1 [.int .i64 ky,.int .i64 st,.int .i64 en,.int .i64 an,.int .i64 asu,.int .i64 ale,.int .i64 amo,.int .i64 fn,.int .i64 fsu,.int .i64 fle,.int .i64 fmo,.int .i64 td,.bool false] rfl rfl (aX wq _ _ _ _ _ _ _ _ _ _ _ _ _ _) (nT) (by unfold maxLen;omega) (by omega) (oa) ?_);intro v' w5 hown ml hnn)
       have hne:∀(b9:Nat) (cs:Array Value) (ty:TypeId),wq.heap[b9]? =some (.cells cs ty (0,0))→ty≠57→w5.heap[b9]? =some (.cells cs ty (0,0)):=fun b9 cs ty h9 h8=>(ml.block b9 (by have:=(Array.getElem?_eq_some_iff.1 h9).1;simp;omega) (fun e9=>af (ab HO1) h9 h8 e9.symm)).trans ((Below.heap_alloc _ _ _ (Array.getElem?_eq_some_iff.1 h9).1).trans h9)
       have bJ5:=hne _ _ _ bJ1 (by decide)
       have bS5:=hne _ _ _ bS1 (by decide)
       have bR5:=hne _ _ _ bR1 (by decide)
       have hb5:Below w.heap.size w w5:=(ag hb1 _).grown ml (by have:=hb1.size;simp;omega) (fun k9 e9=>by have:=ab hge k9 e9;omega)
       have hP5:Hid (aR w5 (w.heap.size+1+1+1) u8 (bx b mark (xs.take (i+1)))):=ae (by
        have h9:aR (wq.alloc (.cells #[.int .i64 ky,.int .i64 st,.int .i64 en,.int .i64 an,.int .i64 asu,.int .i64 ale,.int .i64 amo,.int .i64 fn,.int .i64 fsu,.int .i64 fle,.int .i64 fmo,.int .i64 td,.bool false] 57)) (w.heap.size+1+1+1) u8 (bx b mark (xs.take (i+1))):=World.ownsRow.alloc (ab HP1) _
        exact lI h9 ml (fun k9 e9=>fa (World.ownsRow.alloc (ab HO1) _) h9 (by decide) k9 e9))
       have hO5:Hid (aS w5 (w.heap.size+1+1+1) v' (bq l mark (xs.take (i+1)))):=ae (by rw[ab HROW];exact bi hown)
       clear g0 g1 g2 g3 g4 g5 g6 g7 g8 g9 g10 g11 g12 c5 hown ml hne
       go_wp2
       refine⟨⟨i+1,by omega,by go_num,hP5,hO5,bJ5,bS5,bR5,hb5⟩,by simp[intOf];omega⟩
      ·have HROW:Hid (bq l mark (xs.take (i+1))=bq l mark (xs.take i)):=ae (by rw[dI (ab Hxk),ab Htl];exact(if_neg (fun h9=>hkp (of_decide_eq_true h9))))
       have dk:decide (mark<en+l)=false:=decide_eq_false hkp
       go_wp2
       refine⟨⟨i+1,by omega,by go_num,HP1,(by rw[ab HROW];exact HO1),bJ1,bS1,bR1,hb1⟩,by simp[intOf];omega⟩
  ·obtain rfl:i=len:=by omega
   have HPf:Hid (aR wr (w.heap.size+1+1+1) u8 (bx b mark xs)):=by have h9:=ab HP;rw[List.take_of_length_le (by omega)]at h9;exact ae h9
   have HOf:Hid (aS wr (w.heap.size+1+1+1) u9 (bq l mark xs)):=by have h9:=ab HO;rw[List.take_of_length_le (by omega)]at h9;exact ae h9
   have hsl:∃a9 n9 c9,u9= .slice a9 n9 c9:=by
    rcases(ab HOf).2 with⟨rfl,h0⟩|⟨g9,cap9,cur,rfl,_⟩
    ·exact⟨_,_,_,rfl⟩
    ·exact⟨_,_,_,rfl⟩
   obtain⟨a9,n9,c9,rfl⟩:=hsl
   have s0:wr.cell? ⟨w.heap.size+1,0,none⟩=some (.int .i64 mark):=cA bS 0
   have fs1:=cF bS 1
   have r0:wr.cell? ⟨w.heap.size+1+1,0,none⟩=some (.int .i64 0):=cA bR 0
   have r1:wr.cell? ⟨w.heap.size+1+1,1,none⟩=some (.slice none 0 0):=cA bR 1
   obtain⟨fr0,fr1⟩:=f2 bR
   have hzR:w.heap.size+1+1<wr.heap.size:=(Array.getElem?_eq_some_iff.1 bR).1
   have nS:∀ {ty:TypeId} {size n:Nat} {v9:Value} {ys:List Value},wr.ownsRow (w.heap.size+1+1+1) ty size v9 n ys→v9.ownBlock≠some (w.heap.size+1):=fun h9 e9=>by have:=aE h9 _ e9;omega
   have nR:∀ {ty:TypeId} {size n:Nat} {v9:Value} {ys:List Value},wr.ownsRow (w.heap.size+1+1+1) ty size v9 n ys→v9.ownBlock≠some (w.heap.size+1+1):=fun h9 e9=>by have:=aE h9 _ e9;omega
   have hOF:=al (u:= .slice a9 n9 c9) (p:=⟨w.heap.size+1+1,1,none⟩) (al (u:= .int .i64 mark) (p:=⟨w.heap.size+1+1,0,none⟩) (al (u:= .slice a9 n9 c9) (p:=⟨w.heap.size+1,1,none⟩) (ab HOf) (nS (ab HOf))) (nR (ab HOf))) (nR (ab HOf))
   have hPF:=al (u:= .slice a9 n9 c9) (p:=⟨w.heap.size+1+1,1,none⟩) (al (u:= .int .i64 mark) (p:=⟨w.heap.size+1+1,0,none⟩) (al (u:= .slice a9 n9 c9) (p:=⟨w.heap.size+1,1,none⟩) (ab HPf) (nS (ab HPf))) (nR (ab HPf))) (nR (ab HPf))
   have hbF:Below w.heap.size w (((wr.setCell ⟨w.heap.size+1,1,none⟩ (.slice a9 n9 c9)).setCell ⟨w.heap.size+1+1,0,none⟩ (.int .i64 mark)).setCell ⟨w.heap.size+1+1,1,none⟩ (.slice a9 n9 c9)):=av (av (av hbw (sA) _) (sA) _) (sA) _
   clear nS nR HP HO
   go_wp2
   refine bodyPost_ret (v:= .tuple #[.agg #[.int .i64 mark,.slice a9 n9 c9],u8]) (by simp(maxDischargeDepth:=9) [results,Tryz.results36,go_sem, *]) rfl ⟨_,_,rfl,ez hOF (by omega),ez hPF (by omega),hbF⟩
theorem l7mark_f(s t k z q l e:Int)(b:Bool)(v r m:Int)(a:Option Addr)(len cap:Nat)(mark:Int)(w:World)(hm:¬ m<mark):Calls Tryz.prog 36 #[.agg #[.int .i64 s,.int .i64 t,.int .i64 k,.int .i64 z,.int .i64 q,.int .i64 l,.int .i64 e,.bool b,.int .i64 v,.int .i64 r],.agg #[.int .i64 m,.slice a len cap],.int .i64 mark] w fun e' w'=>∃v2,e'= .returned (.tuple #[.agg #[.int .i64 m,.slice a len cap],v2])∧aR w' w.heap.size v2 []∧Below w.heap.size w w':=by
 have hnm:mark≤m:=by omega
 go_enter Tryz.func36,Tryz.ntmps36
 go_wp2
 refine bodyPost_ret (v:= .tuple #[.agg #[.int .i64 m,.slice a len cap],.slice (some ⟨w.heap.size+1+1+1,0,none⟩) 0 0]) (by simp(maxDischargeDepth:=9) [results,Tryz.results36,go_sem, *]) rfl ⟨_,rfl,?_,?_⟩
 ·exact cE (W:=((w.alloc (.cells #[.int .i64 s,.int .i64 t,.int .i64 k,.int .i64 z,.int .i64 q,.int .i64 l,.int .i64 e,.bool b,.int .i64 v,.int .i64 r] 24)).alloc (.cells #[.int .i64 m,.slice a len cap] 27)).alloc (.cells #[.int .i64 m,.slice a len cap] 27)) (B:=w.heap.size) _ _ (sA) (by simp)
 ·repeat(first|exact Below.refl _ _|refine av ?_ (sA) _|refine ag ?_ _)
set_option maxRecDepth 100000 in
set_option maxHeartbeats 8000000 in
theorem lJ(s t k z q l e:Int)(b:Bool)(v r m:Int)(a:Option Addr)(len cap:Nat)(xs:List aC)(mark:Int)(w:World)(h:cO w a len xs):Calls Tryz.prog 15 #[.agg #[.int .i64 s,.int .i64 t,.int .i64 k,.int .i64 z,.int .i64 q,.int .i64 l,.int .i64 e,.bool b,.int .i64 v,.int .i64 r],.agg #[.int .i64 m,.slice a len cap],.int .i64 mark] w fun e' w'=>∃v1 v2,e'= .returned (.tuple #[.agg #[.int .i64 (ej s t k z q l e b v r m xs mark).1,v1],v2])∧aS w' w.heap.size v1 (ej s t k z q l e b v r m xs mark).2.1∧aR w' w.heap.size v2 (ej s t k z q l e b v r m xs mark).2.2∧Below w.heap.size w w':=by
 have hxl:=h.1
 have hbE:Below w.heap.size w (((w.alloc (.cells #[.int .i64 s,.int .i64 t,.int .i64 k,.int .i64 z,.int .i64 q,.int .i64 l,.int .i64 e,.bool b,.int .i64 v,.int .i64 r] 24)).alloc (.cells #[.int .i64 m,.slice a len cap] 27)).alloc (.cells #[.int .i64 0,.slice none 0 0] 27)):=ag (ag (aq _ _) _) _
 have HE:=ae (h.below hbE)
 have bRE:(((w.alloc (.cells #[.int .i64 s,.int .i64 t,.int .i64 k,.int .i64 z,.int .i64 q,.int .i64 l,.int .i64 e,.bool b,.int .i64 v,.int .i64 r] 24)).alloc (.cells #[.int .i64 m,.slice a len cap] 27)).alloc (.cells #[.int .i64 0,.slice none 0 0] 27)).heap[w.heap.size+1+1]? =some (.cells #[.int .i64 0,.slice none 0 0] 27 (0,0)):=by
  have h9:=World.alloc_heap_new ((w.alloc (.cells #[.int .i64 s,.int .i64 t,.int .i64 k,.int .i64 z,.int .i64 q,.int .i64 l,.int .i64 e,.bool b,.int .i64 v,.int .i64 r] 24)).alloc (.cells #[.int .i64 m,.slice a len cap] 27)) (.cells #[.int .i64 0,.slice none 0 0] 27)
  rw[World.size_alloc,World.size_alloc]at h9
  exact h9
 obtain⟨ob,hob⟩:∃ob,cB s t k z q l e v r m xs=ob:=⟨_,rfl⟩
 have HOB:=ae hob
 go_enter Tryz.func15,Tryz.ntmps15
 go_wp2_with fail
 refine(fT s t k z q l e b v r m _ _ _ xs _ (ab HE) HOB).mono ?_
 rintro e' w1 ⟨rfl,hb1⟩
 have hz1:w.heap.size+1+1<w1.heap.size:=by have:=hb1.size;simp at this;omega
 have bR1:=(hb1.block (w.heap.size+1+1) (by simp)).trans bRE
 have hbw1:Below w.heap.size w w1:=am hbE hb1
 have H1:=ae ((ab HE).below hb1)
 have j0:w1.heap[w.heap.size]? =some (.cells #[.int .i64 s,.int .i64 t,.int .i64 k,.int .i64 z,.int .i64 q,.int .i64 l,.int .i64 e,.bool b,.int .i64 v,.int .i64 r] 24 (0,0)):=(hb1.block w.heap.size (oa)).trans ((Below.heap_alloc _ _ _ (oa)).trans ((Below.heap_alloc _ _ _ (by simp)).trans (World.alloc_heap_new w _)))
 have j1:w1.heap[w.heap.size+1]? =some (.cells #[.int .i64 m,.slice a len cap] 27 (0,0)):=(hb1.block (w.heap.size+1) (by simp)).trans ((Below.heap_alloc _ _ _ (by simp)).trans (by
  have h9:=World.alloc_heap_new (w.alloc (.cells #[.int .i64 s,.int .i64 t,.int .i64 k,.int .i64 z,.int .i64 q,.int .i64 l,.int .i64 e,.bool b,.int .i64 v,.int .i64 r] 24)) (.cells #[.int .i64 m,.slice a len cap] 27)
  rw[World.size_alloc]at h9
  exact h9))
 have rc0:w1.cell? ⟨w.heap.size+1+1,0,none⟩=some (.int .i64 0):=cA bR1 0
 have rc1:w1.cell? ⟨w.heap.size+1+1,1,none⟩=some (.slice none 0 0):=cA bR1 1
 obtain⟨rf0,rf1⟩:=f2 bR1
 clear HE hbE hb1 hob
 have hnone:(cB s t k z q l e v r m xs&&bH mark 0 1000)=false→∀(W:World) (v2:Value),aR W w.heap.size v2 []→Below w.heap.size w W→∃v1 v3,(Ending.returned (.tuple #[.agg #[.int .i64 0,.slice none 0 0],v2]))= .returned (.tuple #[.agg #[.int .i64 (ej s t k z q l e b v r m xs mark).1,v1],v3])∧aS W w.heap.size v1 (ej s t k z q l e b v r m xs mark).2.1∧aR W w.heap.size v3 (ej s t k z q l e b v r m xs mark).2.2∧Below w.heap.size w W:=by
  intro h9 W v2 mD hW
  have e9:ej s t k z q l e b v r m xs mark=(0,[],[]):=by unfold ej;rw[h9];rfl
  rw[e9]
  exact⟨_,_,rfl,World.ownsRow_nil _ _ _ _,mD,hW⟩
 have hlit:aR (((w1.setCell ⟨w.heap.size+1+1,0,none⟩ (.int .i64 0)).setCell ⟨w.heap.size+1+1,1,none⟩ (.slice none 0 0)).alloc (.cells #[] 52)) w.heap.size (.slice (some ⟨w1.heap.size,0,none⟩) 0 0) []:=cE (W:=((w1.setCell ⟨w.heap.size+1+1,0,none⟩ (.int .i64 0)).setCell ⟨w.heap.size+1+1,1,none⟩ (.slice none 0 0))) (B:=w.heap.size) _ _ (sA) (by simp)
 cases ob with
 |false=>
  have hno:=ae (hnone (by rw[ab HOB];rfl))
  clear hnone
  go_wp2
  refine bodyPost_ret (v:= .tuple #[.agg #[.int .i64 0,.slice none 0 0],.slice (some ⟨w1.heap.size,0,none⟩) 0 0]) (nj) rfl (ab hno _ _ ?_ ?_)
  ·exact hlit
  ·exact ag (av (p:=⟨w.heap.size+1+1,1,none⟩) (av (p:=⟨w.heap.size+1+1,0,none⟩) hbw1 (sB) _) (sB) _) _
 |true=>
  obtain⟨ib,hib⟩:∃ib,bH mark 0 1000=ib:=⟨_,rfl⟩
  have HIB:=ae hib
  have hwi:=aI mark 0 1000 w1
  rw[hib]at hwi
  have Hwi:=ae hwi
  clear hib hwi
  go_wp2_with fail
  refine(ab Hwi).mono ?_
  rintro e' w1x ⟨rfl,h1x⟩
  have h1y:=h1x.symm
  clear h1x
  subst h1y
  cases ib with
  |false=>
   have hno:=ae (hnone (by rw[ab HOB,ab HIB];rfl))
   clear hnone
   go_wp2
   refine bodyPost_ret (v:= .tuple #[.agg #[.int .i64 0,.slice none 0 0],.slice (some ⟨w1.heap.size,0,none⟩) 0 0]) (nj) rfl (ab hno _ _ ?_ ?_)
   ·exact hlit
   ·exact ag (av (p:=⟨w.heap.size+1+1,1,none⟩) (av (p:=⟨w.heap.size+1+1,0,none⟩) hbw1 (sB) _) (sB) _) _
  |true=>
   clear hnone Hwi hlit
   obtain⟨hx3,hl,hmb,hokx,hrs⟩:=ga (ab HOB)
   have hxx:∀x ∈ xs,(0≤x.en∧x.en≤1000)∧0≤x.td∧x.td≤100000:=fun x hx=>by have:=(dY (hokx x hx)).2.1;have:=(dY (hokx x hx)).2.2.2.1;omega
   have hMF:ej s t k z q l e b v r m xs mark=if m<mark then(mark,bq l mark xs,bx b mark xs)else(m,xs,[]):=by unfold ej;rw[ab HOB,ab HIB];rfl
   have HMF:=ae hMF
   have HXX:=ae hxx
   have bJ:w1.drew.heap[w.heap.size]? =some (.cells #[.int .i64 s,.int .i64 t,.int .i64 k,.int .i64 z,.int .i64 q,.int .i64 l,.int .i64 e,.bool b,.int .i64 v,.int .i64 r] 24 (0,0)):=j0
   have bS:w1.drew.heap[w.heap.size+1]? =some (.cells #[.int .i64 m,.slice a len cap] 27 (0,0)):=j1
   clear hMF hxx hokx hrs rc0 rc1 rf0 rf1 j0 j1
   go_wp2_with fail
   by_cases hcm:m<mark
   ·skip
    refine wp_region_held_drew (S:=(fun W=>W.heap[w.heap.size]? =some (.cells #[.int .i64 s,.int .i64 t,.int .i64 k,.int .i64 z,.int .i64 q,.int .i64 l,.int .i64 e,.bool b,.int .i64 v,.int .i64 r] 24 (0,0))∧W.heap[w.heap.size+1]? =some (.cells #[.int .i64 m,.slice a len cap] 27 (0,0)))) (oc) ?_ (fun hHeld=>?_)
    ·(try dsimp only);exact⟨bJ,bS⟩
    refine kT 0 ?_ ?_ ?_
    rotate_left
    ·(intro w9 hSw;(try dsimp only at hSw);obtain⟨q0,q1⟩:=hSw;obtain⟨g0x0,g0x1,g0x2,g0x3,g0x4,g0x5,g0x6,g0x7,g0x8,g0x9⟩:=cZ q0;go_simp<;>with_reducible rfl)
    try simp only[Act.put,tA,tZ,tS]
    refine kT 1 ?_ ?_ ?_
    rotate_left
    ·(intro w9 hSw;(try dsimp only at hSw);obtain⟨q0,q1⟩:=hSw;obtain⟨g1x0,g1x1⟩:=c2 q1;go_simp<;>with_reducible rfl)
    try simp only[Act.put,tA,tZ,tS]
    refine kV 3 ?_
    refine rD 2 (fun K hK=>?_)
    go_simp
    (go_at_call 33;refine(eT m a len cap xs _ ((ab H1).below (ap (Below.refl _ _))) (by omega)).mono ?_;rintro e9 w2 ⟨vc,rfl,hOc,hbw2⟩;obtain⟨ac,cc,rfl⟩:∃ac cc,vc= .slice ac len cc:=(by rcases hOc.2 with⟨rfl,h0⟩|⟨g9,cap9,cur,rfl,_⟩<;>first|exact⟨none,0,by rw[h0]⟩|exact⟨_,_,rfl⟩))
    (try go_wp2_with fail)
    have zw2:=hbw2.size
    (try simp at zw2)
    have bJ:=(hbw2.block (w.heap.size) (sB)).trans bJ
    have bS:=(hbw2.block (w.heap.size+1) (sB)).trans bS
    clear hHeld
    refine hK.out _ _ ?_ (fun hHeld=>?_)
    ·(try dsimp only);exact⟨bJ,bS⟩
    clear hK K
    try simp only[Act.put,tA,tZ,tS]
    have HRc:cO w2 ac len xs:=by
     have h9:aS w2 (w1.drew.heap.size+2) (.slice ac len cc) xs:=by unfold aS;rw[hxl];exact hOc
     obtain⟨a8,c8,e8,H8,_,_⟩:=eo h9 (by omega)
     simp at e8
     obtain⟨rfl,e7,rfl⟩:=e8
     rw[hxl]at H8
     exact H8
    refine rD 4 (fun K hK=>?_)
    go_simp
    (go_at_call 36;refine(l7mark_t s t k z q l e b v r m ac len cc xs mark _ HRc hcm hl (ab HXX) (by omega)).mono ?_;rintro e9 w3 ⟨v1,v2,rfl,hO3,hP3,hbw3⟩)
    (try go_wp2_with fail)
    have zw3:=hbw3.size
    (try simp at zw3)
    have bJ:=(hbw3.block (w.heap.size) (sB)).trans bJ
    have bS:=(hbw3.block (w.heap.size+1) (sB)).trans bS
    clear hHeld
    refine hK.out _ _ ?_ (fun hHeld=>?_)
    ·(try dsimp only);exact⟨bJ,bS⟩
    clear hK K
    try simp only[Act.put,tA,tZ,tS]
    refine kV 5 ?_
    refine kV 6 ?_
    obtain⟨a1,n1,c1,rfl⟩:∃a1 n1 c1,v1= .slice a1 n1 c1:=(by rcases hO3.2 with⟨rfl,h0⟩|⟨g9,cap9,cur,rfl,_⟩<;>exact⟨_,_,_,rfl⟩)
    have zz2:w1.heap.size≤w2.heap.size:=hbw2.size
    have zz3:w2.heap.size≤w3.heap.size:=hbw3.size
    have bR3:w3.heap[w.heap.size+1+1]? =some (.cells #[.int .i64 0,.slice none 0 0] 27 (0,0)):=(hbw3.block (w.heap.size+1+1) (by omega)).trans ((hbw2.block (w.heap.size+1+1) (show w.heap.size+1+1<w1.heap.size from hz1)).trans bR1)
    have q0:w3.cell? ⟨w.heap.size+1+1,0,none⟩=some (.int .i64 0):=cA bR3 0
    have q1:w3.cell? ⟨w.heap.size+1+1,1,none⟩=some (.slice none 0 0):=cA bR3 1
    obtain⟨f0,f1⟩:=f2 bR3
    have bRf:((w3.setCell ⟨w.heap.size+1+1,0,none⟩ (.int .i64 mark)).setCell ⟨w.heap.size+1+1,1,none⟩ (.slice a1 n1 c1)).heap[w.heap.size+1+1]? =some (.cells #[.int .i64 mark,.slice a1 n1 c1] 27 (0,0)):=Joins.block_setCell (Joins.block_setCell bR3 _) _
    have hOf:=al (u:= .slice a1 n1 c1) (p:=⟨w.heap.size+1+1,1,none⟩) (al (u:= .int .i64 mark) (p:=⟨w.heap.size+1+1,0,none⟩) hO3 (af hO3 bR3 (by decide))) (af hO3 bR3 (by decide))
    have hPf:=al (u:= .slice a1 n1 c1) (p:=⟨w.heap.size+1+1,1,none⟩) (al (u:= .int .i64 mark) (p:=⟨w.heap.size+1+1,0,none⟩) hP3 (af hP3 bR3 (by decide))) (af hP3 bR3 (by decide))
    have hbf:Below w.heap.size w ((w3.setCell ⟨w.heap.size+1+1,0,none⟩ (.int .i64 mark)).setCell ⟨w.heap.size+1+1,1,none⟩ (.slice a1 n1 c1)):=av (av (am (am (ap hbw1) hbw2) hbw3) (oa) _) (oa) _
    refine rD 7 (fun K hK=>?_)
    go_simp
    clear hHeld
    refine hK.out _ _ ?_ (fun hHeld=>?_)
    ·(try dsimp only);exact⟨(Below.heap_setCell _ _ _ _ (sC)).trans ((Below.heap_setCell _ _ _ _ (sC)).trans bJ),(Below.heap_setCell _ _ _ _ (sC)).trans ((Below.heap_setCell _ _ _ _ (sC)).trans bS)⟩
    clear hK K
    try simp only[Act.put,tA,tZ,tS]
    refine kV 8 ?_
    refine wpAnyH_done (oc) ?_ _
    clear hHeld q0 q1 f0 f1 bJ bS bR3 hO3 hP3
    generalize ((w3.setCell ⟨w.heap.size+1+1,0,none⟩ (.int .i64 mark)).setCell ⟨w.heap.size+1+1,1,none⟩ (.slice a1 n1 c1))=wF at bRf hOf hPf hbf ⊢
    have g0:wF.cell? ⟨w.heap.size+1+1,0,none⟩=some (.int .i64 mark):=cA bRf 0
    have g1:wF.cell? ⟨w.heap.size+1+1,1,none⟩=some (.slice a1 n1 c1):=cA bRf 1
    have e9:ej s t k z q l e b v r m xs mark=(mark,bq l mark xs,bx b mark xs):=by rw[ab HMF];exact if_pos hcm
    have HE9:=ae e9
    clear e9 HMF
    go_wp2
    refine bodyPost_ret (v:= .tuple #[.agg #[.int .i64 mark,.slice a1 n1 c1],v2]) (nj) rfl ?_
    refine⟨_,_,by rw[ab HE9],?_,?_,hbf⟩
    ·rw[ab HE9]
     exact ez hOf (by omega)
    ·rw[ab HE9]
     exact ez hPf (by omega)
   ·skip
    refine wp_region_held_drew (S:=(fun W=>W.heap[w.heap.size]? =some (.cells #[.int .i64 s,.int .i64 t,.int .i64 k,.int .i64 z,.int .i64 q,.int .i64 l,.int .i64 e,.bool b,.int .i64 v,.int .i64 r] 24 (0,0))∧W.heap[w.heap.size+1]? =some (.cells #[.int .i64 m,.slice a len cap] 27 (0,0)))) (oc) ?_ (fun hHeld=>?_)
    ·(try dsimp only);exact⟨bJ,bS⟩
    refine kT 0 ?_ ?_ ?_
    rotate_left
    ·(intro w9 hSw;(try dsimp only at hSw);obtain⟨q0,q1⟩:=hSw;obtain⟨g0x0,g0x1,g0x2,g0x3,g0x4,g0x5,g0x6,g0x7,g0x8,g0x9⟩:=cZ q0;go_simp<;>with_reducible rfl)
    try simp only[Act.put,tA,tZ,tS]
    refine kT 1 ?_ ?_ ?_
    rotate_left
    ·(intro w9 hSw;(try dsimp only at hSw);obtain⟨q0,q1⟩:=hSw;obtain⟨g1x0,g1x1⟩:=c2 q1;go_simp<;>with_reducible rfl)
    try simp only[Act.put,tA,tZ,tS]
    refine kV 3 ?_
    refine rD 2 (fun K hK=>?_)
    go_simp
    (go_at_call 33;refine(eT m a len cap xs _ ((ab H1).below (ap (Below.refl _ _))) (by omega)).mono ?_;rintro e9 w2 ⟨vc,rfl,hOc,hbw2⟩;obtain⟨ac,cc,rfl⟩:∃ac cc,vc= .slice ac len cc:=(by rcases hOc.2 with⟨rfl,h0⟩|⟨g9,cap9,cur,rfl,_⟩<;>first|exact⟨none,0,by rw[h0]⟩|exact⟨_,_,rfl⟩))
    (try go_wp2_with fail)
    have zw2:=hbw2.size
    (try simp at zw2)
    have bJ:=(hbw2.block (w.heap.size) (sB)).trans bJ
    have bS:=(hbw2.block (w.heap.size+1) (sB)).trans bS
    clear hHeld
    refine hK.out _ _ ?_ (fun hHeld=>?_)
    ·(try dsimp only);exact⟨bJ,bS⟩
    clear hK K
    try simp only[Act.put,tA,tZ,tS]
    have HRc:cO w2 ac len xs:=by
     have h9:aS w2 (w1.drew.heap.size+2) (.slice ac len cc) xs:=by unfold aS;rw[hxl];exact hOc
     obtain⟨a8,c8,e8,H8,_,_⟩:=eo h9 (by omega)
     simp at e8
     obtain⟨rfl,e7,rfl⟩:=e8
     rw[hxl]at H8
     exact H8
    refine rD 4 (fun K hK=>?_)
    go_simp
    (go_at_call 36;refine(l7mark_f s t k z q l e b v r m ac len cc mark _ (by omega)).mono ?_;rintro e9 w3 ⟨v2,rfl,hP3,hbw3⟩)
    (try go_wp2_with fail)
    have zw3:=hbw3.size
    (try simp at zw3)
    have bJ:=(hbw3.block (w.heap.size) (sB)).trans bJ
    have bS:=(hbw3.block (w.heap.size+1) (sB)).trans bS
    clear hHeld
    refine hK.out _ _ ?_ (fun hHeld=>?_)
    ·(try dsimp only);exact⟨bJ,bS⟩
    clear hK K
    try simp only[Act.put,tA,tZ,tS]
    refine kV 5 ?_
    refine kV 6 ?_
    have hO3:aS w3 (w1.drew.heap.size+2) (.slice ac len cc) xs:=by
     have h9:aS w2 (w1.drew.heap.size+2) (.slice ac len cc) xs:=by unfold aS;rw[hxl];exact hOc
     exact aJ h9 (aB hbw3) (fun _ e9=>by cases e9)
    have zz2:w1.heap.size≤w2.heap.size:=hbw2.size
    have zz3:w2.heap.size≤w3.heap.size:=hbw3.size
    have bR3:w3.heap[w.heap.size+1+1]? =some (.cells #[.int .i64 0,.slice none 0 0] 27 (0,0)):=(hbw3.block (w.heap.size+1+1) (by omega)).trans ((hbw2.block (w.heap.size+1+1) (show w.heap.size+1+1<w1.heap.size from hz1)).trans bR1)
    have q0:w3.cell? ⟨w.heap.size+1+1,0,none⟩=some (.int .i64 0):=cA bR3 0
    have q1:w3.cell? ⟨w.heap.size+1+1,1,none⟩=some (.slice none 0 0):=cA bR3 1
    obtain⟨f0,f1⟩:=f2 bR3
    have bRf:((w3.setCell ⟨w.heap.size+1+1,0,none⟩ (.int .i64 m)).setCell ⟨w.heap.size+1+1,1,none⟩ (.slice ac len cc)).heap[w.heap.size+1+1]? =some (.cells #[.int .i64 m,.slice ac len cc] 27 (0,0)):=Joins.block_setCell (Joins.block_setCell bR3 _) _
    have hOf:=al (u:= .slice ac len cc) (p:=⟨w.heap.size+1+1,1,none⟩) (al (u:= .int .i64 m) (p:=⟨w.heap.size+1+1,0,none⟩) hO3 (af hO3 bR3 (by decide))) (af hO3 bR3 (by decide))
    have hPf:=al (u:= .slice ac len cc) (p:=⟨w.heap.size+1+1,1,none⟩) (al (u:= .int .i64 m) (p:=⟨w.heap.size+1+1,0,none⟩) hP3 (af hP3 bR3 (by decide))) (af hP3 bR3 (by decide))
    have hbf:Below w.heap.size w ((w3.setCell ⟨w.heap.size+1+1,0,none⟩ (.int .i64 m)).setCell ⟨w.heap.size+1+1,1,none⟩ (.slice ac len cc)):=av (av (am (am (ap hbw1) hbw2) hbw3) (oa) _) (oa) _
    refine rD 7 (fun K hK=>?_)
    go_simp
    clear hHeld
    refine hK.out _ _ ?_ (fun hHeld=>?_)
    ·(try dsimp only);exact⟨(Below.heap_setCell _ _ _ _ (sC)).trans ((Below.heap_setCell _ _ _ _ (sC)).trans bJ),(Below.heap_setCell _ _ _ _ (sC)).trans ((Below.heap_setCell _ _ _ _ (sC)).trans bS)⟩
    clear hK K
    try simp only[Act.put,tA,tZ,tS]
    refine kV 8 ?_
    refine wpAnyH_done (oc) ?_ _
    clear hHeld q0 q1 f0 f1 bJ bS bR3 hO3 hP3
    generalize ((w3.setCell ⟨w.heap.size+1+1,0,none⟩ (.int .i64 m)).setCell ⟨w.heap.size+1+1,1,none⟩ (.slice ac len cc))=wF at bRf hOf hPf hbf ⊢
    have g0:wF.cell? ⟨w.heap.size+1+1,0,none⟩=some (.int .i64 m):=cA bRf 0
    have g1:wF.cell? ⟨w.heap.size+1+1,1,none⟩=some (.slice ac len cc):=cA bRf 1
    have e9:ej s t k z q l e b v r m xs mark=(m,xs,[]):=by rw[ab HMF];exact if_neg (by omega)
    have HE9:=ae e9
    clear e9 HMF
    go_wp2
    refine bodyPost_ret (v:= .tuple #[.agg #[.int .i64 m,.slice ac len cc],v2]) (nj) rfl ?_
    refine⟨_,_,by rw[ab HE9],?_,?_,hbf⟩
    ·rw[ab HE9]
     exact ez hOf (by show w.heap.size≤w1.heap.size+2;omega)
    ·rw[ab HE9]
     exact ez hPf (by omega)
end Go.Proofs.YtdmhihcipkhecaaGreat
