/- Laid together: what the claim needs of the texts that were built one by one. -/
import Derived.Test.YtdmhihcipkhecaaGreatT4
import Derived.Test.YtdmhihcipkhecaaGreatT5
import Derived.OwnWalk
import Derived.Deep.DeepCutAuto
import Derived.Test.YtdmhihcipkhecaaGreatT0
set_option linter.unusedVariables false
namespace Go.Proofs.YtdmhihcipkhecaaGreat
open Go.ChangeShapes Go.WideShapes Go.ChangeAt Go.RowKit Go.Shelf Go.Maps
set_option linter.unusedSimpArgs false
def eU(r:aC)(d:Bool)(zs:List aC):List aC:=if d=true then dQ (aU r) zs else dP r (dQ (aU r) zs)
theorem restP_s{r x:aC}{d:Bool}{zs:List aC}(h:aU x=aU r):eU r d (x :: zs)=eU r d zs:=by
 have e1:dQ (aU r) (x :: zs)=dQ (aU r) zs:=by
  unfold dQ
  rw[List.filter_cons,if_neg (by simp[h])]
 unfold eU
 rw[e1]
theorem off_c{r x:aC}{zs:List aC}(h:¬ aU x=aU r):dQ (aU r) (x :: zs)=x :: dQ (aU r) zs:=by
 unfold dQ
 rw[List.filter_cons,if_pos (by simp[h])]
theorem lr{r x:aC}{zs:List aC}(h:¬ aU x=aU r):eU r true (x :: zs)=x :: eU r true zs:=by
 unfold eU
 rw[if_pos rfl,if_pos rfl,off_c h]
theorem lu{r x:aC}{zs:List aC}(h:¬ aU x=aU r)(h2:¬ bQ (aU r) (aU x)):eU r false (x :: zs)=x :: eU r false zs:=by
 unfold eU
 rw[if_neg (by simp),if_neg (by simp),off_c h]
 show(if _ then _ else _)=_
 rw[if_neg h2]
theorem lx{r x:aC}{zs:List aC}(h:¬ aU x=aU r)(h2:bQ (aU r) (aU x)):eU r false (x :: zs)=r :: x :: eU r true zs:=by
 unfold eU
 rw[if_neg (by simp),if_pos rfl,off_c h]
 show(if _ then _ else _)=_
 rw[if_pos h2]
theorem gd{r x:aC}:cQ r.ky r.st r.en x.ky x.st x.en=true↔bQ (aU r) (aU x):=gE
set_option maxRecDepth 100000 in
set_option maxHeartbeats 8000000 in
theorem iz(r:aC)(a:Option Addr)(len cap:Nat)(xs:List aC)(w:World)(h:cO w a len xs)(hlen:len≤1000):Calls Tryz.prog 100 #[.slice a len cap,.agg #[.int .i64 r.ky,.int .i64 r.st,.int .i64 r.en,.int .i64 r.an,.int .i64 r.asu,.int .i64 r.ale,.int .i64 r.amo,.int .i64 r.fn,.int .i64 r.fsu,.int .i64 r.fle,.int .i64 r.fmo,.int .i64 r.td,.bool r.tm]] w fun e' w'=>∃v,e'= .returned v∧aS w' w.heap.size v (ci r xs)∧Below w.heap.size w w':=by
 obtain⟨i0,hi,hz0',hz1',hz2'⟩:=info_parts Tryz.infoOr
 have hxl:=h.1
 go_enter Tryz.func100,Tryz.ntmps100
 go_wp2
 go_loopw [5,6,7] (fun ov dv iv wr=>∃(d:Bool) (i:Nat) (ys:List aC),i≤len∧dv= .bool d∧iv= .int .i64 i∧Hid (aS wr (w.heap.size+1) ov ys)∧Hid (ci r xs=ys++eU r d (xs.drop i))∧ys.length≤i+d.toNat∧wr.heap[w.heap.size]? =some (.cells #[.int .i64 r.ky,.int .i64 r.st,.int .i64 r.en,.int .i64 r.an,.int .i64 r.asu,.int .i64 r.ale,.int .i64 r.amo,.int .i64 r.fn,.int .i64 r.fsu,.int .i64 r.fle,.int .i64 r.fmo,.int .i64 r.td,.bool r.tm] 57 (0,0))∧Below w.heap.size w wr) (fun _ _ iv _=>len - (intOf iv).toNat)
 case atStart=>exact⟨false,0,[],Nat.zero_le _,rfl,rfl,ae (cE (W:=w.alloc (.cells #[.int .i64 r.ky,.int .i64 r.st,.int .i64 r.en,.int .i64 r.an,.int .i64 r.asu,.int .i64 r.ale,.int .i64 r.amo,.int .i64 r.fn,.int .i64 r.fsu,.int .i64 r.fle,.int .i64 r.fmo,.int .i64 r.td,.bool r.tm] 57)) (B:=(w.heap.size+1)) _ _ (by simp) (by simp)),ae rfl,by simp,(Below.heap_alloc _ _ _ (by simp)).trans (World.alloc_heap_new w _),ag (aq _ _) _⟩
 case round=>
  obtain⟨d,i,ys,hil,rfl,rfl,HO,HQ,hyl,bR,hbw⟩:=hrel
  have hzr:w.heap.size<wr.heap.size:=(Array.getElem?_eq_some_iff.1 bR).1
  have hlt9:=ae (fun b9 (e9:u5.ownBlock=some b9)=>(World.ownsRow.lt (ab HO) b9 e9).2)
  by_cases hlt:i<len
  ·obtain⟨_,_,hy⟩:=h
   obtain⟨g,o,rfl,hr⟩:=hy.resolve_left (by omega)
   obtain⟨x,hxk⟩:∃x,xs[i]? =some x:=⟨_,List.getElem?_eq_getElem (by omega)⟩
   have hg:g<w.heap.size:=hr.lt (by omega)
   obtain⟨d0,d1,d2,d3,d4,d5,d6,d7,d8,d9,d10,d11,d12⟩:=(hr i _ hxk).below hbw hg
   have Hdr:Hid (xs.drop i=x :: xs.drop (i+1)):=ae (by
    obtain⟨h8,h9⟩:=List.getElem?_eq_some_iff.1 hxk
    rw[List.drop_eq_getElem_cons h8,h9])
   have hgr:g<wr.heap.size:=by omega
   clear hr hy hxk
   go_upto_region 6 with fail
   go_cut [8] (fun pv W=>pv= .pointer (some ⟨wr.heap.size,0,none⟩)∧W.heap[wr.heap.size]? =some (.cells #[.int .i64 x.ky,.int .i64 x.st,.int .i64 x.en,.int .i64 x.an,.int .i64 x.asu,.int .i64 x.ale,.int .i64 x.amo,.int .i64 x.fn,.int .i64 x.fsu,.int .i64 x.fle,.int .i64 x.fmo,.int .i64 x.td,.bool x.tm] 57 (0,0))∧W.heap[w.heap.size]? =some (.cells #[.int .i64 r.ky,.int .i64 r.st,.int .i64 r.en,.int .i64 r.an,.int .i64 r.asu,.int .i64 r.ale,.int .i64 r.amo,.int .i64 r.fn,.int .i64 r.fsu,.int .i64 r.fle,.int .i64 r.fmo,.int .i64 r.td,.bool r.tm] 57 (0,0))∧Hid (aS W (w.heap.size+1) u5 ys)∧Below w.heap.size w W∧wr.heap.size<W.heap.size)
   case first=>
    go_wp2
    go_meet
    exact⟨rfl,World.alloc_heap_new wr _,(Below.heap_alloc wr _ _ hzr).trans bR,ae (World.ownsRow.alloc (ab HO) _),ag hbw _,(by simp)⟩
   case rest=>
    rename World=>wq
    obtain⟨rfl,bG1,bR1,HO1,hb1,hz1⟩:=hcut
    clear HO bR hbw d0 d1 d2 d3 d4 d5 d6 d7 d8 d9 d10 d11 d12
    have g0:=cA bG1 0
    have c0:=cA bR1 0
    have g1:=cA bG1 1
    have c1:=cA bR1 1
    have g2:=cA bG1 2
    have c2:=cA bR1 2
    have g3:=cA bG1 3
    have c3:=cA bR1 3
    have g4:=cA bG1 4
    have c4:=cA bR1 4
    have g5:=cA bG1 5
    have c5:=cA bR1 5
    have g6:=cA bG1 6
    have c6:=cA bR1 6
    have g7:=cA bG1 7
    have c7:=cA bR1 7
    have g8:=cA bG1 8
    have c8:=cA bR1 8
    have g9:=cA bG1 9
    have c9:=cA bR1 9
    have g10:=cA bG1 10
    have cZ:=cA bR1 10
    have g11:=cA bG1 11
    have c11:=cA bR1 11
    have g12:=cA bG1 12
    have c12:=cA bR1 12
    simp only[gA,gZ,gS]at g0 c0 g1 c1 g2 c2 g3 c3 g4 c4 g5 c5 g6 c6 g7 c7 g8 c8 g9 c9 g10 cZ g11 c11 g12 c12
    by_cases k1:x.ky=r.ky
    ·by_cases k2:x.st=r.st
     ·by_cases k3:x.en=r.en
      ·skip
       have hpl:aU x=aU r:=by unfold aU;rw[k1,k2,k3]
       have HS:=ae (restP_s (d:=d) (zs:=xs.drop (i+1)) hpl)
       have b1:(x.ky==r.ky)=true:=by simp[k1]
       have e1:decide (x.ky=r.ky)=true:=by simp[k1]
       have b2:(x.st==r.st)=true:=by simp[k2]
       have e2:decide (x.st=r.st)=true:=by simp[k2]
       have b3:(x.en==r.en)=true:=by simp[k3]
       have e3:decide (x.en=r.en)=true:=by simp[k3]
       clear hpl k1 k2 k3
       go_wp2
       refine⟨⟨d,i+1,ys,by omega,rfl,by go_num,HO1,ae ?_,by omega,bR1,hb1⟩,by simp[intOf];omega⟩
       rw[ab HQ,ab Hdr,ab HS]
      ·skip
       have hne0:¬ aU x=aU r:=fun h9=>k3 (by unfold aU at h9;simp only[Prod.mk.injEq]at h9;exact h9.2.2)
       have Hne:=ae hne0
       have b1:(x.ky==r.ky)=true:=by simp[k1]
       have e1:decide (x.ky=r.ky)=true:=by simp[k1]
       have b2:(x.st==r.st)=true:=by simp[k2]
       have e2:decide (x.st=r.st)=true:=by simp[k2]
       have b3:(x.en==r.en)=false:=by simp[k3]
       have e3:decide (x.en=r.en)=false:=by simp[k3]
       clear hne0 k1 k2 k3
       cases d with
       |true=>
        have hyT:ys.length≤i+1:=hyl
        go_wp2_with (at_builtin;go_loud (refine wpList_append_own _ rfl _ _ 25 rfl (w.heap.size+1) 57 i0 _ 13 104 Tryz.underlying25 hi hz0' hz1' hz2' rfl (by decide) u5 _ _ rfl (World.ownsRow.alloc (ab HO1) _) ⟨wq.heap.size,0,none⟩ 1 1 [.int .i64 x.ky,.int .i64 x.st,.int .i64 x.en,.int .i64 x.an,.int .i64 x.asu,.int .i64 x.ale,.int .i64 x.amo,.int .i64 x.fn,.int .i64 x.fsu,.int .i64 x.fle,.int .i64 x.fmo,.int .i64 x.td,.bool x.tm] rfl rfl (aX wq _ _ _ _ _ _ _ _ _ _ _ _ _ _) (nT) (by unfold maxLen;omega) (by omega) (oa) ?_);intro v5 w5 hownw5 mp hnnw5)
        have hgew5:=ae (fun b9 (e9:(u5:Value).ownBlock=some b9)=>aE (ab HO1) b9 e9)
        have bR5:w5.heap[w.heap.size]? =some (.cells #[.int .i64 r.ky,.int .i64 r.st,.int .i64 r.en,.int .i64 r.an,.int .i64 r.asu,.int .i64 r.ale,.int .i64 r.amo,.int .i64 r.fn,.int .i64 r.fsu,.int .i64 r.fle,.int .i64 r.fmo,.int .i64 r.td,.bool r.tm] 57 (0,0)):=(mp.block (w.heap.size) (oa) (fun e9=>by have:=ab hgew5 _ e9.symm;omega)).trans ((Below.heap_alloc _ _ _ (by omega)).trans bR1)
        have hb5:Below w.heap.size w w5:=(ag hb1 _).grown mp (by have:=hb1.size;simp;omega) (fun b9 e9=>by have:=ab hgew5 b9 e9;omega)
        have hz5:wr.heap.size<w5.heap.size:=by have:=mp.size;simp at this;omega
        clear g0 c0 g1 c1 g2 c2 g3 c3 g4 c4 g5 c5 g6 c6 g7 c7 g8 c8 g9 c9 g10 cZ g11 c11 g12 c12
        go_wp2
        refine⟨⟨true,i+1,ys++[x],by omega,rfl,by go_num,ae (bi hownw5),ae ?_,by simp;omega,bR5,hb5⟩,by simp[intOf];omega⟩
        rw[ab HQ,ab Hdr,lr (ab Hne)]
        simp
       |false=>
        have hyT:ys.length≤i:=hyl
        obtain⟨ah,hah⟩:∃ah,cQ r.ky r.st r.en x.ky x.st x.en=ah:=⟨_,rfl⟩
        have Hah:=ae hah
        clear hah
        go_wp2_with fail
        refine(dO r.ky r.st r.en x.ky x.st x.en _).mono ?_
        rw[ab Hah]
        rintro e9 wl ⟨rfl,hbl⟩
        clear g0 c0 g1 c1 g2 c2 g3 c3 g4 c4 g5 c5 g6 c6 g7 c7 g8 c8 g9 c9 g10 cZ g11 c11 g12 c12
        have bG2:=(hbl.block _ (Array.getElem?_eq_some_iff.1 bG1).1).trans bG1
        have bR2:=(hbl.block _ (Array.getElem?_eq_some_iff.1 bR1).1).trans bR1
        have HO2:Hid (aS wl (w.heap.size+1) u5 ys):=ae (aJ (ab HO1) (aB hbl) (fun _ e9=>by cases e9))
        have hb2:Below w.heap.size w wl:=am hb1 hbl
        have hz2:wr.heap.size<wl.heap.size:=Nat.lt_of_lt_of_le hz1 hbl.size
        have g0:=cA bG2 0
        have c0:=cA bR2 0
        have g1:=cA bG2 1
        have c1:=cA bR2 1
        have g2:=cA bG2 2
        have c2:=cA bR2 2
        have g3:=cA bG2 3
        have c3:=cA bR2 3
        have g4:=cA bG2 4
        have c4:=cA bR2 4
        have g5:=cA bG2 5
        have c5:=cA bR2 5
        have g6:=cA bG2 6
        have c6:=cA bR2 6
        have g7:=cA bG2 7
        have c7:=cA bR2 7
        have g8:=cA bG2 8
        have c8:=cA bR2 8
        have g9:=cA bG2 9
        have c9:=cA bR2 9
        have g10:=cA bG2 10
        have cZ:=cA bR2 10
        have g11:=cA bG2 11
        have c11:=cA bR2 11
        have g12:=cA bG2 12
        have c12:=cA bR2 12
        simp only[gA,gZ,gS]at g0 c0 g1 c1 g2 c2 g3 c3 g4 c4 g5 c5 g6 c6 g7 c7 g8 c8 g9 c9 g10 cZ g11 c11 g12 c12
        cases ah with
        |false=>
         go_wp2_with (at_builtin;go_loud (refine wpList_append_own _ rfl _ _ 25 rfl (w.heap.size+1) 57 i0 _ 13 104 Tryz.underlying25 hi hz0' hz1' hz2' rfl (by decide) u5 _ _ rfl (World.ownsRow.alloc (ab HO2) _) ⟨wl.heap.size,0,none⟩ 1 1 [.int .i64 x.ky,.int .i64 x.st,.int .i64 x.en,.int .i64 x.an,.int .i64 x.asu,.int .i64 x.ale,.int .i64 x.amo,.int .i64 x.fn,.int .i64 x.fsu,.int .i64 x.fle,.int .i64 x.fmo,.int .i64 x.td,.bool x.tm] rfl rfl (aX wl _ _ _ _ _ _ _ _ _ _ _ _ _ _) (nT) (by unfold maxLen;omega) (by omega) (oa) ?_);intro v5 w5 hownw5 mp hnnw5)
         have hgew5:=ae (fun b9 (e9:(u5:Value).ownBlock=some b9)=>aE (ab HO2) b9 e9)
         have bR5:w5.heap[w.heap.size]? =some (.cells #[.int .i64 r.ky,.int .i64 r.st,.int .i64 r.en,.int .i64 r.an,.int .i64 r.asu,.int .i64 r.ale,.int .i64 r.amo,.int .i64 r.fn,.int .i64 r.fsu,.int .i64 r.fle,.int .i64 r.fmo,.int .i64 r.td,.bool r.tm] 57 (0,0)):=(mp.block (w.heap.size) (oa) (fun e9=>by have:=ab hgew5 _ e9.symm;omega)).trans ((Below.heap_alloc _ _ _ (by omega)).trans bR2)
         have hb5:Below w.heap.size w w5:=(ag hb2 _).grown mp (by have:=hb2.size;simp;omega) (fun b9 e9=>by have:=ab hgew5 b9 e9;omega)
         have hz5:wr.heap.size<w5.heap.size:=by have:=mp.size;simp at this;omega
         clear g0 c0 g1 c1 g2 c2 g3 c3 g4 c4 g5 c5 g6 c6 g7 c7 g8 c8 g9 c9 g10 cZ g11 c11 g12 c12
         go_wp2
         refine⟨⟨false,i+1,ys++[x],by omega,rfl,by go_num,ae (bi hownw5),ae ?_,by simp;omega,bR5,hb5⟩,by simp[intOf];omega⟩
         rw[ab HQ,ab Hdr,lu (ab Hne) (fun h9=>by have:=gd.2 h9;rw[ab Hah]at this;cases this)]
         simp
        |true=>
         go_upto_region 10 with(at_builtin;go_loud (refine wpList_append_own _ rfl _ _ 25 rfl (w.heap.size+1) 57 i0 _ 13 104 Tryz.underlying25 hi hz0' hz1' hz2' rfl (by decide) u5 _ _ rfl (World.ownsRow.alloc (ab HO2) _) ⟨wl.heap.size,0,none⟩ 1 1 [.int .i64 r.ky,.int .i64 r.st,.int .i64 r.en,.int .i64 r.an,.int .i64 r.asu,.int .i64 r.ale,.int .i64 r.amo,.int .i64 r.fn,.int .i64 r.fsu,.int .i64 r.fle,.int .i64 r.fmo,.int .i64 r.td,.bool r.tm] rfl rfl (aX wl _ _ _ _ _ _ _ _ _ _ _ _ _ _) (nT) (by unfold maxLen;omega) (by omega) (oa) ?_);intro v3 w3 hownw3 mn hnnw3)
         have hgew3:=ae (fun b9 (e9:(u5:Value).ownBlock=some b9)=>aE (ab HO2) b9 e9)
         have bR3:w3.heap[w.heap.size]? =some (.cells #[.int .i64 r.ky,.int .i64 r.st,.int .i64 r.en,.int .i64 r.an,.int .i64 r.asu,.int .i64 r.ale,.int .i64 r.amo,.int .i64 r.fn,.int .i64 r.fsu,.int .i64 r.fle,.int .i64 r.fmo,.int .i64 r.td,.bool r.tm] 57 (0,0)):=(mn.block (w.heap.size) (oa) (fun e9=>by have:=ab hgew3 _ e9.symm;omega)).trans ((Below.heap_alloc _ _ _ (by omega)).trans bR2)
         have bG3:w3.heap[wr.heap.size]? =some (.cells #[.int .i64 x.ky,.int .i64 x.st,.int .i64 x.en,.int .i64 x.an,.int .i64 x.asu,.int .i64 x.ale,.int .i64 x.amo,.int .i64 x.fn,.int .i64 x.fsu,.int .i64 x.fle,.int .i64 x.fmo,.int .i64 x.td,.bool x.tm] 57 (0,0)):=(mn.block (wr.heap.size) (oa) (fun e9=>by have:=ab hlt9 _ e9.symm;omega)).trans ((Below.heap_alloc _ _ _ (by omega)).trans bG2)
         have hb3:Below w.heap.size w w3:=(ag hb2 _).grown mn (by have:=hb2.size;simp;omega) (fun b9 e9=>by have:=ab hgew3 b9 e9;omega)
         have hz3:wr.heap.size<w3.heap.size:=by have:=mn.size;simp at this;omega
         have HO3:Hid (aS w3 (w.heap.size+1) v3 (ys++[r])):=ae (bi hownw3)
         have hyl3:(ys++[r]).length≤i+2:=by simp;omega
         clear g0 c0 g1 c1 g2 c2 g3 c3 g4 c4 g5 c5 g6 c6 g7 c7 g8 c8 g9 c9 g10 cZ g11 c11 g12 c12 hownw3 mn
         have g0:=cA bG3 0
         have c0:=cA bR3 0
         have g1:=cA bG3 1
         have c1:=cA bR3 1
         have g2:=cA bG3 2
         have c2:=cA bR3 2
         have g3:=cA bG3 3
         have c3:=cA bR3 3
         have g4:=cA bG3 4
         have c4:=cA bR3 4
         have g5:=cA bG3 5
         have c5:=cA bR3 5
         have g6:=cA bG3 6
         have c6:=cA bR3 6
         have g7:=cA bG3 7
         have c7:=cA bR3 7
         have g8:=cA bG3 8
         have c8:=cA bR3 8
         have g9:=cA bG3 9
         have c9:=cA bR3 9
         have g10:=cA bG3 10
         have cZ:=cA bR3 10
         have g11:=cA bG3 11
         have c11:=cA bR3 11
         have g12:=cA bG3 12
         have c12:=cA bR3 12
         simp only[gA,gZ,gS]at g0 c0 g1 c1 g2 c2 g3 c3 g4 c4 g5 c5 g6 c6 g7 c7 g8 c8 g9 c9 g10 cZ g11 c11 g12 c12
         go_wp2_with (at_builtin;go_loud (refine wpList_append_own _ rfl _ _ 25 rfl (w.heap.size+1) 57 i0 _ 13 104 Tryz.underlying25 hi hz0' hz1' hz2' rfl (by decide) v3 _ _ rfl (World.ownsRow.alloc (ab HO3) _) ⟨w3.heap.size,0,none⟩ 1 1 [.int .i64 x.ky,.int .i64 x.st,.int .i64 x.en,.int .i64 x.an,.int .i64 x.asu,.int .i64 x.ale,.int .i64 x.amo,.int .i64 x.fn,.int .i64 x.fsu,.int .i64 x.fle,.int .i64 x.fmo,.int .i64 x.td,.bool x.tm] rfl rfl (aX w3 _ _ _ _ _ _ _ _ _ _ _ _ _ _) (nT) (by unfold maxLen;omega) (by omega) (oa) ?_);intro v5 w5 hownw5 mp hnnw5)
         have hgew5:=ae (fun b9 (e9:(v3:Value).ownBlock=some b9)=>aE (ab HO3) b9 e9)
         have bR5:w5.heap[w.heap.size]? =some (.cells #[.int .i64 r.ky,.int .i64 r.st,.int .i64 r.en,.int .i64 r.an,.int .i64 r.asu,.int .i64 r.ale,.int .i64 r.amo,.int .i64 r.fn,.int .i64 r.fsu,.int .i64 r.fle,.int .i64 r.fmo,.int .i64 r.td,.bool r.tm] 57 (0,0)):=(mp.block (w.heap.size) (oa) (fun e9=>by have:=ab hgew5 _ e9.symm;omega)).trans ((Below.heap_alloc _ _ _ (by omega)).trans bR3)
         have hb5:Below w.heap.size w w5:=(ag hb3 _).grown mp (by have:=hb3.size;simp;omega) (fun b9 e9=>by have:=ab hgew5 b9 e9;omega)
         have hz5:wr.heap.size<w5.heap.size:=by have:=mp.size;simp at this;omega
         clear g0 c0 g1 c1 g2 c2 g3 c3 g4 c4 g5 c5 g6 c6 g7 c7 g8 c8 g9 c9 g10 cZ g11 c11 g12 c12
         go_wp2
         refine⟨⟨true,i+1,(ys++[r])++[x],by omega,rfl,by go_num,ae (bi hownw5),ae ?_,by simp;omega,bR5,hb5⟩,by simp[intOf];omega⟩
         rw[ab HQ,ab Hdr,lx (ab Hne) (gd.1 (ab Hah))]
         simp
     ·skip
      have hne0:¬ aU x=aU r:=fun h9=>k2 (by unfold aU at h9;simp only[Prod.mk.injEq]at h9;exact h9.2.1)
      have Hne:=ae hne0
      have b1:(x.ky==r.ky)=true:=by simp[k1]
      have e1:decide (x.ky=r.ky)=true:=by simp[k1]
      have b2:(x.st==r.st)=false:=by simp[k2]
      have e2:decide (x.st=r.st)=false:=by simp[k2]
      clear hne0 k1 k2
      cases d with
      |true=>
       have hyT:ys.length≤i+1:=hyl
       go_wp2_with (at_builtin;go_loud (refine wpList_append_own _ rfl _ _ 25 rfl (w.heap.size+1) 57 i0 _ 13 104 Tryz.underlying25 hi hz0' hz1' hz2' rfl (by decide) u5 _ _ rfl (World.ownsRow.alloc (ab HO1) _) ⟨wq.heap.size,0,none⟩ 1 1 [.int .i64 x.ky,.int .i64 x.st,.int .i64 x.en,.int .i64 x.an,.int .i64 x.asu,.int .i64 x.ale,.int .i64 x.amo,.int .i64 x.fn,.int .i64 x.fsu,.int .i64 x.fle,.int .i64 x.fmo,.int .i64 x.td,.bool x.tm] rfl rfl (aX wq _ _ _ _ _ _ _ _ _ _ _ _ _ _) (nT) (by unfold maxLen;omega) (by omega) (oa) ?_);intro v5 w5 hownw5 mp hnnw5)
       have hgew5:=ae (fun b9 (e9:(u5:Value).ownBlock=some b9)=>aE (ab HO1) b9 e9)
       have bR5:w5.heap[w.heap.size]? =some (.cells #[.int .i64 r.ky,.int .i64 r.st,.int .i64 r.en,.int .i64 r.an,.int .i64 r.asu,.int .i64 r.ale,.int .i64 r.amo,.int .i64 r.fn,.int .i64 r.fsu,.int .i64 r.fle,.int .i64 r.fmo,.int .i64 r.td,.bool r.tm] 57 (0,0)):=(mp.block (w.heap.size) (oa) (fun e9=>by have:=ab hgew5 _ e9.symm;omega)).trans ((Below.heap_alloc _ _ _ (by omega)).trans bR1)
       have hb5:Below w.heap.size w w5:=(ag hb1 _).grown mp (by have:=hb1.size;simp;omega) (fun b9 e9=>by have:=ab hgew5 b9 e9;omega)
       have hz5:wr.heap.size<w5.heap.size:=by have:=mp.size;simp at this;omega
       clear g0 c0 g1 c1 g2 c2 g3 c3 g4 c4 g5 c5 g6 c6 g7 c7 g8 c8 g9 c9 g10 cZ g11 c11 g12 c12
       go_wp2
       refine⟨⟨true,i+1,ys++[x],by omega,rfl,by go_num,ae (bi hownw5),ae ?_,by simp;omega,bR5,hb5⟩,by simp[intOf];omega⟩
       rw[ab HQ,ab Hdr,lr (ab Hne)]
       simp
      |false=>
       have hyT:ys.length≤i:=hyl
       obtain⟨ah,hah⟩:∃ah,cQ r.ky r.st r.en x.ky x.st x.en=ah:=⟨_,rfl⟩
       have Hah:=ae hah
       clear hah
       go_wp2_with fail
       refine(dO r.ky r.st r.en x.ky x.st x.en _).mono ?_
       rw[ab Hah]
       rintro e9 wl ⟨rfl,hbl⟩
       clear g0 c0 g1 c1 g2 c2 g3 c3 g4 c4 g5 c5 g6 c6 g7 c7 g8 c8 g9 c9 g10 cZ g11 c11 g12 c12
       have bG2:=(hbl.block _ (Array.getElem?_eq_some_iff.1 bG1).1).trans bG1
       have bR2:=(hbl.block _ (Array.getElem?_eq_some_iff.1 bR1).1).trans bR1
       have HO2:Hid (aS wl (w.heap.size+1) u5 ys):=ae (aJ (ab HO1) (aB hbl) (fun _ e9=>by cases e9))
       have hb2:Below w.heap.size w wl:=am hb1 hbl
       have hz2:wr.heap.size<wl.heap.size:=Nat.lt_of_lt_of_le hz1 hbl.size
       have g0:=cA bG2 0
       have c0:=cA bR2 0
       have g1:=cA bG2 1
       have c1:=cA bR2 1
       have g2:=cA bG2 2
       have c2:=cA bR2 2
       have g3:=cA bG2 3
       have c3:=cA bR2 3
       have g4:=cA bG2 4
       have c4:=cA bR2 4
       have g5:=cA bG2 5
       have c5:=cA bR2 5
       have g6:=cA bG2 6
       have c6:=cA bR2 6
       have g7:=cA bG2 7
       have c7:=cA bR2 7
       have g8:=cA bG2 8
       have c8:=cA bR2 8
       have g9:=cA bG2 9
       have c9:=cA bR2 9
       have g10:=cA bG2 10
       have cZ:=cA bR2 10
       have g11:=cA bG2 11
       have c11:=cA bR2 11
       have g12:=cA bG2 12
       have c12:=cA bR2 12
       simp only[gA,gZ,gS]at g0 c0 g1 c1 g2 c2 g3 c3 g4 c4 g5 c5 g6 c6 g7 c7 g8 c8 g9 c9 g10 cZ g11 c11 g12 c12
       cases ah with
       |false=>
        go_wp2_with (at_builtin;go_loud (refine wpList_append_own _ rfl _ _ 25 rfl (w.heap.size+1) 57 i0 _ 13 104 Tryz.underlying25 hi hz0' hz1' hz2' rfl (by decide) u5 _ _ rfl (World.ownsRow.alloc (ab HO2) _) ⟨wl.heap.size,0,none⟩ 1 1 [.int .i64 x.ky,.int .i64 x.st,.int .i64 x.en,.int .i64 x.an,.int .i64 x.asu,.int .i64 x.ale,.int .i64 x.amo,.int .i64 x.fn,.int .i64 x.fsu,.int .i64 x.fle,.int .i64 x.fmo,.int .i64 x.td,.bool x.tm] rfl rfl (aX wl _ _ _ _ _ _ _ _ _ _ _ _ _ _) (nT) (by unfold maxLen;omega) (by omega) (oa) ?_);intro v5 w5 hownw5 mp hnnw5)
        have hgew5:=ae (fun b9 (e9:(u5:Value).ownBlock=some b9)=>aE (ab HO2) b9 e9)
        have bR5:w5.heap[w.heap.size]? =some (.cells #[.int .i64 r.ky,.int .i64 r.st,.int .i64 r.en,.int .i64 r.an,.int .i64 r.asu,.int .i64 r.ale,.int .i64 r.amo,.int .i64 r.fn,.int .i64 r.fsu,.int .i64 r.fle,.int .i64 r.fmo,.int .i64 r.td,.bool r.tm] 57 (0,0)):=(mp.block (w.heap.size) (oa) (fun e9=>by have:=ab hgew5 _ e9.symm;omega)).trans ((Below.heap_alloc _ _ _ (by omega)).trans bR2)
        have hb5:Below w.heap.size w w5:=(ag hb2 _).grown mp (by have:=hb2.size;simp;omega) (fun b9 e9=>by have:=ab hgew5 b9 e9;omega)
        have hz5:wr.heap.size<w5.heap.size:=by have:=mp.size;simp at this;omega
        clear g0 c0 g1 c1 g2 c2 g3 c3 g4 c4 g5 c5 g6 c6 g7 c7 g8 c8 g9 c9 g10 cZ g11 c11 g12 c12
        go_wp2
        refine⟨⟨false,i+1,ys++[x],by omega,rfl,by go_num,ae (bi hownw5),ae ?_,by simp;omega,bR5,hb5⟩,by simp[intOf];omega⟩
        rw[ab HQ,ab Hdr,lu (ab Hne) (fun h9=>by have:=gd.2 h9;rw[ab Hah]at this;cases this)]
        simp
       |true=>
        go_upto_region 10 with(at_builtin;go_loud (refine wpList_append_own _ rfl _ _ 25 rfl (w.heap.size+1) 57 i0 _ 13 104 Tryz.underlying25 hi hz0' hz1' hz2' rfl (by decide) u5 _ _ rfl (World.ownsRow.alloc (ab HO2) _) ⟨wl.heap.size,0,none⟩ 1 1 [.int .i64 r.ky,.int .i64 r.st,.int .i64 r.en,.int .i64 r.an,.int .i64 r.asu,.int .i64 r.ale,.int .i64 r.amo,.int .i64 r.fn,.int .i64 r.fsu,.int .i64 r.fle,.int .i64 r.fmo,.int .i64 r.td,.bool r.tm] rfl rfl (aX wl _ _ _ _ _ _ _ _ _ _ _ _ _ _) (nT) (by unfold maxLen;omega) (by omega) (oa) ?_);intro v3 w3 hownw3 mn hnnw3)
        have hgew3:=ae (fun b9 (e9:(u5:Value).ownBlock=some b9)=>aE (ab HO2) b9 e9)
        have bR3:w3.heap[w.heap.size]? =some (.cells #[.int .i64 r.ky,.int .i64 r.st,.int .i64 r.en,.int .i64 r.an,.int .i64 r.asu,.int .i64 r.ale,.int .i64 r.amo,.int .i64 r.fn,.int .i64 r.fsu,.int .i64 r.fle,.int .i64 r.fmo,.int .i64 r.td,.bool r.tm] 57 (0,0)):=(mn.block (w.heap.size) (oa) (fun e9=>by have:=ab hgew3 _ e9.symm;omega)).trans ((Below.heap_alloc _ _ _ (by omega)).trans bR2)
        have bG3:w3.heap[wr.heap.size]? =some (.cells #[.int .i64 x.ky,.int .i64 x.st,.int .i64 x.en,.int .i64 x.an,.int .i64 x.asu,.int .i64 x.ale,.int .i64 x.amo,.int .i64 x.fn,.int .i64 x.fsu,.int .i64 x.fle,.int .i64 x.fmo,.int .i64 x.td,.bool x.tm] 57 (0,0)):=(mn.block (wr.heap.size) (oa) (fun e9=>by have:=ab hlt9 _ e9.symm;omega)).trans ((Below.heap_alloc _ _ _ (by omega)).trans bG2)
        have hb3:Below w.heap.size w w3:=(ag hb2 _).grown mn (by have:=hb2.size;simp;omega) (fun b9 e9=>by have:=ab hgew3 b9 e9;omega)
        have hz3:wr.heap.size<w3.heap.size:=by have:=mn.size;simp at this;omega
        have HO3:Hid (aS w3 (w.heap.size+1) v3 (ys++[r])):=ae (bi hownw3)
        have hyl3:(ys++[r]).length≤i+2:=by simp;omega
        clear g0 c0 g1 c1 g2 c2 g3 c3 g4 c4 g5 c5 g6 c6 g7 c7 g8 c8 g9 c9 g10 cZ g11 c11 g12 c12 hownw3 mn
        have g0:=cA bG3 0
        have c0:=cA bR3 0
        have g1:=cA bG3 1
        have c1:=cA bR3 1
        have g2:=cA bG3 2
        have c2:=cA bR3 2
        have g3:=cA bG3 3
        have c3:=cA bR3 3
        have g4:=cA bG3 4
        have c4:=cA bR3 4
        have g5:=cA bG3 5
        have c5:=cA bR3 5
        have g6:=cA bG3 6
        have c6:=cA bR3 6
        have g7:=cA bG3 7
        have c7:=cA bR3 7
        have g8:=cA bG3 8
        have c8:=cA bR3 8
        have g9:=cA bG3 9
        have c9:=cA bR3 9
        have g10:=cA bG3 10
        have cZ:=cA bR3 10
        have g11:=cA bG3 11
        have c11:=cA bR3 11
        have g12:=cA bG3 12
        have c12:=cA bR3 12
        simp only[gA,gZ,gS]at g0 c0 g1 c1 g2 c2 g3 c3 g4 c4 g5 c5 g6 c6 g7 c7 g8 c8 g9 c9 g10 cZ g11 c11 g12 c12
        go_wp2_with (at_builtin;go_loud (refine wpList_append_own _ rfl _ _ 25 rfl (w.heap.size+1) 57 i0 _ 13 104 Tryz.underlying25 hi hz0' hz1' hz2' rfl (by decide) v3 _ _ rfl (World.ownsRow.alloc (ab HO3) _) ⟨w3.heap.size,0,none⟩ 1 1 [.int .i64 x.ky,.int .i64 x.st,.int .i64 x.en,.int .i64 x.an,.int .i64 x.asu,.int .i64 x.ale,.int .i64 x.amo,.int .i64 x.fn,.int .i64 x.fsu,.int .i64 x.fle,.int .i64 x.fmo,.int .i64 x.td,.bool x.tm] rfl rfl (aX w3 _ _ _ _ _ _ _ _ _ _ _ _ _ _) (nT) (by unfold maxLen;omega) (by omega) (oa) ?_);intro v5 w5 hownw5 mp hnnw5)
        have hgew5:=ae (fun b9 (e9:(v3:Value).ownBlock=some b9)=>aE (ab HO3) b9 e9)
        have bR5:w5.heap[w.heap.size]? =some (.cells #[.int .i64 r.ky,.int .i64 r.st,.int .i64 r.en,.int .i64 r.an,.int .i64 r.asu,.int .i64 r.ale,.int .i64 r.amo,.int .i64 r.fn,.int .i64 r.fsu,.int .i64 r.fle,.int .i64 r.fmo,.int .i64 r.td,.bool r.tm] 57 (0,0)):=(mp.block (w.heap.size) (oa) (fun e9=>by have:=ab hgew5 _ e9.symm;omega)).trans ((Below.heap_alloc _ _ _ (by omega)).trans bR3)
        have hb5:Below w.heap.size w w5:=(ag hb3 _).grown mp (by have:=hb3.size;simp;omega) (fun b9 e9=>by have:=ab hgew5 b9 e9;omega)
        have hz5:wr.heap.size<w5.heap.size:=by have:=mp.size;simp at this;omega
        clear g0 c0 g1 c1 g2 c2 g3 c3 g4 c4 g5 c5 g6 c6 g7 c7 g8 c8 g9 c9 g10 cZ g11 c11 g12 c12
        go_wp2
        refine⟨⟨true,i+1,(ys++[r])++[x],by omega,rfl,by go_num,ae (bi hownw5),ae ?_,by simp;omega,bR5,hb5⟩,by simp[intOf];omega⟩
        rw[ab HQ,ab Hdr,lx (ab Hne) (gd.1 (ab Hah))]
        simp
    ·skip
     have hne0:¬ aU x=aU r:=fun h9=>k1 (by unfold aU at h9;simp only[Prod.mk.injEq]at h9;exact h9.1)
     have Hne:=ae hne0
     have b1:(x.ky==r.ky)=false:=by simp[k1]
     have e1:decide (x.ky=r.ky)=false:=by simp[k1]
     clear hne0 k1
     cases d with
     |true=>
      have hyT:ys.length≤i+1:=hyl
      go_wp2_with (at_builtin;go_loud (refine wpList_append_own _ rfl _ _ 25 rfl (w.heap.size+1) 57 i0 _ 13 104 Tryz.underlying25 hi hz0' hz1' hz2' rfl (by decide) u5 _ _ rfl (World.ownsRow.alloc (ab HO1) _) ⟨wq.heap.size,0,none⟩ 1 1 [.int .i64 x.ky,.int .i64 x.st,.int .i64 x.en,.int .i64 x.an,.int .i64 x.asu,.int .i64 x.ale,.int .i64 x.amo,.int .i64 x.fn,.int .i64 x.fsu,.int .i64 x.fle,.int .i64 x.fmo,.int .i64 x.td,.bool x.tm] rfl rfl (aX wq _ _ _ _ _ _ _ _ _ _ _ _ _ _) (nT) (by unfold maxLen;omega) (by omega) (oa) ?_);intro v5 w5 hownw5 mp hnnw5)
      have hgew5:=ae (fun b9 (e9:(u5:Value).ownBlock=some b9)=>aE (ab HO1) b9 e9)
      have bR5:w5.heap[w.heap.size]? =some (.cells #[.int .i64 r.ky,.int .i64 r.st,.int .i64 r.en,.int .i64 r.an,.int .i64 r.asu,.int .i64 r.ale,.int .i64 r.amo,.int .i64 r.fn,.int .i64 r.fsu,.int .i64 r.fle,.int .i64 r.fmo,.int .i64 r.td,.bool r.tm] 57 (0,0)):=(mp.block (w.heap.size) (oa) (fun e9=>by have:=ab hgew5 _ e9.symm;omega)).trans ((Below.heap_alloc _ _ _ (by omega)).trans bR1)
      have hb5:Below w.heap.size w w5:=(ag hb1 _).grown mp (by have:=hb1.size;simp;omega) (fun b9 e9=>by have:=ab hgew5 b9 e9;omega)
      have hz5:wr.heap.size<w5.heap.size:=by have:=mp.size;simp at this;omega
      clear g0 c0 g1 c1 g2 c2 g3 c3 g4 c4 g5 c5 g6 c6 g7 c7 g8 c8 g9 c9 g10 cZ g11 c11 g12 c12
      go_wp2
      refine⟨⟨true,i+1,ys++[x],by omega,rfl,by go_num,ae (bi hownw5),ae ?_,by simp;omega,bR5,hb5⟩,by simp[intOf];omega⟩
      rw[ab HQ,ab Hdr,lr (ab Hne)]
      simp
     |false=>
      have hyT:ys.length≤i:=hyl
      obtain⟨ah,hah⟩:∃ah,cQ r.ky r.st r.en x.ky x.st x.en=ah:=⟨_,rfl⟩
      have Hah:=ae hah
      clear hah
      go_wp2_with fail
      refine(dO r.ky r.st r.en x.ky x.st x.en _).mono ?_
      rw[ab Hah]
      rintro e9 wl ⟨rfl,hbl⟩
      clear g0 c0 g1 c1 g2 c2 g3 c3 g4 c4 g5 c5 g6 c6 g7 c7 g8 c8 g9 c9 g10 cZ g11 c11 g12 c12
      have bG2:=(hbl.block _ (Array.getElem?_eq_some_iff.1 bG1).1).trans bG1
      have bR2:=(hbl.block _ (Array.getElem?_eq_some_iff.1 bR1).1).trans bR1
      have HO2:Hid (aS wl (w.heap.size+1) u5 ys):=ae (aJ (ab HO1) (aB hbl) (fun _ e9=>by cases e9))
      have hb2:Below w.heap.size w wl:=am hb1 hbl
      have hz2:wr.heap.size<wl.heap.size:=Nat.lt_of_lt_of_le hz1 hbl.size
      have g0:=cA bG2 0
      have c0:=cA bR2 0
      have g1:=cA bG2 1
      have c1:=cA bR2 1
      have g2:=cA bG2 2
      have c2:=cA bR2 2
      have g3:=cA bG2 3
      have c3:=cA bR2 3
      have g4:=cA bG2 4
      have c4:=cA bR2 4
      have g5:=cA bG2 5
      have c5:=cA bR2 5
      have g6:=cA bG2 6
      have c6:=cA bR2 6
      have g7:=cA bG2 7
      have c7:=cA bR2 7
      have g8:=cA bG2 8
      have c8:=cA bR2 8
      have g9:=cA bG2 9
      have c9:=cA bR2 9
      have g10:=cA bG2 10
      have cZ:=cA bR2 10
      have g11:=cA bG2 11
      have c11:=cA bR2 11
      have g12:=cA bG2 12
      have c12:=cA bR2 12
      simp only[gA,gZ,gS]at g0 c0 g1 c1 g2 c2 g3 c3 g4 c4 g5 c5 g6 c6 g7 c7 g8 c8 g9 c9 g10 cZ g11 c11 g12 c12
      cases ah with
      |false=>
       go_wp2_with (at_builtin;go_loud (refine wpList_append_own _ rfl _ _ 25 rfl (w.heap.size+1) 57 i0 _ 13 104 Tryz.underlying25 hi hz0' hz1' hz2' rfl (by decide) u5 _ _ rfl (World.ownsRow.alloc (ab HO2) _) ⟨wl.heap.size,0,none⟩ 1 1 [.int .i64 x.ky,.int .i64 x.st,.int .i64 x.en,.int .i64 x.an,.int .i64 x.asu,.int .i64 x.ale,.int .i64 x.amo,.int .i64 x.fn,.int .i64 x.fsu,.int .i64 x.fle,.int .i64 x.fmo,.int .i64 x.td,.bool x.tm] rfl rfl (aX wl _ _ _ _ _ _ _ _ _ _ _ _ _ _) (nT) (by unfold maxLen;omega) (by omega) (oa) ?_);intro v5 w5 hownw5 mp hnnw5)
       have hgew5:=ae (fun b9 (e9:(u5:Value).ownBlock=some b9)=>aE (ab HO2) b9 e9)
       have bR5:w5.heap[w.heap.size]? =some (.cells #[.int .i64 r.ky,.int .i64 r.st,.int .i64 r.en,.int .i64 r.an,.int .i64 r.asu,.int .i64 r.ale,.int .i64 r.amo,.int .i64 r.fn,.int .i64 r.fsu,.int .i64 r.fle,.int .i64 r.fmo,.int .i64 r.td,.bool r.tm] 57 (0,0)):=(mp.block (w.heap.size) (oa) (fun e9=>by have:=ab hgew5 _ e9.symm;omega)).trans ((Below.heap_alloc _ _ _ (by omega)).trans bR2)
       have hb5:Below w.heap.size w w5:=(ag hb2 _).grown mp (by have:=hb2.size;simp;omega) (fun b9 e9=>by have:=ab hgew5 b9 e9;omega)
       have hz5:wr.heap.size<w5.heap.size:=by have:=mp.size;simp at this;omega
       clear g0 c0 g1 c1 g2 c2 g3 c3 g4 c4 g5 c5 g6 c6 g7 c7 g8 c8 g9 c9 g10 cZ g11 c11 g12 c12
       go_wp2
       refine⟨⟨false,i+1,ys++[x],by omega,rfl,by go_num,ae (bi hownw5),ae ?_,by simp;omega,bR5,hb5⟩,by simp[intOf];omega⟩
       rw[ab HQ,ab Hdr,lu (ab Hne) (fun h9=>by have:=gd.2 h9;rw[ab Hah]at this;cases this)]
       simp
      |true=>
       go_upto_region 10 with(at_builtin;go_loud (refine wpList_append_own _ rfl _ _ 25 rfl (w.heap.size+1) 57 i0 _ 13 104 Tryz.underlying25 hi hz0' hz1' hz2' rfl (by decide) u5 _ _ rfl (World.ownsRow.alloc (ab HO2) _) ⟨wl.heap.size,0,none⟩ 1 1 [.int .i64 r.ky,.int .i64 r.st,.int .i64 r.en,.int .i64 r.an,.int .i64 r.asu,.int .i64 r.ale,.int .i64 r.amo,.int .i64 r.fn,.int .i64 r.fsu,.int .i64 r.fle,.int .i64 r.fmo,.int .i64 r.td,.bool r.tm] rfl rfl (aX wl _ _ _ _ _ _ _ _ _ _ _ _ _ _) (nT) (by unfold maxLen;omega) (by omega) (oa) ?_);intro v3 w3 hownw3 mn hnnw3)
       have hgew3:=ae (fun b9 (e9:(u5:Value).ownBlock=some b9)=>aE (ab HO2) b9 e9)
       have bR3:w3.heap[w.heap.size]? =some (.cells #[.int .i64 r.ky,.int .i64 r.st,.int .i64 r.en,.int .i64 r.an,.int .i64 r.asu,.int .i64 r.ale,.int .i64 r.amo,.int .i64 r.fn,.int .i64 r.fsu,.int .i64 r.fle,.int .i64 r.fmo,.int .i64 r.td,.bool r.tm] 57 (0,0)):=(mn.block (w.heap.size) (oa) (fun e9=>by have:=ab hgew3 _ e9.symm;omega)).trans ((Below.heap_alloc _ _ _ (by omega)).trans bR2)
       have bG3:w3.heap[wr.heap.size]? =some (.cells #[.int .i64 x.ky,.int .i64 x.st,.int .i64 x.en,.int .i64 x.an,.int .i64 x.asu,.int .i64 x.ale,.int .i64 x.amo,.int .i64 x.fn,.int .i64 x.fsu,.int .i64 x.fle,.int .i64 x.fmo,.int .i64 x.td,.bool x.tm] 57 (0,0)):=(mn.block (wr.heap.size) (oa) (fun e9=>by have:=ab hlt9 _ e9.symm;omega)).trans ((Below.heap_alloc _ _ _ (by omega)).trans bG2)
       have hb3:Below w.heap.size w w3:=(ag hb2 _).grown mn (by have:=hb2.size;simp;omega) (fun b9 e9=>by have:=ab hgew3 b9 e9;omega)
       have hz3:wr.heap.size<w3.heap.size:=by have:=mn.size;simp at this;omega
       have HO3:Hid (aS w3 (w.heap.size+1) v3 (ys++[r])):=ae (bi hownw3)
       have hyl3:(ys++[r]).length≤i+2:=by simp;omega
       clear g0 c0 g1 c1 g2 c2 g3 c3 g4 c4 g5 c5 g6 c6 g7 c7 g8 c8 g9 c9 g10 cZ g11 c11 g12 c12 hownw3 mn
       have g0:=cA bG3 0
       have c0:=cA bR3 0
       have g1:=cA bG3 1
       have c1:=cA bR3 1
       have g2:=cA bG3 2
       have c2:=cA bR3 2
       have g3:=cA bG3 3
       have c3:=cA bR3 3
       have g4:=cA bG3 4
       have c4:=cA bR3 4
       have g5:=cA bG3 5
       have c5:=cA bR3 5
       have g6:=cA bG3 6
       have c6:=cA bR3 6
       have g7:=cA bG3 7
       have c7:=cA bR3 7
       have g8:=cA bG3 8
       have c8:=cA bR3 8
       have g9:=cA bG3 9
       have c9:=cA bR3 9
       have g10:=cA bG3 10
       have cZ:=cA bR3 10
       have g11:=cA bG3 11
       have c11:=cA bR3 11
       have g12:=cA bG3 12
       have c12:=cA bR3 12
       simp only[gA,gZ,gS]at g0 c0 g1 c1 g2 c2 g3 c3 g4 c4 g5 c5 g6 c6 g7 c7 g8 c8 g9 c9 g10 cZ g11 c11 g12 c12
       go_wp2_with (at_builtin;go_loud (refine wpList_append_own _ rfl _ _ 25 rfl (w.heap.size+1) 57 i0 _ 13 104 Tryz.underlying25 hi hz0' hz1' hz2' rfl (by decide) v3 _ _ rfl (World.ownsRow.alloc (ab HO3) _) ⟨w3.heap.size,0,none⟩ 1 1 [.int .i64 x.ky,.int .i64 x.st,.int .i64 x.en,.int .i64 x.an,.int .i64 x.asu,.int .i64 x.ale,.int .i64 x.amo,.int .i64 x.fn,.int .i64 x.fsu,.int .i64 x.fle,.int .i64 x.fmo,.int .i64 x.td,.bool x.tm] rfl rfl (aX w3 _ _ _ _ _ _ _ _ _ _ _ _ _ _) (nT) (by unfold maxLen;omega) (by omega) (oa) ?_);intro v5 w5 hownw5 mp hnnw5)
       have hgew5:=ae (fun b9 (e9:(v3:Value).ownBlock=some b9)=>aE (ab HO3) b9 e9)
       have bR5:w5.heap[w.heap.size]? =some (.cells #[.int .i64 r.ky,.int .i64 r.st,.int .i64 r.en,.int .i64 r.an,.int .i64 r.asu,.int .i64 r.ale,.int .i64 r.amo,.int .i64 r.fn,.int .i64 r.fsu,.int .i64 r.fle,.int .i64 r.fmo,.int .i64 r.td,.bool r.tm] 57 (0,0)):=(mp.block (w.heap.size) (oa) (fun e9=>by have:=ab hgew5 _ e9.symm;omega)).trans ((Below.heap_alloc _ _ _ (by omega)).trans bR3)
       have hb5:Below w.heap.size w w5:=(ag hb3 _).grown mp (by have:=hb3.size;simp;omega) (fun b9 e9=>by have:=ab hgew5 b9 e9;omega)
       have hz5:wr.heap.size<w5.heap.size:=by have:=mp.size;simp at this;omega
       clear g0 c0 g1 c1 g2 c2 g3 c3 g4 c4 g5 c5 g6 c6 g7 c7 g8 c8 g9 c9 g10 cZ g11 c11 g12 c12
       go_wp2
       refine⟨⟨true,i+1,(ys++[r])++[x],by omega,rfl,by go_num,ae (bi hownw5),ae ?_,by simp;omega,bR5,hb5⟩,by simp[intOf];omega⟩
       rw[ab HQ,ab Hdr,lx (ab Hne) (gd.1 (ab Hah))]
       simp
  ·obtain rfl:i=len:=by omega
   have HD0:Hid (ci r xs=ys++eU r d []):=by have h9:=ab HQ;rw[List.drop_of_length_le (by omega)]at h9;exact ae h9
   cases d with
   |true=>
    go_wp2
    go_ret
    refine⟨_,rfl,?_,hbw⟩
    rw[ab HD0]
    show aS wr w.heap.size _ (ys++[])
    rw[List.append_nil]
    exact World.ownsRow.mono (ab HO) (by omega)
   |false=>
    have hyT:ys.length≤i:=hyl
    obtain⟨c0,c1,c2,c3,c4,c5,c6,c7,c8,c9,cZ,c11,c12⟩:=eu bR
    have hgeE:=ae (fun b9 (e9:u5.ownBlock=some b9)=>aE (ab HO) b9 e9)
    go_wp2_with (at_builtin;go_loud (refine wpList_append_own _ rfl _ _ 25 rfl (w.heap.size+1) 57 i0 _ 13 104 Tryz.underlying25 hi hz0' hz1' hz2' rfl (by decide) u5 _ _ rfl (World.ownsRow.alloc (ab HO) _) ⟨wr.heap.size,0,none⟩ 1 1 [.int .i64 r.ky,.int .i64 r.st,.int .i64 r.en,.int .i64 r.an,.int .i64 r.asu,.int .i64 r.ale,.int .i64 r.amo,.int .i64 r.fn,.int .i64 r.fsu,.int .i64 r.fle,.int .i64 r.fmo,.int .i64 r.td,.bool r.tm] rfl rfl (aX wr _ _ _ _ _ _ _ _ _ _ _ _ _ _) (nT) (by unfold maxLen;omega) (by omega) (oa) ?_);intro v5 w5 hownw5 mp hnnw5)
    have hb5:Below w.heap.size w w5:=(ag hbw _).grown mp (by have:=hbw.size;simp;omega) (fun b9 e9=>by have:=ab hgeE b9 e9;omega)
    go_ret
    refine⟨_,rfl,?_,hb5⟩
    rw[ab HD0]
    exact World.ownsRow.mono (bi hownw5) (by omega)
end Go.Proofs.YtdmhihcipkhecaaGreat
