/- Laid together: what the claim needs of the texts that were built one by one. -/
import Derived.Test.YtdmhihcipkhecaaGreatT27
import Derived.Test.YtdmhihcipkhecaaGreatT12
import Derived.Test.YtdmhihcipkhecaaGreatT3
import Derived.Test.YtdmhihcipkhecaaGreatT0
set_option linter.unusedVariables false
namespace Go.Proofs.YtdmhihcipkhecaaGreat
open Go.ChangeShapes Go.WideShapes Go.ChangeAt Go.RowKit Go.Shelf Go.Maps
set_option linter.unusedSimpArgs false
def turnX(ty:TypeId):Bool:=ty==57||ty==52||ty==75||ty==59
def fA(ses:Bool)(ky st en:Int)(es:List bz):List bz:=if ses=true then es.filter (fun e=>bw ky st en e.2)else(es.find? (fun e=>decide (aU e.2=(ky,st,en)))).toList
theorem metE_rows(ses:Bool)(ky st en:Int)(es:List bz):aH (fA ses ky st en es)=gF ses ky st en (aH es):=by
 unfold fA gF
 cases ses with
 |true=>
  rw[if_pos rfl,if_pos rfl]
  unfold aH
  rw[List.filter_map]
  rfl
 |false=>
  rw[if_neg (by decide),if_neg (by decide)]
  unfold aH dw
  rw[List.find?_map]
  show _=((es.find? (fun e=>decide (aU e.2=(ky,st,en)))).map (fun e=>e.2)).toList
  cases es.find? (fun e=>decide (aU e.2=(ky,st,en)))<;>rfl
theorem metE_sub(ses:Bool)(ky st en:Int)(es:List bz):(fA ses ky st en es).Sublist es:=by
 unfold fA
 cases ses with
 |true=>rw[if_pos rfl];exact List.filter_sublist
 |false=>
  rw[if_neg (by decide)]
  cases hf:es.find? (fun e=>decide (aU e.2=(ky,st,en)))with
  |none=>exact List.nil_sublist _
  |some e0=>exact List.singleton_sublist.2 (List.mem_of_find?_eq_some hf)
theorem met_any(Bo B mb nn:Nat)(s t k z q l e:Int)(b:Bool)(v r m:Int)(pv lv:Value)(es:List bz)(ky st en:Int)(w:World)(hO:w.heap[Bo]? =some (.cells #[.int .i64 s,.int .i64 t,.int .i64 k,.int .i64 z,.int .i64 q,.int .i64 l,.int .i64 e,.bool b,.int .i64 v,.int .i64 r,.int .i64 m,.map (some (mb)),pv,lv] 75 (0,0)))(hR:bD w B mb nn es)(hrise:eb es)(hok:∀e ∈ es,gx (aU e.2))(hnn:nn≤1000)(hesl:es.length≤nn)(hky:gx (ky,st,en)):Calls Tryz.prog 78 #[.pointer (some ⟨Bo,0,none⟩),.agg #[.int .i64 ky,.int .i64 st,.int .i64 en]] w fun e' w'=>∃v',e'= .returned v'∧fc w' w.heap.size v' ((fA (decide (k=3)) ky st en es).map (fun e=>e.1))∧Below w.heap.size w w':=by
 by_cases hk:k=3
 ·have h9:=metses_any Bo B mb nn s t k z q l e b v r m pv lv es ky st en w hO hR hrise hok hnn hesl hk
  have e9:fA (decide (k=3)) ky st en es=es.filter (fun e=>bw ky st en e.2):=by unfold fA;rw[if_pos (by simp[hk])]
  rw[e9]
  exact h9
 ·have h9:=metlook_any Bo B mb nn s t k z q l e b v r m pv lv es ky st en w hO hR hrise hok hnn hesl hk hky
  have e9:fA (decide (k=3)) ky st en es=(es.find? (fun e=>decide (aU e.2=(ky,st,en)))).toList:=by unfold fA;rw[if_neg (by simp[hk])]
  rw[e9]
  exact h9
theorem span_isO{a b c d x y:Int}(w:World)(h:Hid ((ft a c,fp b d)=(x,y))):Calls Tryz.prog 79 #[.agg #[.int .i64 a,.int .i64 b],.agg #[.int .i64 c,.int .i64 d]] w fun e w'=>e= .returned (.agg #[.int .i64 x,.int .i64 y])∧Below w.heap.size w w':=by
 have h9:=ab h
 simp only[Prod.mk.injEq]at h9
 obtain⟨rfl,rfl⟩:=h9
 exact span_any a b c d w
theorem jQ:∀(old:List aC) (st en:Int),(dq st en old).1≤st∧en≤(dq st en old).2
 | [],_,_=>⟨Int.le_refl _,Int.le_refl _⟩
 |x :: old,st,en=>by
  have ih:=jQ old (ft st x.st) (fp en x.en)
  have h1:ft st x.st≤st:=by unfold ft;split<;>omega
  have h2:en≤fp en x.en:=by unfold fp;split<;>omega
  exact⟨Int.le_trans ih.1 h1,Int.le_trans h2 ih.2⟩
/-- What a window meets is all of the place that comes of it. -/
theorem met_free{ses:Bool}{ky st en p1 p2:Int}{es:List bz}(hw:st<en)(hsp:dq st en (aH (fA ses ky st en es))=(p1,p2))(hone:dV (p1,p2) (aH (fA ses ky st en es))=false):∀e ∈ fy (fA ses ky st en es) es,¬ aU e.2=(ky,p1,p2):=by
 intro e0 he0 hpl
 have hes:=offM_mem he0
 have hno:∀y ∈ fA ses ky st en es,¬ aU y.2=aU e0.2:=by
  have h9:=(List.mem_filter.1 he0).2
  simp only[Bool.not_eq_true',List.any_eq_false,decide_eq_true_eq]at h9
  exact h9
 have hsw:=jQ (aH (fA ses ky st en es)) st en
 rw[hsp]at hsw
 dsimp only at hsw
 cases ses with
 |true=>
  refine hno e0 ?_ rfl
  unfold fA
  rw[if_pos rfl]
  refine List.mem_filter.2 ⟨hes,?_⟩
  unfold aU at hpl
  simp only[Prod.mk.injEq]at hpl
  obtain⟨h1,h2,h3⟩:=hpl
  unfold bw bg
  rw[h1,h2,h3]
  simp
  omega
 |false=>
  unfold fA at hno hsp hone
  rw[if_neg (by decide)]at hno hsp hone
  cases hf:es.find? (fun e=>decide (aU e.2=(ky,st,en)))with
  |none=>
   rw[hf]at hsp
   have h9:(st,en)=(p1,p2):=hsp
   simp only[Prod.mk.injEq]at h9
   obtain⟨rfl,rfl⟩:=h9
   have h8:=List.find?_eq_none.1 hf e0 hes
   simp only[decide_eq_true_eq]at h8
   exact h8 hpl
  |some y=>
   rw[hf]at hsp hone
   have hy:aU y.2=(ky,st,en):=by simpa using List.find?_some hf
   unfold aU at hy
   simp only[Prod.mk.injEq]at hy
   obtain⟨h1,h2,h3⟩:=hy
   have hsp':(ft st y.2.st,fp en y.2.en)=(p1,p2):=hsp
   rw[h2,h3,loI_same,hiI_same]at hsp'
   simp only[Prod.mk.injEq]at hsp'
   obtain⟨rfl,rfl⟩:=hsp'
   have h8:(decide (y.2.st=st)&&decide (y.2.en=en))=false:=hone
   simp[h2,h3]at h8
theorem bD.more{W:World}{B mb nn n2:Nat}{es:List bz}(h:bD W B mb nn es)(hn:nn≤n2):bD W B mb n2 es:=⟨bp.more h.map hn,h.box,h.ge,h.nd⟩
theorem offM_rows(ms es:List bz):aH (fy ms es)=(aH es).filter (fun x=> !(aH ms).any (fun y=>decide (aU y=aU x))):=by
 unfold aH fy
 rw[List.filter_map]
 congr 1
 refine List.filter_congr (fun e _=>?_)
 simp only[Function.comp,List.any_map]
 rfl
theorem off_noop{q:P3}{xs:List aC}(h:∀x ∈ xs,¬ aU x=q):dQ q xs=xs:=List.filter_eq_self.2 (fun x hx=>by simp[h x hx])
theorem metE_ky{ses:Bool}{ky st en:Int}{es:List bz}{y:bz}(h:y ∈ fA ses ky st en es):y.2.ky=ky:=by
 unfold fA at h
 cases ses with
 |true=>
  rw[if_pos rfl]at h
  have h9:=(List.mem_filter.1 h).2
  unfold bw at h9
  simp only[Bool.and_eq_true,decide_eq_true_eq]at h9
  exact h9.1
 |false=>
  rw[if_neg (by decide)]at h
  cases hf:es.find? (fun e=>decide (aU e.2=(ky,st,en)))with
  |none=>rw[hf]at h;cases h
  |some e0=>
   rw[hf]at h
   simp only[Option.toList,List.mem_singleton]at h
   subst h
   have hy:aU y.2=(ky,st,en):=by simpa using List.find?_some hf
   unfold aU at hy
   simp only[Prod.mk.injEq]at hy
   exact hy.1
theorem one_row{p1 p2:Int}{ms:List bz}(h:dV (p1,p2) (aH ms)=true):∃e0,ms=[e0]∧e0.2.st=p1∧e0.2.en=p2:=by
 match ms,h with
 | [],h=>simp[aH,dV]at h
 | [e0],h=>
  have h9:(decide (e0.2.st=p1)&&decide (e0.2.en=p2))=true:=h
  simp only[Bool.and_eq_true,decide_eq_true_eq]at h9
  exact⟨e0,rfl,h9.1,h9.2⟩
 |_ :: _ :: _,h=>simp[aH,dV]at h
set_option maxRecDepth 100000 in
set_option maxHeartbeats 8000000 in
theorem takein_any(Bo B mb nn:Nat)(s t k z q l e:Int)(b:Bool)(v r m:Int)(pv lv:Value)(ps:List cY)(lw:List dp)(es:List bz)(x1 x2 x3 x4 x5 xa xb:Int)(w:World)(hO:w.heap[Bo]? =some (.cells #[.int .i64 s,.int .i64 t,.int .i64 k,.int .i64 z,.int .i64 q,.int .i64 l,.int .i64 e,.bool b,.int .i64 v,.int .i64 r,.int .i64 m,.map (some (mb)),pv,lv] 75 (0,0)))(hBo:B≤Bo)(hBw:B≤w.heap.size)(hmb:B≤mb)(hR:bD w B mb nn es)(hP:aR w B pv ps)(hL:bT w B lv (lw.map (eH x1 x2 x3 x4 x5)))(hl:0≤l∧l≤20)(hrise:eb es)(hok:∀e ∈ es,gx (aU e.2))(hen:∀e ∈ es,0≤e.2.en∧e.2.en≤1000)(hx3:(Lit.int .i64 x3).wf=true)(hwf:∀a:Int,-1000≤a→a≤1000→(Lit.int .i64 a).wf=true)(hst:∀e ∈ es,-1000≤e.2.st∧e.2.st≤1000)(hxa: -1000≤xa∧xa≤1000)(hxb:0≤xb∧xb≤1000)(hw:xa<xb)(hnn:nn≤900)(hesl:es.length≤nn)(hps:ps.length≤9000)(hlw:lw.length≤9000):Calls Tryz.prog 60 #[.pointer (some ⟨Bo,0,none⟩),.agg #[.int .i64 x1,.int .i64 x2,.int .i64 x3,.int .i64 x4,.int .i64 x5],.agg #[.int .i64 xa,.int .i64 xb]] w fun e' w'=>e'= .returned (.tuple #[])∧∃pv' lv' es',w'.heap[Bo]? =some (.cells #[.int .i64 s,.int .i64 t,.int .i64 k,.int .i64 z,.int .i64 q,.int .i64 l,.int .i64 e,.bool b,.int .i64 v,.int .i64 r,.int .i64 m,.map (some (mb)),pv',lv'] 75 (0,0))∧bD w' B mb (nn+1) es'∧aR w' B pv' (bE (decide (k=3)) l m x3 x4 (aH es,ps,lw) ⟨xa,xb⟩).2.1∧bT w' B lv' ((bE (decide (k=3)) l m x3 x4 (aH es,ps,lw) ⟨xa,xb⟩).2.2.map (eH x1 x2 x3 x4 x5))∧aH es'=(bE (decide (k=3)) l m x3 x4 (aH es,ps,lw) ⟨xa,xb⟩).1∧Below B w w'∧ik turnX w w':=by
 obtain⟨i0,hi,hz0',hz1',hz2'⟩:=info_parts Tryz.infoLp
 have zBo:Bo<w.heap.size:=(Array.getElem?_eq_some_iff.1 hO).1
 have hB2:Below w.heap.size w ((w.alloc (.cells #[.int .i64 x1,.int .i64 x2,.int .i64 x3,.int .i64 x4,.int .i64 x5] 29)).alloc (.cells #[.int .i64 xa,.int .i64 xb] 48)):=ag (aq _ _) _
 have bI0:((w.alloc (.cells #[.int .i64 x1,.int .i64 x2,.int .i64 x3,.int .i64 x4,.int .i64 x5] 29)).alloc (.cells #[.int .i64 xa,.int .i64 xb] 48)).heap[w.heap.size]? =some (.cells #[.int .i64 x1,.int .i64 x2,.int .i64 x3,.int .i64 x4,.int .i64 x5] 29 (0,0)):=(Below.heap_alloc _ _ _ (by simp)).trans (World.alloc_heap_new w _)
 have bW0:((w.alloc (.cells #[.int .i64 x1,.int .i64 x2,.int .i64 x3,.int .i64 x4,.int .i64 x5] 29)).alloc (.cells #[.int .i64 xa,.int .i64 xb] 48)).heap[w.heap.size+1]? =some (.cells #[.int .i64 xa,.int .i64 xb] 48 (0,0)):=by
  have h9:=World.alloc_heap_new (w.alloc (.cells #[.int .i64 x1,.int .i64 x2,.int .i64 x3,.int .i64 x4,.int .i64 x5] 29)) (.cells #[.int .i64 xa,.int .i64 xb] 48)
  rw[World.size_alloc]at h9
  exact h9
 have HC:=ae (met_any Bo B mb nn s t k z q l e b v r m pv lv es x3 xa xb ((w.alloc (.cells #[.int .i64 x1,.int .i64 x2,.int .i64 x3,.int .i64 x4,.int .i64 x5] 29)).alloc (.cells #[.int .i64 xa,.int .i64 xb] 48)) ((hB2.block Bo zBo).trans hO) (hR.bel hB2) hrise hok (by omega) hesl ⟨hx3,hwf xa hxa.1 hxa.2,hwf xb (by omega) hxb.2⟩)
 obtain⟨ms,hms⟩:∃ms,fA (decide (k=3)) x3 xa xb es=ms:=⟨_,rfl⟩
 have hsub:ms.Sublist es:=by rw[←hms];exact metE_sub _ _ _ _ _
 have hmro:aH ms=gF (decide (k=3)) x3 xa xb (aH es):=by rw[←hms];exact metE_rows _ _ _ _ _
 have hml:ms.length≤900:=Nat.le_trans hsub.length_le (by omega)
 have Hfree:Hid (∀p1 p2,dq xa xb (aH ms)=(p1,p2)→dV (p1,p2) (aH ms)=false→∀e ∈ fy ms es,¬ aU e.2=(x3,p1,p2)):=ae (by rw[←hms];exact fun p1 p2 h1 h2=>met_free hw h1 h2)
 have Hky:Hid (∀y ∈ ms,y.2.ky=x3):=ae (by rw[←hms];exact fun y hy=>metE_ky hy)
 rw[hms]at HC
 have Hmro:=ae hmro
 clear hms hmro
 go_enter Tryz.func60,Tryz.ntmps60
 go_wp2_with fail
 refine(ab HC).mono ?_
 rintro e9 w1 ⟨vM,rfl,hM,hb1⟩
 have bI:=(hb1.block (w.heap.size) (oa)).trans bI0
 have bW:=(hb1.block (w.heap.size+1) (by simp)).trans bW0
 have hbw:Below w.heap.size w w1:=am hB2 hb1
 have z1:w.heap.size+2≤w1.heap.size:=by have:=hb1.size;simp at this;omega
 obtain⟨aM,cM,hvM⟩:=dr hM
 obtain⟨nM,hnM⟩:∃nM,ms.length=nM:=⟨_,rfl⟩
 rw[List.length_map,hnM]at hvM
 subst hvM
 have HPt0:Hid (fc w1 w.heap.size (.slice aM nM cM) (ms.map (fun e=>e.1))):=ae (World.ownsRow.mono hM (oa))
 have HNM:=ae hnM
 rw[hnM]at hml
 clear hM hnM hb1 hB2 bI0 bW0 HC
 obtain⟨y0,y1⟩:=c2 bW
 go_upto_region 3 with fail
 clear y0 y1
 have hbA:Below w1.heap.size w1 (w1.alloc (.cells #[.int .i64 xa,.int .i64 xb] 48)):=aq _ _
 have bS:=World.alloc_heap_new w1 (.cells #[.int .i64 xa,.int .i64 xb] 48)
 obtain⟨gs,hgs⟩:∃gs,w1.heap.size=gs:=⟨_,rfl⟩
 have hgz:gs<(w1.alloc (.cells #[.int .i64 xa,.int .i64 xb] 48)).heap.size:=by simp;omega
 have hg2:w.heap.size+2≤gs:=by omega
 generalize (w1.alloc (.cells #[.int .i64 xa,.int .i64 xb] 48))=wS at hbA bS hgz ⊢
 rw[hgs]at bS ⊢
 replace bI:=(hbA.block (w.heap.size) (by omega)).trans bI
 replace bW:=(hbA.block (w.heap.size+1) (by omega)).trans bW
 replace hbw:Below w.heap.size w wS:=am hbw hbA
 have HPt:=ae (aJ (ab HPt0) (aB hbA) (fun _ e9=>by cases e9))
 clear hbA hgs HPt0 z1
 go_wp2
 go_loopw [19] (fun iv wr=>∃(i2:Nat) (p1 p2:Int),i2≤nM∧iv= .int .i64 i2∧Hid (dq xa xb ((aH ms).take i2)=(p1,p2))∧(0≤p2∧p2≤1000)∧(-1000≤p1∧p1≤1000)∧wr.heap[gs]? =some (.cells #[.int .i64 p1,.int .i64 p2] 48 (0,0))∧wr.heap[w.heap.size]? =some (.cells #[.int .i64 x1,.int .i64 x2,.int .i64 x3,.int .i64 x4,.int .i64 x5] 29 (0,0))∧wr.heap[w.heap.size+1]? =some (.cells #[.int .i64 xa,.int .i64 xb] 48 (0,0))∧Hid (fc wr w.heap.size (.slice aM nM cM) (ms.map (fun e=>e.1)))∧Below w.heap.size w wr∧gs<wr.heap.size) (fun iv _=>nM - (intOf iv).toNat)
 case atStart=>exact⟨0,xa,xb,Nat.zero_le _,rfl,ae rfl,hxb,hxa,bS,bI,bW,HPt,hbw,hgz⟩
 case round=>
  clear bS bI bW HPt hbw hgz
  obtain⟨i2,p1,p2,hi2,rfl,HSp,hp2,hp1,bS,bI,bW,HPt,hbw,hgz⟩:=hrel
  by_cases hlt:i2<nM
  ·skip
   obtain⟨e0,he0⟩:∃e0,ms[i2]? =some e0:=⟨_,List.getElem?_eq_getElem (by rw[ab HNM];omega)⟩
   have hmem:e0 ∈ es:=hsub.subset (List.mem_of_getElem? he0)
   have hgl:(ms.map (fun e=>e.1)).length=nM:=by rw[List.length_map];exact ab HNM
   obtain⟨gm,em⟩:∃gm,aM=some ⟨gm,0,none⟩:=by
    rcases(ab HPt).2 with⟨h9,h8⟩|⟨g9,c9,_,h9,_⟩
    ·omega
    ·simp only[Value.slice.injEq]at h9
     exact⟨g9,h9.1⟩
   subst em
   have hcell:=fV (i2:=i2) (g:=e0.1) (ab HPt) hgl.symm (by rw[List.getElem?_map,he0];rfl)
   have hbx:ew wr e0.1 e0.2:=(hR.box e0 hmem).bel hbw (hR.box e0 hmem).lt
   have hgew:e0.1<w.heap.size:=(hR.box e0 hmem).lt
   have hen0:=hen e0 hmem
   have hst0:=hst e0 hmem
   have hrs:(aH ms)[i2]? =some e0.2:=by unfold aH;rw[List.getElem?_map,he0];rfl
   have HRS:=ae hrs
   have HE0:=ae he0
   have Hmem:=ae hmem
   obtain⟨ge,y⟩:=e0
   obtain⟨yky,yst,yen,yan,yasu,yale,yamo,yfn,yfsu,yfle,yfmo,ytd,ytm⟩:=y
   dsimp only at hcell hbx HRS hen0 hst0 hgew
   have hrow:wr.heap[ge]? =some (.cells #[.int .i64 yky,.int .i64 yst,.int .i64 yen,.int .i64 yan,.int .i64 yasu,.int .i64 yale,.int .i64 yamo,.int .i64 yfn,.int .i64 yfsu,.int .i64 yfle,.int .i64 yfmo,.int .i64 ytd,.bool ytm] 57 (0,0)):=hbx
   clear hbx he0 hrs hgl hmem
   obtain⟨r1,hr1⟩:∃r1,ft p1 yst=r1:=⟨_,rfl⟩
   obtain⟨r2,hr2⟩:∃r2,fp p2 yen=r2:=⟨_,rfl⟩
   have hr2b:0≤r2∧r2≤1000:=by rw[←hr2];exact hiI_bd hp2 hen0
   have hr1b: -1000≤r1∧r1≤1000:=by rw[←hr1];unfold ft;split<;>omega
   have HP:Hid ((ft p1 yst,fp p2 yen)=(r1,r2)):=ae (by rw[hr1,hr2])
   clear hr1 hr2
   go_wp2_with fail
   clear hcell
   refine wp_region_held_drew (S:=(fun W=>W.heap[ge]? =some (.cells #[.int .i64 yky,.int .i64 yst,.int .i64 yen,.int .i64 yan,.int .i64 yasu,.int .i64 yale,.int .i64 yamo,.int .i64 yfn,.int .i64 yfsu,.int .i64 yfle,.int .i64 yfmo,.int .i64 ytd,.bool ytm] 57 (0,0)))) (oc) ?_ (fun hHeld=>?_)
   ·((try dsimp only);exact hrow)
   refine kV 1 ?_
   refine kV 2 ?_
   refine kV 3 ?_
   refine kT 4 ?_ ?_ ?_
   rotate_left
   ·(intro w9 hSw;(try dsimp only at hSw);have q0:=hSw;obtain⟨ax0,ax1,ax2,ax3,ax4,ax5,ax6,ax7,ax8,ax9,ax10,ax11,ax12⟩:=eu q0;go_simp<;>with_reducible rfl)
   try simp only[Act.put,tA,tZ,tS]
   refine rD 0 (fun K hK=>?_)
   obtain⟨u0,u1⟩:=c2 bS
   go_simp
   clear u0 u1
   clear hHeld
   refine hK.out _ _ ?_ (fun hHeld=>?_)
   ·((try dsimp only);exact hrow)
   clear hK K
   try simp only[Act.put,tA,tZ,tS]
   refine rD 5 (fun K hK=>?_)
   go_simp
   (go_at_call 79;refine(span_isO _ HP).mono ?_;rintro e9 w6 ⟨rfl,hb6⟩)
   (try go_wp2_with fail)
   replace hb6:Below wr.heap.size wr w6:=am (ap (Below.refl _ _)) hb6
   have z6:wr.heap.size≤w6.heap.size:=hb6.size
   replace hrow:=(hb6.block ge (Array.getElem?_eq_some_iff.1 hrow).1).trans hrow
   replace bS:=(hb6.block gs hgz).trans bS
   replace bI:=(hb6.block (w.heap.size) (by omega)).trans bI
   replace bW:=(hb6.block (w.heap.size+1) (by omega)).trans bW
   replace HPt:=ae (aJ (ab HPt) (aB hb6) (fun _ e9=>by cases e9))
   replace hbw:Below w.heap.size w w6:=am hbw hb6
   clear hb6
   clear hHeld
   refine hK.out _ _ ?_ (fun hHeld=>?_)
   ·((try dsimp only);exact hrow)
   clear hK K
   try simp only[Act.put,tA,tZ,tS]
   refine rD 6 (fun K hK=>?_)
   obtain⟨u0,u1⟩:=c2 bS
   obtain⟨uf0,uf1⟩:=f2 bS
   have zg6:gs<w6.heap.size:=by omega
   go_simp
   clear u0 u1 uf0 uf1
   have mS:((w6.setCell ⟨gs,0,none⟩ (.int .i64 r1)).setCell ⟨gs,1,none⟩ (.int .i64 r2)).heap[gs]? =some (.cells #[.int .i64 r1,.int .i64 r2] 48 (0,0)):=Joins.block_setCell (Joins.block_setCell bS _) _
   have mI:((w6.setCell ⟨gs,0,none⟩ (.int .i64 r1)).setCell ⟨gs,1,none⟩ (.int .i64 r2)).heap[w.heap.size]? =some (.cells #[.int .i64 x1,.int .i64 x2,.int .i64 x3,.int .i64 x4,.int .i64 x5] 29 (0,0)):=(Below.heap_setCell _ _ _ _ (by show _≠gs;omega)).trans ((Below.heap_setCell _ _ _ _ (by show _≠gs;omega)).trans bI)
   have mW:((w6.setCell ⟨gs,0,none⟩ (.int .i64 r1)).setCell ⟨gs,1,none⟩ (.int .i64 r2)).heap[w.heap.size+1]? =some (.cells #[.int .i64 xa,.int .i64 xb] 48 (0,0)):=(Below.heap_setCell _ _ _ _ (by show _≠gs;omega)).trans ((Below.heap_setCell _ _ _ _ (by show _≠gs;omega)).trans bW)
   have mrow:((w6.setCell ⟨gs,0,none⟩ (.int .i64 r1)).setCell ⟨gs,1,none⟩ (.int .i64 r2)).heap[ge]? =some (.cells #[.int .i64 yky,.int .i64 yst,.int .i64 yen,.int .i64 yan,.int .i64 yasu,.int .i64 yale,.int .i64 yamo,.int .i64 yfn,.int .i64 yfsu,.int .i64 yfle,.int .i64 yfmo,.int .i64 ytd,.bool ytm] 57 (0,0)):=(Below.heap_setCell _ _ _ _ (by show _≠gs;omega)).trans ((Below.heap_setCell _ _ _ _ (by show _≠gs;omega)).trans hrow)
   have mPt:Hid (fc ((w6.setCell ⟨gs,0,none⟩ (.int .i64 r1)).setCell ⟨gs,1,none⟩ (.int .i64 r2)) w.heap.size (.slice (some ⟨gm,0,none⟩) nM cM) (ms.map (fun e=>e.1))):=ae (al (al (ab HPt) (af (ab HPt) bS (by decide))) (af (ab HPt) bS (by decide)))
   have mb:Below w.heap.size w ((w6.setCell ⟨gs,0,none⟩ (.int .i64 r1)).setCell ⟨gs,1,none⟩ (.int .i64 r2)):=av (av hbw (by show w.heap.size≤gs;omega) _) (by show w.heap.size≤gs;omega) _
   have mz:gs<((w6.setCell ⟨gs,0,none⟩ (.int .i64 r1)).setCell ⟨gs,1,none⟩ (.int .i64 r2)).heap.size:=by simpa using zg6
   clear hHeld
   refine hK.out _ _ ?_ (fun hHeld=>?_)
   ·((try dsimp only);exact mrow)
   clear hK K
   try simp only[Act.put,tA,tZ,tS]
   refine wpAnyH_done (oc) ?_ _
   clear hHeld hrow mrow bS bI bW HPt hbw
   generalize ((w6.setCell ⟨gs,0,none⟩ (.int .i64 r1)).setCell ⟨gs,1,none⟩ (.int .i64 r2))=w7 at mS mI mW mPt mb mz ⊢
   go_wp2
   exact⟨⟨i2+1,r1,r2,by omega,by go_num,ae (by rw[List.take_add_one,ab HRS,Option.toList,spn_snoc,ab HSp];exact ab HP),hr2b,hr1b,mS,mI,mW,mPt,mb,mz⟩,by simp[intOf];omega⟩
  ·obtain rfl:i2=nM:=by omega
   have e8:(aH ms).take i2=aH ms:=List.take_of_length_le (by unfold aH;rw[List.length_map,ab HNM];exact Nat.le_refl _)
   rw[e8]at HSp
   clear e8
   have bO:wr.heap[Bo]? =some (.cells #[.int .i64 s,.int .i64 t,.int .i64 k,.int .i64 z,.int .i64 q,.int .i64 l,.int .i64 e,.bool b,.int .i64 v,.int .i64 r,.int .i64 m,.map (some (mb)),pv,lv] 75 (0,0)):=(hbw.block Bo zBo).trans hO
   have HRX0:Hid (bE (decide (k=3)) l m x3 x4 (aH es,ps,lw) ⟨xa,xb⟩=(if p2+l≤m then(aH es,ps,lw++[⟨xa,xb⟩])else if dV (p1,p2) (aH ms)=true then(ci (di (x3,p1,p2) x4 (aH es)) (aH es),ps,lw)else(ci (ff (x3,p1,p2) (dK x4 (aH ms))) ((aH es).filter (fun x=> !(aH ms).any (fun y=>decide (aU y=aU x)))),ps++dj (aH ms),lw))):=ae (by unfold bE;dsimp only;rw[←ab Hmro,ab HSp])
   obtain⟨u0,u1⟩:=c2 bS
   go_wp2_with fail
   clear u0 u1
   refine(isshut_any Bo s t k z q l e b v r m mb pv lv p1 p2 _ bO ⟨by omega,hp2.2,hl.1,hl.2⟩).mono ?_
   rintro e9 w6 ⟨rfl,hb6⟩
   have z6:wr.heap.size≤w6.heap.size:=hb6.size
   replace bO:=(hb6.block Bo (by have:=hbw.size;omega)).trans bO
   replace bS:=(hb6.block gs hgz).trans bS
   replace bI:=(hb6.block (w.heap.size) (by omega)).trans bI
   replace bW:=(hb6.block (w.heap.size+1) (by omega)).trans bW
   replace HPt:=ae (aJ (ab HPt) (aB hb6) (fun _ e9=>by cases e9))
   replace hbw:Below w.heap.size w w6:=am hbw hb6
   have hzw:=hbw.size
   clear hb6
   unfold shutB
   by_cases hs:p2+l≤m
   ·rw[decide_eq_true hs]
    have HRX:Hid (bE (decide (k=3)) l m x3 x4 (aH es,ps,lw) ⟨xa,xb⟩=(aH es,ps,lw++[⟨xa,xb⟩])):=ae (by rw[ab HRX0,if_pos hs])
    clear hs HRX0
    go_wp2_with fail
    refine eh [12] (fun W=>W.heap[Bo]? =some (.cells #[.int .i64 s,.int .i64 t,.int .i64 k,.int .i64 z,.int .i64 q,.int .i64 l,.int .i64 e,.bool b,.int .i64 v,.int .i64 r,.int .i64 m,.map (some (mb)),pv,lv] 75 (0,0))∧W.heap[w.heap.size]? =some (.cells #[.int .i64 x1,.int .i64 x2,.int .i64 x3,.int .i64 x4,.int .i64 x5] 29 (0,0))∧W.heap[w.heap.size+1]? =some (.cells #[.int .i64 xa,.int .i64 xb] 48 (0,0))) (oc) ?_ (fun hHeld=>?_)
    ·(try dsimp only);exact⟨bO,bI,bW⟩
    refine aF (i:=0) (v:=?_) (nP) (oc) (oc) (oc) (oc) (nQ) (Or.inl ⟨by rfl,?_⟩) (fun _=>by assumption) ?_
    rotate_left
    ·(intro w9 hSw;(try dsimp only at hSw);go_simp<;>with_reducible rfl)
    try simp only[Act.put,tA,tZ,tS]
    refine aF (i:=1) (v:=?_) (nP) (oc) (oc) (oc) (oc) (nQ) (Or.inl ⟨by rfl,?_⟩) (fun _=>by assumption) ?_
    rotate_left
    ·(intro w9 hSw;(try dsimp only at hSw);go_simp<;>with_reducible rfl)
    try simp only[Act.put,tA,tZ,tS]
    refine aF (i:=2) (v:=?_) (nP) (oc) (oc) (oc) (oc) (nQ) (Or.inl ⟨by rfl,?_⟩) (fun _=>by assumption) ?_
    rotate_left
    ·(intro w9 hSw;(try dsimp only at hSw);go_simp<;>with_reducible rfl)
    try simp only[Act.put,tA,tZ,tS]
    refine aF (i:=3) (v:=?_) (nP) (oc) (oc) (oc) (oc) (nQ) (Or.inl ⟨by rfl,?_⟩) (fun _=>by assumption) ?_
    rotate_left
    ·(intro w9 hSw;(try dsimp only at hSw);go_simp<;>with_reducible rfl)
    try simp only[Act.put,tA,tZ,tS]
    refine aZ (i:=4) (v:=?_) (nP) (oc) (oc) (oc) (oc) (nQ) (Or.inl ⟨by rfl,?_⟩) (nZ) ?_
    rotate_left
    ·(intro w9 hSw;(try dsimp only at hSw);obtain⟨q0,q1,q2⟩:=hSw;have ax0:=cA q0 0;have ax1:=cA q0 1;have ax2:=cA q0 2;have ax3:=cA q0 3;have ax4:=cA q0 4;have ax5:=cA q0 5;have ax6:=cA q0 6;have ax7:=cA q0 7;have ax8:=cA q0 8;have ax9:=cA q0 9;have ax10:=cA q0 10;simp only[gA,gZ,gS]at ax0 ax1 ax2 ax3 ax4 ax5 ax6 ax7 ax8 ax9 ax10;have ax11:w9.cell? ⟨Bo,11,none⟩=some (.map (some (mb))):=(by simp[World.cell?,q0,go_sem]);have ax12:=cA q0 12;have ax13:=cA q0 13;simp only[gA,gZ,gS]at ax12 ax13;go_simp<;>with_reducible rfl)
    try simp only[Act.put,tA,tZ,tS]
    refine aZ (i:=5) (v:=?_) (nP) (oc) (oc) (oc) (oc) (nQ) (Or.inl ⟨by rfl,?_⟩) (nZ) ?_
    rotate_left
    ·(intro w9 hSw;(try dsimp only at hSw);obtain⟨q0,q1,q2⟩:=hSw;obtain⟨bx0,bx1,bx2,bx3,bx4⟩:=c5 q1;go_simp<;>with_reducible rfl)
    try simp only[Act.put,tA,tZ,tS]
    refine aZ (i:=6) (v:=?_) (nP) (oc) (oc) (oc) (oc) (nQ) (Or.inl ⟨by rfl,?_⟩) (nZ) ?_
    rotate_left
    ·(intro w9 hSw;(try dsimp only at hSw);obtain⟨q0,q1,q2⟩:=hSw;obtain⟨cx0,cx1⟩:=c2 q2;go_simp<;>with_reducible rfl)
    try simp only[Act.put,tA,tZ,tS]
    refine aF (i:=7) (v:=?_) (nP) (oc) (oc) (oc) (oc) (nQ) (Or.inl ⟨by rfl,?_⟩) (fun _=>by assumption) ?_
    rotate_left
    ·(intro w9 hSw;(try dsimp only at hSw);go_simp<;>with_reducible rfl)
    try simp only[Act.put,tA,tZ,tS]
    refine bf (rs:=[8]) (oc) (by simp) ?_
    refine aL.cons (nP) (fun K hK=>?_) aL.nil
    go_simp
    have hbA:Below w6.heap.size w6 (w6.drew.alloc (.cells #[.int .i64 x1,.int .i64 x2,.int .i64 x3,.int .i64 x4,.int .i64 x5,.int .i64 xa,.int .i64 xb] 59)):=ag (ap (Below.refl _ _)) _
    have bOa:=(hbA.block Bo (by omega)).trans bO
    have bIa:=(hbA.block (w.heap.size) (by omega)).trans bI
    have bWa:=(hbA.block (w.heap.size+1) (by omega)).trans bW
    have hbwa:Below w.heap.size w (w6.drew.alloc (.cells #[.int .i64 x1,.int .i64 x2,.int .i64 x3,.int .i64 x4,.int .i64 x5,.int .i64 xa,.int .i64 xb] 59)):=am hbw hbA
    have HLa:Hid (bT (w6.drew.alloc (.cells #[.int .i64 x1,.int .i64 x2,.int .i64 x3,.int .i64 x4,.int .i64 x5,.int .i64 xa,.int .i64 xb] 59)) B lv (lw.map (eH x1 x2 x3 x4 x5))):=ae (aJ hL (aB hbwa) (fun _ e9=>by cases e9))
    clear hHeld
    refine hK.out _ _ ?_ (fun hHeld=>?_)
    ·(try dsimp only);exact⟨bOa,bIa,bWa⟩
    clear hK K
    try simp only[Act.put,tA,tZ,tS]
    refine bf (rs:=[9]) (oc) (by simp) ?_
    refine aL.cons (nP) (fun K hK=>?_) aL.nil
    refine ct rfl _ _ 33 rfl B 59 i0 _ 7 56 Tryz.underlying33 hi hz0' hz1' hz2' rfl (by decide) lv _ _ rfl (ab HLa) ⟨w6.heap.size,0,none⟩ 1 1 [.int .i64 x1,.int .i64 x2,.int .i64 x3,.int .i64 x4,.int .i64 x5,.int .i64 xa,.int .i64 xb] rfl rfl (fR w6.drew _ _ _ _ _ _ _ _) (nT) (by rw[List.length_map];unfold maxLen;omega) (nL) (Nat.le_trans hBw hbwa.size) ?_
    intro v5 w5 hown ml hat
    rw[List.length_map]at hown
    obtain⟨g6,c6,rfl⟩:=ownsRow_succ hown
    have bO5:=(ml.block Bo (Array.getElem?_eq_some_iff.1 bOa).1 (fun e9=>af (ab HLa) bOa (by decide) e9.symm)).trans bOa
    have bI5:=(ml.block (w.heap.size) (Array.getElem?_eq_some_iff.1 bIa).1 (fun e9=>af (ab HLa) bIa (by decide) e9.symm)).trans bIa
    have bW5:=(ml.block (w.heap.size+1) (Array.getElem?_eq_some_iff.1 bWa).1 (fun e9=>af (ab HLa) bWa (by decide) e9.symm)).trans bWa
    clear hHeld
    refine hK.out _ _ ?_ (fun hHeld=>?_)
    ·(try dsimp only);exact⟨bO5,bI5,bW5⟩
    clear hK K
    try simp only[Act.put,tA,tZ,tS]
    refine aF (i:=10) (v:=?_) (nP) (oc) (oc) (oc) (oc) (nQ) (Or.inl ⟨by rfl,?_⟩) (fun _=>by assumption) ?_
    rotate_left
    ·(intro w9 hSw;(try dsimp only at hSw);go_simp<;>with_reducible rfl)
    try simp only[Act.put,tA,tZ,tS]
    refine aF (i:=11) (v:=?_) (nP) (oc) (oc) (oc) (oc) (nQ) (Or.inl ⟨by rfl,?_⟩) (fun _=>by assumption) ?_
    rotate_left
    ·(intro w9 hSw;(try dsimp only at hSw);go_simp<;>with_reducible rfl)
    try simp only[Act.put,tA,tZ,tS]
    have k13:w5.cell? ⟨Bo,13,none⟩=some lv:=cA bO5 13
    have f13:=cF bO5 13
    refine bf (rs:=[12]) (oc) (by simp) ?_
    refine aL.consS (nP) (oc) (fun K hK=>?_) aL.nil
    go_simp
    refine hK.out _ _ ?_
    clear hK K
    try simp only[Act.put,tA,tZ,tS]
    refine ef (oc) ?_ _
    clear k13 f13
    have hRa:=hR.bel hbwa
    have hPa:aR (w6.drew.alloc (.cells #[.int .i64 x1,.int .i64 x2,.int .i64 x3,.int .i64 x4,.int .i64 x5,.int .i64 xa,.int .i64 xb] 59)) B pv ps:=aJ hP (aB hbwa) (fun _ e9=>by cases e9)
    have hR5:=hRa.gown (ab HLa) ml (by decide)
    have hP5:=cU hPa ml (fun k9 e8 e9=>cf hPa (ab HLa) (by decide) e9 e8)
    have hsX:=gb_one w5 Bo 13 (.slice (some ⟨g6,0,none⟩) (lw.length+1) c6)
    have hRF:=(hR5.gcell hsX bO5 (by decide)).more (n2:=nn+1) (by omega)
    have hPF:=dl hP5 hsX (af hP5 bO5 (by decide))
    have hLF:bT (w5.setCell ⟨Bo,13,none⟩ (.slice (some ⟨g6,0,none⟩) (lw.length+1) c6)) B (.slice (some ⟨g6,0,none⟩) (lw.length+1) c6) ((lw++[(⟨xa,xb⟩:dp)]).map (eH x1 x2 x3 x4 x5)):=by
     rw[List.map_append]
     exact gL (ys:=lw.map (eH x1 x2 x3 x4 x5)) (x:=(eH x1 x2 x3 x4 x5) ⟨xa,xb⟩) (by rw[List.length_map];exact dl hown hsX (af hown bO5 (by decide)))
    have hBF:Below B w (w5.setCell ⟨Bo,13,none⟩ (.slice (some ⟨g6,0,none⟩) (lw.length+1) c6)):=(((hbwa.mono hBw).grown ml (Nat.le_trans hBw hbwa.size) (fun k9 e9=>aE (ab HLa) k9 e9))).setCell hBo _
    have hKF:ik turnX w (w5.setCell ⟨Bo,13,none⟩ (.slice (some ⟨g6,0,none⟩) (lw.length+1) c6)):=((ik.bel hbwa).trans (ik.grown ml (fun r9 cs9 ty9 e9 hb9=>by
     by_cases ht:ty9=59
     ·subst ht;rfl
     ·exact absurd e9 (af (ab HLa) hb9 ht)))).trans (ik.grown hsX (fun r9 cs9 ty9 e9 hb9=>by
     have e8:=Option.some.inj e9
     subst e8
     rw[bO5]at hb9
     simp only[Option.some.injEq,Obj.cells.injEq]at hb9
     rw[←hb9.2.1]
     rfl))
    have bOF:(w5.setCell ⟨Bo,13,none⟩ (.slice (some ⟨g6,0,none⟩) (lw.length+1) c6)).heap[Bo]? =some (.cells #[.int .i64 s,.int .i64 t,.int .i64 k,.int .i64 z,.int .i64 q,.int .i64 l,.int .i64 e,.bool b,.int .i64 v,.int .i64 r,.int .i64 m,.map (some (mb)),pv,(.slice (some ⟨g6,0,none⟩) (lw.length+1) c6)] 75 (0,0)):=Joins.block_setCell bO5 _
    clear hHeld bO5 bI5 bW5 ml hown hat HLa hbwa bOa bIa bWa hbA hR5 hP5 hRa hPa hsX bO bI bW bS
    generalize (w5.setCell ⟨Bo,13,none⟩ (.slice (some ⟨g6,0,none⟩) (lw.length+1) c6))=wz at hRF hPF hLF hBF hKF bOF ⊢
    go_wp2
    exact⟨rfl,.tuple #[],results_none rfl _ _ _,rfl,pv,_,es,bOF,hRF,by rw[ab HRX];exact hPF,by rw[ab HRX];exact hLF,by first|(rw[ab HRX];done)|(rw[ab HRX];exact rfl),hBF,hKF⟩
   ·rw[decide_eq_false hs]
    have HRX1:Hid (bE (decide (k=3)) l m x3 x4 (aH es,ps,lw) ⟨xa,xb⟩=(if dV (p1,p2) (aH ms)=true then(ci (di (x3,p1,p2) x4 (aH es)) (aH es),ps,lw)else(ci (ff (x3,p1,p2) (dK x4 (aH ms))) ((aH es).filter (fun x=> !(aH ms).any (fun y=>decide (aU y=aU x)))),ps++dj (aH ms),lw))):=ae (by rw[ab HRX0,if_neg hs])
    clear hs HRX0
    obtain⟨ob,hob⟩:∃ob,dV (p1,p2) (aH ms)=ob:=⟨_,rfl⟩
    have HOb:=ae hob
    clear hob
    go_upto_region 11 with fail
    go_cut [55] (fun pv9 W=>pv9= .bool ob∧Below w6.heap.size w6 W)
    case first=>
     go_wp2_with fail
     by_cases h1:i2=1
     ·subst h1
      obtain⟨e0,hy⟩:=List.length_eq_one_iff.1 (ab HNM)
      subst hy
      have hmem:e0 ∈ es:=hsub.subset (by simp)
      obtain⟨gm,em⟩:∃gm,aM=some ⟨gm,0,none⟩:=by
       rcases(ab HPt).2 with⟨h9,h8⟩|⟨g9,c9,_,h9,_⟩
       ·simp at h8
       ·simp only[Value.slice.injEq]at h9
        exact⟨g9,h9.1⟩
      subst em
      have hcell:=fV (i2:=0) (g:=e0.1) (ab HPt) rfl rfl
      have hbx:ew w6 e0.1 e0.2:=(hR.box e0 hmem).bel hbw (hR.box e0 hmem).lt
      obtain⟨ge,y⟩:=e0
      obtain⟨yky,yst,yen,yan,yasu,yale,yamo,yfn,yfsu,yfle,yfmo,ytd,ytm⟩:=y
      have HOne:Hid (dV (p1,p2) (aH [(ge,(⟨yky,yst,yen,yan,yasu,yale,yamo,yfn,yfsu,yfle,yfmo,ytd,ytm⟩:aC))])=(decide (yst=p1)&&decide (yen=p2))):=ae rfl
      dsimp only at hcell hbx
      have hrow:w6.heap[ge]? =some (.cells #[.int .i64 yky,.int .i64 yst,.int .i64 yen,.int .i64 yan,.int .i64 yasu,.int .i64 yale,.int .i64 yamo,.int .i64 yfn,.int .i64 yfsu,.int .i64 yfle,.int .i64 yfmo,.int .i64 ytd,.bool ytm] 57 (0,0)):=hbx
      clear hbx hmem
      by_cases k1:yst=p1
      ·by_cases k2:yen=p2
       ·have HOne:Hid (dV (p1,p2) (aH [(ge,(⟨yky,yst,yen,yan,yasu,yale,yamo,yfn,yfsu,yfle,yfmo,ytd,ytm⟩:aC))])=true):=ae (by rw[ab HOne];simp[k1,k2])
        have kb1:(yst==p1)=true:=by simp[k1]
        have kb2:(yen==p2)=true:=by simp[k2]
        clear k1 k2
        refine wp_region_held_drew (S:=(fun W=>W.cell? ⟨gm,0,none⟩=some (.pointer (some ⟨ge,0,none⟩))∧W.heap[ge]? =some (.cells #[.int .i64 yky,.int .i64 yst,.int .i64 yen,.int .i64 yan,.int .i64 yasu,.int .i64 yale,.int .i64 yamo,.int .i64 yfn,.int .i64 yfsu,.int .i64 yfle,.int .i64 yfmo,.int .i64 ytd,.bool ytm] 57 (0,0))∧W.heap[gs]? =some (.cells #[.int .i64 p1,.int .i64 p2] 48 (0,0)))) (oc) ?_ (fun hHeld=>?_)
        ·((try dsimp only);exact⟨hcell,hrow,bS⟩)
        refine kV 0 ?_
        refine kV 1 ?_
        refine kV 2 ?_
        refine kV 3 ?_
        refine kV 4 ?_
        refine kV 5 ?_
        refine kT 6 ?_ ?_ ?_
        rotate_left
        ·(intro w9 hSw;(try dsimp only at hSw);obtain⟨q0,q1,q2⟩:=hSw;go_simp<;>with_reducible rfl)
        try simp only[Act.put,tA,tZ,tS]
        refine kV 7 ?_
        refine kV 8 ?_
        refine kT 9 ?_ ?_ ?_
        rotate_left
        ·(intro w9 hSw;(try dsimp only at hSw);obtain⟨q0,q1,q2⟩:=hSw;obtain⟨ax0,ax1,ax2,ax3,ax4,ax5,ax6,ax7,ax8,ax9,ax10,ax11,ax12⟩:=eu q1;go_simp<;>with_reducible rfl)
        try simp only[Act.put,tA,tZ,tS]
        refine kT 10 ?_ ?_ ?_
        rotate_left
        ·(intro w9 hSw;(try dsimp only at hSw);obtain⟨q0,q1,q2⟩:=hSw;obtain⟨bx0,bx1⟩:=c2 q2;go_simp<;>with_reducible rfl)
        try simp only[Act.put,tA,tZ,tS]
        refine kV 11 ?_
        refine kV 12 ?_
        refine rD 13 (fun K hK=>?_)
        go_simp
        clear hHeld
        refine hK.out _ _ ?_ (fun hHeld=>?_)
        ·((try dsimp only);exact⟨hcell,hrow,bS⟩)
        clear hK K
        try simp only[Act.put,tA,tZ,tS]
        refine wpAnyH_done (oc) ?_ _
        clear hHeld
        go_wp2_with fail
        go_meet
        exact⟨by rw[←ab HOb];first|rfl|(rw[ab HOne])|(simp[ab HOne]),ap (Below.refl _ _)⟩
       ·have HOne:Hid (dV (p1,p2) (aH [(ge,(⟨yky,yst,yen,yan,yasu,yale,yamo,yfn,yfsu,yfle,yfmo,ytd,ytm⟩:aC))])=false):=ae (by rw[ab HOne];simp[k2])
        have kb1:(yst==p1)=true:=by simp[k1]
        have kb2:(yen==p2)=false:=by simp[k2]
        clear k1 k2
        refine wp_region_held_drew (S:=(fun W=>W.cell? ⟨gm,0,none⟩=some (.pointer (some ⟨ge,0,none⟩))∧W.heap[ge]? =some (.cells #[.int .i64 yky,.int .i64 yst,.int .i64 yen,.int .i64 yan,.int .i64 yasu,.int .i64 yale,.int .i64 yamo,.int .i64 yfn,.int .i64 yfsu,.int .i64 yfle,.int .i64 yfmo,.int .i64 ytd,.bool ytm] 57 (0,0))∧W.heap[gs]? =some (.cells #[.int .i64 p1,.int .i64 p2] 48 (0,0)))) (oc) ?_ (fun hHeld=>?_)
        ·((try dsimp only);exact⟨hcell,hrow,bS⟩)
        refine kV 0 ?_
        refine kV 1 ?_
        refine kV 2 ?_
        refine kV 3 ?_
        refine kV 4 ?_
        refine kV 5 ?_
        refine kT 6 ?_ ?_ ?_
        rotate_left
        ·(intro w9 hSw;(try dsimp only at hSw);obtain⟨q0,q1,q2⟩:=hSw;go_simp<;>with_reducible rfl)
        try simp only[Act.put,tA,tZ,tS]
        refine kV 7 ?_
        refine kV 8 ?_
        refine kT 9 ?_ ?_ ?_
        rotate_left
        ·(intro w9 hSw;(try dsimp only at hSw);obtain⟨q0,q1,q2⟩:=hSw;obtain⟨ax0,ax1,ax2,ax3,ax4,ax5,ax6,ax7,ax8,ax9,ax10,ax11,ax12⟩:=eu q1;go_simp<;>with_reducible rfl)
        try simp only[Act.put,tA,tZ,tS]
        refine kT 10 ?_ ?_ ?_
        rotate_left
        ·(intro w9 hSw;(try dsimp only at hSw);obtain⟨q0,q1,q2⟩:=hSw;obtain⟨bx0,bx1⟩:=c2 q2;go_simp<;>with_reducible rfl)
        try simp only[Act.put,tA,tZ,tS]
        refine kV 11 ?_
        refine kV 12 ?_
        refine rD 13 (fun K hK=>?_)
        go_simp
        clear hHeld
        refine hK.out _ _ ?_ (fun hHeld=>?_)
        ·((try dsimp only);exact⟨hcell,hrow,bS⟩)
        clear hK K
        try simp only[Act.put,tA,tZ,tS]
        refine wpAnyH_done (oc) ?_ _
        clear hHeld
        go_wp2_with fail
        go_meet
        exact⟨by rw[←ab HOb];first|rfl|(rw[ab HOne])|(simp[ab HOne]),ap (Below.refl _ _)⟩
      ·have HOne:Hid (dV (p1,p2) (aH [(ge,(⟨yky,yst,yen,yan,yasu,yale,yamo,yfn,yfsu,yfle,yfmo,ytd,ytm⟩:aC))])=false):=ae (by rw[ab HOne];simp[k1])
       have kb1:(yst==p1)=false:=by simp[k1]
       clear k1
       refine wp_region_held_drew (S:=(fun W=>W.cell? ⟨gm,0,none⟩=some (.pointer (some ⟨ge,0,none⟩))∧W.heap[ge]? =some (.cells #[.int .i64 yky,.int .i64 yst,.int .i64 yen,.int .i64 yan,.int .i64 yasu,.int .i64 yale,.int .i64 yamo,.int .i64 yfn,.int .i64 yfsu,.int .i64 yfle,.int .i64 yfmo,.int .i64 ytd,.bool ytm] 57 (0,0))∧W.heap[gs]? =some (.cells #[.int .i64 p1,.int .i64 p2] 48 (0,0)))) (oc) ?_ (fun hHeld=>?_)
       ·((try dsimp only);exact⟨hcell,hrow,bS⟩)
       refine kV 0 ?_
       refine kV 1 ?_
       refine kV 2 ?_
       refine kV 3 ?_
       refine kV 4 ?_
       refine kV 5 ?_
       refine kT 6 ?_ ?_ ?_
       rotate_left
       ·(intro w9 hSw;(try dsimp only at hSw);obtain⟨q0,q1,q2⟩:=hSw;go_simp<;>with_reducible rfl)
       try simp only[Act.put,tA,tZ,tS]
       refine kV 7 ?_
       refine kV 8 ?_
       refine kT 9 ?_ ?_ ?_
       rotate_left
       ·(intro w9 hSw;(try dsimp only at hSw);obtain⟨q0,q1,q2⟩:=hSw;obtain⟨ax0,ax1,ax2,ax3,ax4,ax5,ax6,ax7,ax8,ax9,ax10,ax11,ax12⟩:=eu q1;go_simp<;>with_reducible rfl)
       try simp only[Act.put,tA,tZ,tS]
       refine kT 10 ?_ ?_ ?_
       rotate_left
       ·(intro w9 hSw;(try dsimp only at hSw);obtain⟨q0,q1,q2⟩:=hSw;obtain⟨bx0,bx1⟩:=c2 q2;go_simp<;>with_reducible rfl)
       try simp only[Act.put,tA,tZ,tS]
       refine kV 11 ?_
       refine kV 12 ?_
       refine rD 13 (fun K hK=>?_)
       go_simp
       clear hHeld
       refine hK.out _ _ ?_ (fun hHeld=>?_)
       ·((try dsimp only);exact⟨hcell,hrow,bS⟩)
       clear hK K
       try simp only[Act.put,tA,tZ,tS]
       refine wpAnyH_done (oc) ?_ _
       clear hHeld
       go_wp2_with fail
       go_meet
       exact⟨by rw[←ab HOb];first|rfl|(rw[ab HOne])|(simp[ab HOne]),ap (Below.refl _ _)⟩
     ·have HOne:Hid (dV (p1,p2) (aH ms)=false):=ae (by
       unfold dV
       split
       ·rename_i x9 h9
        have h8:=congrArg List.length h9
        unfold aH at h8
        rw[List.length_map,ab HNM]at h8
        exact absurd h8 h1
       ·rfl)
      have kb1:((i2:Int)==1)=false:=by first|(simp;done)|(simp;omega)
      have kb2:decide ((i2:Int)=1)=false:=by first|(simp;done)|(simp;omega)
      have kb3:decide (i2=1)=false:=by simp[h1]
      have kb4:(i2==1)=false:=by simp[h1]
      refine wp_region_held_drew (S:=(fun W=>True)) (oc) trivial (fun hHeld=>?_)
      refine kV 0 ?_
      refine kV 1 ?_
      refine kV 2 ?_
      refine kV 3 ?_
      refine kU 4 ?_
      try simp only[Act.put,tA,tZ,tS]
      refine kU 5 ?_
      try simp only[Act.put,tA,tZ,tS]
      refine kU 6 ?_
      try simp only[Act.put,tA,tZ,tS]
      refine kU 7 ?_
      try simp only[Act.put,tA,tZ,tS]
      refine kU 8 ?_
      try simp only[Act.put,tA,tZ,tS]
      refine kU 9 ?_
      try simp only[Act.put,tA,tZ,tS]
      refine kU 10 ?_
      try simp only[Act.put,tA,tZ,tS]
      refine kU 11 ?_
      try simp only[Act.put,tA,tZ,tS]
      refine kV 12 ?_
      refine rD 13 (fun K hK=>?_)
      go_simp
      clear hHeld
      refine hK.out _ _ ?_ (fun hHeld=>?_)
      ·trivial
      clear hK K
      try simp only[Act.put,tA,tZ,tS]
      refine wpAnyH_done (oc) ?_ _
      clear hHeld
      go_wp2_with fail
      go_meet
      exact⟨by rw[←ab HOb];first|rfl|(rw[ab HOne])|(simp[ab HOne]),ap (Below.refl _ _)⟩
    case rest=>
     rename World=>w8
     obtain⟨rfl,hb8⟩:=hcut
     have z8:w6.heap.size≤w8.heap.size:=hb8.size
     replace bO:=(hb8.block Bo (by omega)).trans bO
     replace bS:=(hb8.block gs (by omega)).trans bS
     replace bI:=(hb8.block (w.heap.size) (by omega)).trans bI
     replace HPt:=ae (aJ (ab HPt) (aB hb8) (fun _ e9=>by cases e9))
     replace hbw:Below w.heap.size w w8:=am hbw hb8
     clear hb8 bW
     cases ob with
     |true=>
      have HRX:Hid (bE (decide (k=3)) l m x3 x4 (aH es,ps,lw) ⟨xa,xb⟩=(ci (di (x3,p1,p2) x4 (aH es)) (aH es),ps,lw)):=ae (by rw[ab HRX1,if_pos (ab HOb)])
      obtain⟨e0,hy,hs1,hs2⟩:∃e0,ms=[e0]∧e0.2.st=p1∧e0.2.en=p2:=one_row (ab HOb)
      subst hy
      obtain rfl:i2=1:=(ab HNM).symm
      have hmem:e0 ∈ es:=hsub.subset (by simp)
      have hky0:=ab Hky e0 (by simp)
      obtain⟨gm,em⟩:∃gm,aM=some ⟨gm,0,none⟩:=by
       rcases(ab HPt).2 with⟨h9,h8⟩|⟨g9,c9,_,h9,_⟩
       ·simp at h8
       ·simp only[Value.slice.injEq]at h9
        exact⟨g9,h9.1⟩
      subst em
      have hcell:=fV (i2:=0) (g:=e0.1) (ab HPt) rfl rfl
      have hbx:ew w8 e0.1 e0.2:=(hR.box e0 hmem).bel hbw (hR.box e0 hmem).lt
      have HPl:Hid (aU e0.2=(x3,p1,p2)):=ae (by unfold aU;rw[hky0,hs1,hs2])
      obtain⟨ge,y⟩:=e0
      dsimp only at hcell hbx
      have hge0:B≤ge:=hR.ge _ hmem
      have Hmem:=ae hmem
      have Hbx:=ae hbx
      clear hmem hbx hky0 hs1 hs2 bS bO
      go_wp2_with fail
      refine wp_region_held_drew (S:=(fun W=>W.cell? ⟨gm,0,none⟩=some (.pointer (some ⟨ge,0,none⟩))∧W.heap[w.heap.size]? =some (.cells #[.int .i64 x1,.int .i64 x2,.int .i64 x3,.int .i64 x4,.int .i64 x5] 29 (0,0)))) (oc) ?_ (fun hHeld=>?_)
      ·((try dsimp only);exact⟨hcell,bI⟩)
      refine kV 0 ?_
      refine kV 1 ?_
      refine kT 2 ?_ ?_ ?_
      rotate_left
      ·(intro w9 hSw;(try dsimp only at hSw);obtain⟨q0,q1⟩:=hSw;go_simp<;>with_reducible rfl)
      try simp only[Act.put,tA,tZ,tS]
      refine kV 3 ?_
      refine kT 4 ?_ ?_ ?_
      rotate_left
      ·(intro w9 hSw;(try dsimp only at hSw);obtain⟨q0,q1⟩:=hSw;obtain⟨bx0,bx1,bx2,bx3,bx4⟩:=c5 q1;go_simp<;>with_reducible rfl)
      try simp only[Act.put,tA,tZ,tS]
      refine rD 5 (fun K hK=>?_)
      go_simp
      (go_at_call 81;refine(add_any ge y x4 w8.drew (ab Hbx)).mono ?_;rintro e9 w9 ⟨rfl,hbx9,hg9⟩)
      (try go_wp2_with fail)
      have bI9:=(hg9.block (w.heap.size) (Array.getElem?_eq_some_iff.1 bI).1 (fun e7=>by have b7:=ab Hbx;unfold ew at b7;rw[←Option.some.inj e7,bI]at b7;simp only[Option.some.injEq,Obj.cells.injEq]at b7;exact absurd b7.2.1 (by decide))).trans bI
      have HPt9:=dl (W:=w8.drew) (ab HPt) hg9 (af (ab HPt) (ab Hbx) (by decide))
      have hcell9:=fV (i2:=0) (g:=ge) HPt9 rfl rfl
      have hR9:bD w9 B mb (nn+1) (knE x4 ge es):=((hR.bel (ap hbw)).know (W:=w8.drew) (ab Hmem) hbx9 hg9 hrise).more (by omega)
      have hrq:aH (knE x4 ge es)=ci (di (x3,p1,p2) x4 (aH es)) (aH es):=by rw[←ab HPl];exact kn_rows hrise hR.nd (ab Hmem)
      have hP8:aR w8 B pv ps:=aJ hP (aB hbw) (fun _ e9=>by cases e9)
      have hL8:bT w8 B lv (lw.map (eH x1 x2 x3 x4 x5)):=aJ hL (aB hbw) (fun _ e9=>by cases e9)
      have hP9:aR w9 B pv ps:=dl (W:=w8.drew) hP8 hg9 (af hP8 (ab Hbx) (by decide))
      have hL9:bT w9 B lv (lw.map (eH x1 x2 x3 x4 x5)):=dl (W:=w8.drew) hL8 hg9 (af hL8 (ab Hbx) (by decide))
      have bO8:w8.heap[Bo]? =some (.cells #[.int .i64 s,.int .i64 t,.int .i64 k,.int .i64 z,.int .i64 q,.int .i64 l,.int .i64 e,.bool b,.int .i64 v,.int .i64 r,.int .i64 m,.map (some (mb)),pv,lv] 75 (0,0)):=(hbw.block Bo zBo).trans hO
      have bO9:=(hg9.block Bo (Array.getElem?_eq_some_iff.1 bO8).1 (fun e7=>by have b7:=ab Hbx;unfold ew at b7;rw[←Option.some.inj e7,bO8]at b7;simp only[Option.some.injEq,Obj.cells.injEq]at b7;exact absurd b7.2.1 (by decide))).trans bO8
      have hBF:Below B w w9:=((ap hbw).mono hBw).grown hg9 (Nat.le_trans hBw hbw.size) (fun k9 e9=>by cases e9;exact hge0)
      have hKF:ik turnX w w9:=(ik.bel (ap hbw)).trans (ik.grown hg9 (fun r9 cs9 ty9 e9 hb9=>by
       have e8:=Option.some.inj e9
       subst e8
       have b7:=ab Hbx
       unfold ew at b7
       rw[show w8.heap[ge]? =some (.cells cs9 ty9 (0,0))from hb9]at b7
       simp only[Option.some.injEq,Obj.cells.injEq]at b7
       rw[b7.2.1]
       rfl))
      clear hHeld
      refine hK.out _ _ ?_ (fun hHeld=>?_)
      ·((try dsimp only);exact⟨hcell9,bI9⟩)
      clear hK K
      try simp only[Act.put,tA,tZ,tS]
      refine wpAnyH_done (oc) ?_ _
      clear hHeld hg9 hbx9 bI9 hcell9 HPt9 hcell bI bO8 hP8 hL8
      go_wp2
      exact⟨rfl,.tuple #[],results_none rfl _ _ _,rfl,pv,lv,(knE x4 ge es),bO9,hR9,by rw[ab HRX];exact hP9,by rw[ab HRX];exact hL9,by first|(rw[ab HRX];done)|(rw[ab HRX];exact hrq),hBF,hKF⟩
     |false=>
      have HRX:Hid (bE (decide (k=3)) l m x3 x4 (aH es,ps,lw) ⟨xa,xb⟩=(ci (ff (x3,p1,p2) (dK x4 (aH ms))) (aH (fy ms es)),ps++dj (aH ms),lw)):=ae (by rw[ab HRX1,if_neg (by rw[ab HOb];simp),offM_rows])
      have hfr:=ab Hfree p1 p2 (ab HSp) (ab HOb)
      have hrq:Hid (∀g9:Nat,aH (go (g9,ff (x3,p1,p2) (dK x4 (aH ms))) (fy ms es))=ci (ff (x3,p1,p2) (dK x4 (aH ms))) (aH (fy ms es))):=ae (fun g9=>by
       rw[kJ]
       unfold ci
       rw[off_noop]
       intro x hx
       obtain⟨e9,he9,rfl⟩:=List.mem_map.1 hx
       exact hfr e9 he9)
      have HOp:=ae (opopen_any Bo B mb nn s t k z q l e b v r m pv lv (.slice aM i2 cM) ps (lw.map (eH x1 x2 x3 x4 x5)) es ms x3 p1 p2 x4 w8 bO hBo (Nat.le_trans hBw hbw.size) hmb (hR.bel hbw) (aJ hP (aB hbw) (fun _ e9=>by cases e9)) (aJ hL (aB hbw) (fun _ e9=>by cases e9)) (World.ownsRow.mono (ab HPt) hBw) hsub hrise hok ⟨hx3,hwf p1 hp1.1 hp1.2,hwf p2 (by omega) hp2.2⟩ hfr (by omega) (by omega) (by rw[ab HNM];omega))
      obtain⟨i0,i1,i2,i3,i4⟩:=c5 bI
      obtain⟨u0,u1⟩:=c2 bS
      clear hfr bO bS
      go_wp2_with fail
      refine(ab HOp).mono ?_
      rintro e9 w9 ⟨rfl,pv9,g9,bO9,hR9,hP9,hL9,hB9,hK9⟩
      have hBF:Below B w w9:=(hbw.mono hBw).trans hB9
      have hKF:ik turnX w w9:=(ik.bel hbw).trans (hK9.mono (fun ty h9=>by
       unfold turnX at h9
       unfold turnY
       simp only[Bool.or_eq_false_iff]at h9 ⊢
       exact h9.1))
      clear i0 i1 i2 i3 i4 u0 u1 bI
      go_wp2
      exact⟨rfl,.tuple #[],results_none rfl _ _ _,rfl,pv9,lv,_,bO9,hR9,by rw[ab HRX];exact hP9,by rw[ab HRX];exact hL9,by first|(rw[ab HRX];done)|(rw[ab HRX];exact(ab hrq g9)),hBF,hKF⟩
end Go.Proofs.YtdmhihcipkhecaaGreat
