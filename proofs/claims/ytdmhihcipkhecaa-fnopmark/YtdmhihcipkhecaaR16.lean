/- Laid together: what the claim needs of the texts that were built one by one. -/
import Derived.Test.YtdmhihcipkhecaaR6
import Derived.Test.YtdmhihcipkhecaaR15
import Derived.Test.YtdmhihcipkhecaaR10
import Derived.Test.YtdmhihcipkhecaaR0
set_option linter.unusedVariables false
namespace Go.Proofs.Ytdmhihcipkhecaa
open Go.ChangeShapes Go.WideShapes Go.ChangeAt Go.RowKit Go.Shelf Go.Maps
set_option linter.unusedSimpArgs false
attribute [local go_sem] Oper.semAt_some
theorem own_gX{W W':World}{g B size n:Nat}{e:TypeId}{v:Value}{ys:List Value}(h:W.ownsRow B e size v n ys)(hg:W.grownBy W' (some g))(hne:v.ownBlock≠some g):W'.ownsRow B e size v n ys:=by
 rcases h with⟨hl,h|⟨q,cap,cur,rfl,hB,hblk,r⟩⟩
 ·exact⟨hl,Or.inl h⟩
 ·exact⟨hl,Or.inr ⟨q,cap,cur,rfl,hB,(hg.block q (Array.getElem?_eq_some_iff.1 hblk).1 (fun e9=>hne (by rw[←e9];rfl))).trans hblk,r⟩⟩
theorem own_cellsP{W:World}{B n:Nat}{v:Value}{ys:List Value}(h:W.ownsRow B 44 9 v n ys)(r:Nat)(e:v.ownBlock=some r):∃cs ty,W.heap[r]? =some (.cells cs ty (0,0))∧turnT ty=true:=by
 rcases h.2 with⟨rfl,_⟩|⟨g,cap,cur,rfl,_,hgb,_⟩
 ·cases e
 ·simp[Value.ownBlock]at e
  subst e
  exact⟨_,_,hgb,by decide⟩
/-- What has been told so far: whose boxes, and which panes. -/
def eM(m:Int)(pc:Bool)(q:List Nat×List cN)(e:cm):List Nat×List cN:=if bU m e.2=true∧¬ e.1 ∈ q.1 then(q.1++[e.1],q.2++[dB pc e.2])else q
def jn(m:Int)(pc:Bool)(l:List cm):List Nat×List cN:=l.foldl (eM m pc) ([],[])
def lh(m:Int)(pc:Bool){es:List cm}(pre:List (eu es))(e:cm):aD:=if e.1 ∈ (jn m pc (pre.map am)).1 then ce e.2 else e.2
theorem iL(m:Int)(pc:Bool)(l:List cm)(e:cm):jn m pc (l++[e])=eM m pc (jn m pc l) e:=by unfold jn;rw[List.foldl_append];rfl
theorem gS_hit{m:Int}{pc:Bool}{es:List cm}{pre:List (eu es)}{x:eu es}(h:bU m (am x).2=true∧¬ (am x).1 ∈ (jn m pc (pre.map am)).1):(jn m pc ((pre++[x]).map am)).2=(jn m pc (pre.map am)).2++[dB pc (am x).2]:=by
 rw[List.map_append]
 simp only[List.map_cons,List.map_nil]
 rw[iL]
 unfold eM
 rw[if_pos h]
theorem gBx_hit{m:Int}{pc:Bool}{es:List cm}{pre:List (eu es)}{x:eu es}(h:bU m (am x).2=true∧¬ (am x).1 ∈ (jn m pc (pre.map am)).1):lh m pc (pre++[x]) (am x)=ce (am x).2:=by
 unfold lh
 rw[List.map_append]
 simp only[List.map_cons,List.map_nil]
 rw[iL]
 unfold eM
 rw[if_pos h]
 simp
theorem gBx_miss{m:Int}{pc:Bool}{es:List cm}{pre:List (eu es)}{x:eu es}{e:cm}(h:¬ e.1=(am x).1):lh m pc (pre++[x]) e=lh m pc pre e:=by
 unfold lh
 rw[List.map_append]
 simp only[List.map_cons,List.map_nil]
 rw[iL]
 unfold eM
 split
 ·simp[h]
 ·rfl
theorem gS_none{m:Int}{pc:Bool}{es:List cm}{pre:List (eu es)}{x:eu es}(h:bU m (lh m pc pre (am x))=false):jn m pc ((pre++[x]).map am)=jn m pc (pre.map am):=by
 rw[List.map_append]
 simp only[List.map_cons,List.map_nil]
 rw[iL]
 unfold eM
 refine if_neg (fun h9=>?_)
 unfold lh at h
 rw[if_neg h9.2,h9.1]at h
 cases h
theorem gBx_tel{m:Int}{pc:Bool}{es:List cm}{pre:List (eu es)}{x:eu es}(h:bU m (lh m pc pre (am x))=true):(bU m (am x).2=true∧¬ (am x).1 ∈ (jn m pc (pre.map am)).1)∧lh m pc pre (am x)=(am x).2:=by
 unfold lh at h ⊢
 split at h
 ·rw[tel_told]at h
  cases h
 ·rename_i h9
  exact⟨⟨h,h9⟩,if_neg h9⟩
theorem nd_inj{es:List cm}(h:(es.map (fun e=>e.1)).Nodup){a b:cm}(ha:a ∈ es)(hb:b ∈ es)(e:a.1=b.1):a=b:=by
 induction es with
 |nil=>cases ha
 |cons x t ih=>
  rw[List.map_cons,List.nodup_cons]at h
  rcases List.mem_cons.1 ha with rfl|h1<;>rcases List.mem_cons.1 hb with rfl|h2
  ·rfl
  ·exact absurd (List.mem_map.2 ⟨b,h2,e.symm⟩) h.1
  ·exact absurd (List.mem_map.2 ⟨a,h1,e⟩) h.1
  ·exact ih h.2 h1 h2
theorem gS_go(m:Int)(pc:Bool):∀(l:List cm) (q:List Nat×List cN),(l.map (fun e=>e.1)).Nodup→(∀e ∈ l,¬ e.1 ∈ q.1)→l.foldl (eM m pc) q=(q.1++(l.filter (fun e=>bU m e.2)).map (fun e=>e.1),q.2++(l.filter (fun e=>bU m e.2)).map (fun e=>dB pc e.2))
 | [],q,_,_=>by simp
 |e :: t,q,hn,hd=>by
  rw[List.map_cons,List.nodup_cons]at hn
  rw[List.foldl_cons]
  cases ht:bU m e.2 with
  |true=>
   have e1:eM m pc q e=(q.1++[e.1],q.2++[dB pc e.2]):=if_pos ⟨ht,hd e (by simp)⟩
   rw[e1,gS_go m pc t _ hn.2 (fun x hx h9=>by
    rcases List.mem_append.1 h9 with h8|h8
    ·exact hd x (List.mem_cons_of_mem _ hx) h8
    ·exact hn.1 (List.mem_map.2 ⟨x,hx,by simpa using h8⟩))]
   simp[List.filter_cons,ht]
  |false=>
   have e1:eM m pc q e=q:=if_neg (fun h9=>by rw[ht]at h9;cases h9.1)
   rw[e1,gS_go m pc t _ hn.2 (fun x hx=>hd x (List.mem_cons_of_mem _ hx))]
   simp[List.filter_cons,ht]
theorem gS_all(m:Int)(pc:Bool){es:List cm}(hn:(es.map (fun e=>e.1)).Nodup):(jn m pc es).2=(es.filter (fun e=>bU m e.2)).map (fun e=>dB pc e.2)∧∀e ∈ es,(e.1 ∈ (jn m pc es).1↔bU m e.2=true):=by
 have h:=gS_go m pc es ([],[]) hn (by simp)
 unfold jn
 rw[h]
 refine⟨by simp,fun e he=>?_⟩
 simp only[List.nil_append]
 constructor
 ·intro h9
  obtain⟨x,hx,hxe⟩:=List.mem_map.1 h9
  have hx2:=List.mem_filter.1 hx
  rw[←nd_inj hn hx2.1 he hxe]
  simpa using hx2.2
 ·intro h9
  exact List.mem_map.2 ⟨e,List.mem_filter.2 ⟨he,by simpa using h9⟩,rfl⟩
theorem gS_len(m:Int)(pc:Bool)(l:List cm):(jn m pc l).2.length≤l.length:=by
 suffices h:∀(l:List cm) (q:List Nat×List cN),(l.foldl (eM m pc) q).2.length≤q.2.length+l.length by
  have:=h l ([],[]);simpa[jn]using this
 intro l
 induction l with
 |nil=>intro q;simp
 |cons e t ih=>
  intro q
  have h1:=ih (eM m pc q e)
  have h2:(eM m pc q e).2.length≤q.2.length+1:=by unfold eM;split<;>simp
  simp only[List.foldl_cons,List.length_cons]
  omega
/-- The rows behind a gathering. -/
def gQ(m:Int)(es:List cm):List cm:=es.map (fun e=>(e.1,if bU m e.2=true then ce e.2 else e.2))
theorem tell_is(g:Nat)(x:aD)(pc:Bool)(w:World)(h:fR w g x)(htd:0≤x.td∧x.td≤100000){ky st en td pkd pn psu ple pmo:Int}(hp:Hid (dB pc x=⟨ky,st,en,td,pkd,pn,psu,ple,pmo⟩)):Calls Try.prog 57 #[.pointer (some ⟨g,0,none⟩),.bool pc] w fun e w'=>e= .returned (.agg #[.int .i64 ky,.int .i64 st,.int .i64 en,.int .i64 td,.int .i64 pkd,.int .i64 pn,.int .i64 psu,.int .i64 ple,.int .i64 pmo])∧fR w' g (ce x)∧w.grownBy w' (some g):=by
 have h9:=tell_any g x pc w h htd
 rw[ab hp]at h9
 exact h9
def actG(w:World)(Bo mb:Nat){es:List cm}(x:eu es):Act:= {tmps:=#[.pointer (some ⟨Bo,0,none⟩),.pointer (some ⟨w.heap.size,0,none⟩),undef,.pointer (some ⟨(am x).1,0,none⟩),.pointer (some ⟨Bo,0,none⟩),.pointer (some ⟨Bo,0,none⟩),.pointer (some ⟨Bo,11,none⟩),.map (some mb),(.func (.func 58) #[] #[.pointer (some ⟨w.heap.size+1,0,none⟩)]),.agg #[.int .i64 x.1.1.1,.int .i64 x.1.1.2.1,.int .i64 x.1.1.2.2],.pointer (some ⟨(am x).1,0,none⟩),undef,undef,undef,undef,undef,undef,undef,undef,undef,undef,undef,undef,undef,undef,undef,undef,undef,undef,undef,undef,undef,undef,undef,undef,undef,undef,undef,undef,undef,undef,undef,undef,undef,undef],defers:=[]}
/-- What stands between two rounds. -/
def GaI(w:World)(B Bo mb nn:Nat)(s t k z q l e:Int)(b:Bool)(v r m:Int)(ps:List cN)(lv:Value){es:List cm}(pre:List (eu es))(W:World):Prop:=∃pv,W.heap[Bo]? =some (.cells #[.int .i64 s,.int .i64 t,.int .i64 k,.int .i64 z,.int .i64 q,.int .i64 l,.int .i64 e,.bool b,.int .i64 v,.int .i64 r,.int .i64 m,.map (some (mb)),pv,lv] 62 (0,0))∧aS W B pv (ps++(jn m b (pre.map am)).2)∧(∀e ∈ es,fR W e.1 (lh m b pre e))∧W.heap[w.heap.size]? =some (.cells #[.pointer (some ⟨Bo,0,none⟩)] 55 (0,0))∧Below B w W∧fT w W∧pre.length≤nn
theorem gaI_own(w:World)(B Bo mb nn:Nat)(s t k z q l e:Int)(b:Bool)(v r m:Int)(ps:List cN)(lv:Value){es:List cm}(B':Nat)(hB:w.heap.size≤B')(hBB:B≤w.heap.size):OwnFrom B' (GaI w B Bo mb nn s t k z q l e b v r m ps lv (es:=es)):=fun s9 W W' row h hg hr=>by
 obtain⟨pv,h1,h2,h3,h4,h5,h6,h7⟩:=h
 have hr':=fun r e=>(hr r e).2
 refine⟨pv,ec h1 hg hr',aU h2 hg hr',fun e9 he9=>ec (h3 e9 he9) hg hr',ec h4 hg hr',h5.grown hg (by have:=h5.size;omega) (fun k9 e9=>by have:=(hr k9 e9).1;omega),⟨Nat.le_trans h6.1 hg.size,fun k9 o hk ho=>?_⟩,h7⟩
 have hlt:=(Array.getElem?_eq_some_iff.1 hk).1
 exact(hg.block k9 (Nat.lt_of_lt_of_le hlt h6.1) (fun e9=>by have:=(hr k9 e9.symm).1;omega)).trans (h6.2 k9 o hk ho)
set_option maxRecDepth 100000 in
set_option maxHeartbeats 16000000 in
theorem gather_any(u:FrameMode)(Bo B mb nn:Nat)(s t k z q l e:Int)(b:Bool)(v r m:Int)(pv0 lv:Value)(ps:List cN)(es:List cm)(w:World)(hO:w.heap[Bo]? =some (.cells #[.int .i64 s,.int .i64 t,.int .i64 k,.int .i64 z,.int .i64 q,.int .i64 l,.int .i64 e,.bool b,.int .i64 v,.int .i64 r,.int .i64 m,.map (some (mb)),pv0,lv] 62 (0,0)))(hBo:B≤Bo)(hBw:B≤w.heap.size)(hR:dC w B mb nn es)(hP:aS w B pv0 ps)(hrise:dT es)(hok:∀e ∈ es,gP (bj e.2))(htds:∀e ∈ es,0≤e.2.td∧e.2.td≤100000)(hnn:nn≤1000)(hps:ps.length≤1000)(hesl:es.length≤nn):
  CallsDIn Fence.wide 25 Try.prog 38 #[.pointer (some ⟨Bo,0,none⟩)] u w fun e' u' w'=>u'=u∧(e'= .returned (.tuple #[])∧∃pv,w'.heap[Bo]? =some (.cells #[.int .i64 s,.int .i64 t,.int .i64 k,.int .i64 z,.int .i64 q,.int .i64 l,.int .i64 e,.bool b,.int .i64 v,.int .i64 r,.int .i64 m,.map (some (mb)),pv,lv] 62 (0,0))∧dC w' B mb nn (gQ m es)∧aS w' B pv (ps++(es.filter (fun e=>bU m e.2)).map (fun e=>dB b e.2))∧Below B w w'∧fT w w'):=by
 obtain⟨i0,hi,hz0',hz1',hz2'⟩:=info_parts Try.infoPn
 have zBo:Bo<w.heap.size:=(Array.getElem?_eq_some_iff.1 hO).1
 have c11:w.cell? ⟨Bo,11,none⟩=some (.map (some mb)):=cA hO 11
 refine fU Try.func38 rfl trivial ?_ rfl
 simp only[Try.ntmps38,List.size_toArray,List.length_cons,List.length_nil,Nat.reduceAdd,Nat.reduceSub,Array.replicate_succ,Array.replicate_zero,List.push_toArray,List.append_toArray,List.nil_append,List.cons_append]
 have hB0:Below w.heap.size w ((w.alloc (.cells #[.pointer (some ⟨Bo,0,none⟩)] 55)).alloc (.cells #[.map (some mb)] 59)):=af (ax _ _) _
 have hm:((w.alloc (.cells #[.pointer (some ⟨Bo,0,none⟩)] 55)).alloc (.cells #[.map (some mb)] 59)).heap[w.heap.size+1]? =some (.cells #[.map (some mb)] 59 (0,0)):=by
  have:=World.alloc_heap_new (w.alloc (.cells #[.pointer (some ⟨Bo,0,none⟩)] 55)) (.cells #[.map (some mb)] 59)
  rw[World.size_alloc]at this
  exact this
 have hP0:((w.alloc (.cells #[.pointer (some ⟨Bo,0,none⟩)] 55)).alloc (.cells #[.map (some mb)] 59)).heap[w.heap.size]? =some (.cells #[.pointer (some ⟨Bo,0,none⟩)] 55 (0,0)):=(Below.heap_alloc _ _ _ (by simp)).trans (World.alloc_heap_new w _)
 have hown:cD ((w.alloc (.cells #[.pointer (some ⟨Bo,0,none⟩)] 55)).alloc (.cells #[.map (some mb)] 59)) mb nn (fun q=>(gC es q).map evO):=by rw[mapO_ev];exact hR.map.bel hB0
 have hI0:GaI w B Bo mb nn s t k z q l e b v r m ps lv (es:=es) [] ((w.alloc (.cells #[.pointer (some ⟨Bo,0,none⟩)] 55)).alloc (.cells #[.map (some mb)] 59)):=by
  refine⟨pv0,(hB0.block Bo zBo).trans hO,?_,?_,hP0,hB0.mono hBw,fT.bel hB0,Nat.zero_le _⟩
  ·have h9:ps++(jn m b (([]:List (eu es)).map am)).2=ps:=by simp[jn]
   rw[h9]
   exact World.ownsRow.alloc (World.ownsRow.alloc hP _) _
  ·intro e9 he9
   have h9:lh m b ([]:List (eu es)) e9=e9.2:=by simp[lh,jn]
   rw[h9]
   exact(hR.box e9 he9).bel hB0 (hR.box e9 he9).lt
 have hge:=hR.ge
 have hnd:=hR.nd
 gi_wp2_with (refine⟨trivial,?_⟩;gi_at_call 39;refine(callsIn_wide.2 (im mb _)).mono ?_;rintro e' w1 ⟨rfl,hw1⟩;subst hw1)
 clear c11
 refine wpIn_rangeFunc_ownH rfl (by omega) (gf:=58) (lb:=#[.pointer (some ⟨w.heap.size+1,0,none⟩)]) (by simp[go_sem,Act.eval]) trivial (enters_of Try.func58 (ni) rfl)
  (gv _ (by omega) (w.heap.size+1) mb nn evO (gC es) none zeroEv (PXs es) (fun q _ a ha=>mapO_px ha) _ (by omega) hm hown) gV.trans gV.put (Below.refl _ _) (fun _=>rfl)
  (GaI w B Bo mb nn s t k z q l e b v r m ps lv (es:=es)) (fun _ _ _=>False) (gaI_own w B Bo mb nn s t k z q l e b v r m ps lv _ hB0.size hBw) (fun _ _ _ _ _ hs _ _=>hs)
  hI0 (fun x a' W=>a'=actG w Bo mb x) (fun x a' _ W W' row hs _ _=>hs) ?assign ?body ?done ?stop
 case assign=>
  rintro lb0 pre x W K hI hK
  have HK:=hK (actG w Bo mb x) W (KeepsFrom.refl _ _) (gV.rfl' W) hI rfl
  clear hK
  have hev:=entOf_ev x
  unfold actG at HK
  rw[hev]
  gi_wp2
  exact HK
 case body=>
  rintro lb0 pre x a' W hlb _ ⟨pv,bO,hPn,hbox,bP,hB,hK0,hpn⟩ rfl hpl
  have hbx:=hbox _ (ea x)
  have htd0:=htds _ (ea x)
  have hnPO:Bo≠w.heap.size:=by omega
  have cO10:W.cell? ⟨Bo,10,none⟩=some (.int .i64 m):=cA bO 10
  have cP0:W.cell? ⟨w.heap.size,0,none⟩=some (.pointer (some ⟨Bo,0,none⟩)):=cA bP 0
  obtain⟨y,hy⟩:∃y,lh m b pre (am x)=y:=⟨_,rfl⟩
  rw[hy]at hbx
  have HBx:Hid (fR W.drew.drew (am x).1 y):=ae hbx
  have c2:W.cell? ⟨(am x).1,2,none⟩=some (.int .i64 y.en):=cA hbx 2
  have c7:W.cell? ⟨(am x).1,7,none⟩=some (.int .i64 y.fn):=cA hbx 7
  have hneO:Bo≠(am x).1:=fun e7=>by have b7:=hbx;unfold fR at b7;rw[←e7,bO]at b7;simp at b7
  have hneP:w.heap.size≠(am x).1:=fun e7=>by have b7:=hbx;unfold fR at b7;rw[←e7,bP]at b7;simp at b7
  have HBox:=ae hbox
  have Hyy:=ae hy
  cases htel:bU m y with
  |false=>
   have hgn:jn m b ((pre++[x]).map am)=jn m b (pre.map am):=gS_none (by rw[hy];exact htel)
   have hI1:GaI w B Bo mb nn s t k z q l e b v r m ps lv (es:=es) (pre++[x]) W.drew:=by
    refine⟨pv,bO,by rw[hgn];exact hPn,fun e9 he9=>?_,bP,hB.drew,hK0,by rw[List.length_append];simp;omega⟩
    unfold lh
    rw[hgn]
    exact hbox e9 he9
   have HI1:=ae hI1
   clear hI1 hgn hm hP0 hown hI0 hbox hPn hy hbx
   obtain⟨ky,st,en,an,asu,ale,amo,fn,fsu,fle,fmo,td,tm⟩:=y
   dsimp only at c2 c7
   simp only[bU]at htel
   unfold actG
   by_cases hen:en≤m
   ·have hfn:¬ 0<fn:=by
     intro h9
     simp[hen,h9]at htel
    have d1:decide (en≤m)=true:=decide_eq_true hen
    have d2:decide (0<fn)=false:=decide_eq_false hfn
    clear htel hen hfn
    gi_wp2
    refine dm (ni) (ni) (fun L a' W'=>∃V:Nat→Value,a'=({tmps:=#[.pointer (some ⟨Bo,0,none⟩),.pointer (some ⟨w.heap.size,0,none⟩),undef,.pointer (some ⟨(am x).1,0,none⟩),.pointer (some ⟨Bo,0,none⟩),.pointer (some ⟨Bo,0,none⟩),.pointer (some ⟨Bo,11,none⟩),.map (some mb),(.func (.func 58) #[] #[.pointer (some ⟨w.heap.size+1,0,none⟩)]),.agg #[.int .i64 x.1.1.1,.int .i64 x.1.1.2.1,.int .i64 x.1.1.2.2],.pointer (some ⟨(am x).1,0,none⟩),V 0,V 1,V 2,V 3,V 4,V 5,V 6,V 7,V 8,V 9,V 10,V 11,V 12,V 13,V 14,V 15,V 16,V 17,undef,undef,undef,undef,undef,undef,undef,undef,undef,undef,undef,undef,undef,undef,undef,undef],defers:=[]}:Act)∧((L 0=true→V 0= .pointer (some ⟨Bo,0,none⟩))∧(L 1=true→V 1= .pointer (some ⟨Bo,0,none⟩))∧(L 2=true→V 2= .pointer (some ⟨Bo,10,none⟩))∧(L 3=true→V 3= .int .i64 m)∧(L 4=true→V 4= .pointer (some ⟨(am x).1,0,none⟩))∧(L 5=true→V 5= .pointer (some ⟨(am x).1,0,none⟩))∧(L 6=true→V 6= .pointer (some ⟨(am x).1,1,none⟩))∧(L 7=true→V 7= .pointer (some ⟨(am x).1,2,none⟩))∧(L 8=true→V 8= .int .i64 en)∧(L 9=true→V 9= .bool true)∧(L 10=true→V 10= .bool true)∧(L 11=true→V 11= .pointer (some ⟨(am x).1,0,none⟩))∧(L 12=true→V 12= .pointer (some ⟨(am x).1,0,none⟩))∧(L 13=true→V 13= .pointer (some ⟨(am x).1,7,none⟩))∧(L 14=true→V 14= .pointer (some ⟨(am x).1,7,none⟩))∧(L 15=true→V 15= .int .i64 fn)∧(L 16=true→V 16= .bool false)∧(L 17=true→V 17= .bool false))∧W'=W.drew) ?_ ?_ ?_
    ·exact⟨fun _=>undef,rfl,⟨(fun h9=>(by cases h9)),(fun h9=>(by cases h9)),(fun h9=>(by cases h9)),(fun h9=>(by cases h9)),(fun h9=>(by cases h9)),(fun h9=>(by cases h9)),(fun h9=>(by cases h9)),(fun h9=>(by cases h9)),(fun h9=>(by cases h9)),(fun h9=>(by cases h9)),(fun h9=>(by cases h9)),(fun h9=>(by cases h9)),(fun h9=>(by cases h9)),(fun h9=>(by cases h9)),(fun h9=>(by cases h9)),(fun h9=>(by cases h9)),(fun h9=>(by cases h9)),(fun h9=>(by cases h9))⟩,rfl⟩
    ·refine⟨?_,?_,?_,?_,?_,?_,?_,?_,?_,?_,?_,?_,?_,?_,?_,?_,?_,?_,trivial⟩
     ·intro L a' W' hI hLj hE K' hK
      obtain⟨V,rfl,⟨lO,lP,lY,lZ,ma,me,mf,mg,mh,mi,lQ,lR,lS,lT,lU,lV,lW,lX⟩,rfl⟩:=hI
      go_simp
      exact hK.out _ _ ⟨fun m9=>if m9=0 then .pointer (some ⟨Bo,0,none⟩)else V m9,rfl,⟨fun _=>rfl,mO lP,mO lY,mO lZ,mO ma,mO me,mO mf,mO mg,mO mh,mO mi,mO lQ,mO lR,mO lS,mO lT,mO lU,mO lV,mO lW,mO lX⟩,rfl⟩
     ·intro L a' W' hI hLj hE K' hK
      obtain⟨V,rfl,⟨lO,lP,lY,lZ,ma,me,mf,mg,mh,mi,lQ,lR,lS,lT,lU,lV,lW,lX⟩,rfl⟩:=hI
      have lm:=lO (hE ⟨0,.data⟩ (by simp) rfl)
      rw[lm]
      go_simp
      exact hK.out _ _ ⟨fun m9=>if m9=1 then .pointer (some ⟨Bo,0,none⟩)else V m9,(by simp[Act.put,lm]),⟨mO lO,fun _=>rfl,mO lY,mO lZ,mO ma,mO me,mO mf,mO mg,mO mh,mO mi,mO lQ,mO lR,mO lS,mO lT,mO lU,mO lV,mO lW,mO lX⟩,rfl⟩
     ·intro L a' W' hI hLj hE K' hK
      obtain⟨V,rfl,⟨lO,lP,lY,lZ,ma,me,mf,mg,mh,mi,lQ,lR,lS,lT,lU,lV,lW,lX⟩,rfl⟩:=hI
      have lp:=lP (hE ⟨1,.data⟩ (by simp) rfl)
      rw[lp]
      go_simp
      exact hK.out _ _ ⟨fun m9=>if m9=2 then .pointer (some ⟨Bo,10,none⟩)else V m9,(by simp[Act.put,lp]),⟨mO lO,mO lP,fun _=>rfl,mO lZ,mO ma,mO me,mO mf,mO mg,mO mh,mO mi,mO lQ,mO lR,mO lS,mO lT,mO lU,mO lV,mO lW,mO lX⟩,rfl⟩
     ·intro L a' W' hI hLj hE K' hK
      obtain⟨V,rfl,⟨lO,lP,lY,lZ,ma,me,mf,mg,mh,mi,lQ,lR,lS,lT,lU,lV,lW,lX⟩,rfl⟩:=hI
      have lB:=lY (hE ⟨2,.data⟩ (by simp) rfl)
      rw[lB]
      go_simp
      exact hK.out _ _ ⟨fun m9=>if m9=3 then .int .i64 m else V m9,(by simp[Act.put,lB]),⟨mO lO,mO lP,mO lY,fun _=>rfl,mO ma,mO me,mO mf,mO mg,mO mh,mO mi,mO lQ,mO lR,mO lS,mO lT,mO lU,mO lV,mO lW,mO lX⟩,rfl⟩
     ·intro L a' W' hI hLj hE K' hK
      obtain⟨V,rfl,⟨lO,lP,lY,lZ,ma,me,mf,mg,mh,mi,lQ,lR,lS,lT,lU,lV,lW,lX⟩,rfl⟩:=hI
      go_simp
      exact hK.out _ _ ⟨fun m9=>if m9=4 then .pointer (some ⟨(am x).1,0,none⟩)else V m9,rfl,⟨mO lO,mO lP,mO lY,mO lZ,fun _=>rfl,mO me,mO mf,mO mg,mO mh,mO mi,mO lQ,mO lR,mO lS,mO lT,mO lU,mO lV,mO lW,mO lX⟩,rfl⟩
     ·intro L a' W' hI hLj hE K' hK
      obtain⟨V,rfl,⟨lO,lP,lY,lZ,ma,me,mf,mg,mh,mi,lQ,lR,lS,lT,lU,lV,lW,lX⟩,rfl⟩:=hI
      have lD:=ma (hE ⟨4,.data⟩ (by simp) rfl)
      rw[lD]
      go_simp
      exact hK.out _ _ ⟨fun m9=>if m9=5 then .pointer (some ⟨(am x).1,0,none⟩)else V m9,(by simp[Act.put,lD]),⟨mO lO,mO lP,mO lY,mO lZ,mO ma,fun _=>rfl,mO mf,mO mg,mO mh,mO mi,mO lQ,mO lR,mO lS,mO lT,mO lU,mO lV,mO lW,mO lX⟩,rfl⟩
     ·intro L a' W' hI hLj hE K' hK
      obtain⟨V,rfl,⟨lO,lP,lY,lZ,ma,me,mf,mg,mh,mi,lQ,lR,lS,lT,lU,lV,lW,lX⟩,rfl⟩:=hI
      have lE:=me (hE ⟨5,.data⟩ (by simp) rfl)
      rw[lE]
      go_simp
      exact hK.out _ _ ⟨fun m9=>if m9=6 then .pointer (some ⟨(am x).1,1,none⟩)else V m9,(by simp[Act.put,lE]),⟨mO lO,mO lP,mO lY,mO lZ,mO ma,mO me,fun _=>rfl,mO mg,mO mh,mO mi,mO lQ,mO lR,mO lS,mO lT,mO lU,mO lV,mO lW,mO lX⟩,rfl⟩
     ·intro L a' W' hI hLj hE K' hK
      obtain⟨V,rfl,⟨lO,lP,lY,lZ,ma,me,mf,mg,mh,mi,lQ,lR,lS,lT,lU,lV,lW,lX⟩,rfl⟩:=hI
      have lF:=mf (hE ⟨6,.data⟩ (by simp) rfl)
      rw[lF]
      go_simp
      exact hK.out _ _ ⟨fun m9=>if m9=7 then .pointer (some ⟨(am x).1,2,none⟩)else V m9,(by simp[Act.put,lF]),⟨mO lO,mO lP,mO lY,mO lZ,mO ma,mO me,mO mf,fun _=>rfl,mO mh,mO mi,mO lQ,mO lR,mO lS,mO lT,mO lU,mO lV,mO lW,mO lX⟩,rfl⟩
     ·intro L a' W' hI hLj hE K' hK
      obtain⟨V,rfl,⟨lO,lP,lY,lZ,ma,me,mf,mg,mh,mi,lQ,lR,lS,lT,lU,lV,lW,lX⟩,rfl⟩:=hI
      have lG:=mg (hE ⟨7,.data⟩ (by simp) rfl)
      rw[lG]
      go_simp
      exact hK.out _ _ ⟨fun m9=>if m9=8 then .int .i64 en else V m9,(by simp[Act.put,lG]),⟨mO lO,mO lP,mO lY,mO lZ,mO ma,mO me,mO mf,mO mg,fun _=>rfl,mO mi,mO lQ,mO lR,mO lS,mO lT,mO lU,mO lV,mO lW,mO lX⟩,rfl⟩
     ·intro L a' W' hI hLj hE K' hK
      obtain⟨V,rfl,⟨lO,lP,lY,lZ,ma,me,mf,mg,mh,mi,lQ,lR,lS,lT,lU,lV,lW,lX⟩,rfl⟩:=hI
      have lC:=lZ (hE ⟨3,.data⟩ (by simp) rfl)
      have lH:=mh (hE ⟨8,.data⟩ (by simp) rfl)
      rw[lC]
      rw[lH]
      go_simp
      exact hK.out _ _ ⟨fun m9=>if m9=9 then .bool true else V m9,(by simp[Act.put,lC,lH]),⟨mO lO,mO lP,mO lY,mO lZ,mO ma,mO me,mO mf,mO mg,mO mh,fun _=>rfl,mO lQ,mO lR,mO lS,mO lT,mO lU,mO lV,mO lW,mO lX⟩,rfl⟩
     ·intro L a' W' hI hLj hE K' hK
      obtain⟨V,rfl,⟨lO,lP,lY,lZ,ma,me,mf,mg,mh,mi,lQ,lR,lS,lT,lU,lV,lW,lX⟩,rfl⟩:=hI
      have lI:=mi (hE ⟨9,.data⟩ (by simp) rfl)
      rw[lI]
      go_simp
      exact hK.out _ _ ⟨fun m9=>if m9=10 then .bool true else V m9,(by simp[Act.put,lI]),⟨mO lO,mO lP,mO lY,mO lZ,mO ma,mO me,mO mf,mO mg,mO mh,mO mi,fun _=>rfl,mO lR,mO lS,mO lT,mO lU,mO lV,mO lW,mO lX⟩,rfl⟩
     ·intro L a' W' hI hLj hE K' hK
      obtain⟨V,rfl,⟨lO,lP,lY,lZ,ma,me,mf,mg,mh,mi,lQ,lR,lS,lT,lU,lV,lW,lX⟩,rfl⟩:=hI
      have lq:=lQ (hE ⟨10,.guard⟩ (by simp) rfl)
      rw[lq]
      rw[show Region.wanted _ _=true from rfl]
      go_simp
      exact hK.out _ _ ⟨fun m9=>if m9=11 then .pointer (some ⟨(am x).1,0,none⟩)else V m9,(by simp[Act.put,lq]),⟨mO lO,mO lP,mO lY,mO lZ,mO ma,mO me,mO mf,mO mg,mO mh,mO mi,mO lQ,fun _=>rfl,mO lS,mO lT,mO lU,mO lV,mO lW,mO lX⟩,rfl⟩
     ·intro L a' W' hI hLj hE K' hK
      obtain⟨V,rfl,⟨lO,lP,lY,lZ,ma,me,mf,mg,mh,mi,lQ,lR,lS,lT,lU,lV,lW,lX⟩,rfl⟩:=hI
      have lr:=lR (hE ⟨11,.data⟩ (by simp) rfl)
      have lq:=lQ (hE ⟨10,.guard⟩ (by simp) rfl)
      rw[lr]
      rw[lq]
      rw[show Region.wanted _ _=true from rfl]
      go_simp
      exact hK.out _ _ ⟨fun m9=>if m9=12 then .pointer (some ⟨(am x).1,0,none⟩)else V m9,(by simp[Act.put,lr,lq]),⟨mO lO,mO lP,mO lY,mO lZ,mO ma,mO me,mO mf,mO mg,mO mh,mO mi,mO lQ,mO lR,fun _=>rfl,mO lT,mO lU,mO lV,mO lW,mO lX⟩,rfl⟩
     ·intro L a' W' hI hLj hE K' hK
      obtain⟨V,rfl,⟨lO,lP,lY,lZ,ma,me,mf,mg,mh,mi,lQ,lR,lS,lT,lU,lV,lW,lX⟩,rfl⟩:=hI
      have lu:=lS (hE ⟨12,.data⟩ (by simp) rfl)
      have lq:=lQ (hE ⟨10,.guard⟩ (by simp) rfl)
      rw[lu]
      rw[lq]
      rw[show Region.wanted _ _=true from rfl]
      go_simp
      exact hK.out _ _ ⟨fun m9=>if m9=13 then .pointer (some ⟨(am x).1,7,none⟩)else V m9,(by simp[Act.put,lu,lq]),⟨mO lO,mO lP,mO lY,mO lZ,mO ma,mO me,mO mf,mO mg,mO mh,mO mi,mO lQ,mO lR,mO lS,fun _=>rfl,mO lU,mO lV,mO lW,mO lX⟩,rfl⟩
     ·intro L a' W' hI hLj hE K' hK
      obtain⟨V,rfl,⟨lO,lP,lY,lZ,ma,me,mf,mg,mh,mi,lQ,lR,lS,lT,lU,lV,lW,lX⟩,rfl⟩:=hI
      have lx:=lT (hE ⟨13,.data⟩ (by simp) rfl)
      have lq:=lQ (hE ⟨10,.guard⟩ (by simp) rfl)
      rw[lx]
      rw[lq]
      rw[show Region.wanted _ _=true from rfl]
      go_simp
      exact hK.out _ _ ⟨fun m9=>if m9=14 then .pointer (some ⟨(am x).1,7,none⟩)else V m9,(by simp[Act.put,lx,lq]),⟨mO lO,mO lP,mO lY,mO lZ,mO ma,mO me,mO mf,mO mg,mO mh,mO mi,mO lQ,mO lR,mO lS,mO lT,fun _=>rfl,mO lV,mO lW,mO lX⟩,rfl⟩
     ·intro L a' W' hI hLj hE K' hK
      obtain⟨V,rfl,⟨lO,lP,lY,lZ,ma,me,mf,mg,mh,mi,lQ,lR,lS,lT,lU,lV,lW,lX⟩,rfl⟩:=hI
      have ly:=lU (hE ⟨14,.data⟩ (by simp) rfl)
      have lq:=lQ (hE ⟨10,.guard⟩ (by simp) rfl)
      rw[ly]
      rw[lq]
      rw[show Region.wanted _ _=true from rfl]
      go_simp
      exact hK.out _ _ ⟨fun m9=>if m9=15 then .int .i64 fn else V m9,(by simp[Act.put,ly,lq]),⟨mO lO,mO lP,mO lY,mO lZ,mO ma,mO me,mO mf,mO mg,mO mh,mO mi,mO lQ,mO lR,mO lS,mO lT,mO lU,fun _=>rfl,mO lW,mO lX⟩,rfl⟩
     ·intro L a' W' hI hLj hE K' hK
      obtain⟨V,rfl,⟨lO,lP,lY,lZ,ma,me,mf,mg,mh,mi,lQ,lR,lS,lT,lU,lV,lW,lX⟩,rfl⟩:=hI
      have lz:=lV (hE ⟨15,.data⟩ (by simp) rfl)
      have lq:=lQ (hE ⟨10,.guard⟩ (by simp) rfl)
      rw[lz]
      rw[lq]
      rw[show Region.wanted _ _=true from rfl]
      go_simp
      exact hK.out _ _ ⟨fun m9=>if m9=16 then .bool false else V m9,(by simp[Act.put,lz,lq]),⟨mO lO,mO lP,mO lY,mO lZ,mO ma,mO me,mO mf,mO mg,mO mh,mO mi,mO lQ,mO lR,mO lS,mO lT,mO lU,mO lV,fun _=>rfl,mO lX⟩,rfl⟩
     ·intro L a' W' hI hLj hE K' hK
      obtain⟨V,rfl,⟨lO,lP,lY,lZ,ma,me,mf,mg,mh,mi,lQ,lR,lS,lT,lU,lV,lW,lX⟩,rfl⟩:=hI
      have lq:=lQ (hE ⟨10,.data⟩ (by simp) rfl)
      have lA:=lW (hE ⟨16,.data⟩ (by simp) rfl)
      rw[lq]
      rw[lA]
      go_simp
      exact hK.out _ _ ⟨fun m9=>if m9=17 then .bool false else V m9,(by simp[Act.put,lq,lA]),⟨mO lO,mO lP,mO lY,mO lZ,mO ma,mO me,mO mf,mO mg,mO mh,mO mi,mO lQ,mO lR,mO lS,mO lT,mO lU,mO lV,mO lW,fun _=>rfl⟩,rfl⟩
    intro L a' W' hI hall
    obtain⟨V,rfl,⟨lO,lP,lY,lZ,ma,me,mf,mg,mh,mi,lQ,lR,lS,lT,lU,lV,lW,lX⟩,rfl⟩:=hI
    have lm:=lO (hall 0 (by decide))
    have lp:=lP (hall 1 (by decide))
    have lB:=lY (hall 2 (by decide))
    have lC:=lZ (hall 3 (by decide))
    have lD:=ma (hall 4 (by decide))
    have lE:=me (hall 5 (by decide))
    have lF:=mf (hall 6 (by decide))
    have lG:=mg (hall 7 (by decide))
    have lH:=mh (hall 8 (by decide))
    have lI:=mi (hall 9 (by decide))
    have lq:=lQ (hall 10 (by decide))
    have lr:=lR (hall 11 (by decide))
    have lu:=lS (hall 12 (by decide))
    have lx:=lT (hall 13 (by decide))
    have ly:=lU (hall 14 (by decide))
    have lz:=lV (hall 15 (by decide))
    have lA:=lW (hall 16 (by decide))
    have ev17:=lX (hall 17 (by decide))
    rw[lm,lp,lB,lC,lD,lE,lF,lG,lH,lI,lq,lr,lu,lx,ly,lz,lA,ev17]
    clear lm lO lp lP lB lY lC lZ lD ma lE me lF mf lG mg lH mh lI mi lq lQ lr lR lu lS lx lT ly lU lz lV lA lW ev17 lX hall
    gi_wp2
    exact⟨(fT.bel (aq (Below.refl _ W))).from _,(fT.bel (aq (Below.refl _ W))).kpo,ab HI1⟩
   ·have d1:decide (en≤m)=false:=decide_eq_false hen
    clear htel hen
    gi_wp2
    refine dm (ni) (ni) (fun L a' W'=>∃V:Nat→Value,a'=({tmps:=#[.pointer (some ⟨Bo,0,none⟩),.pointer (some ⟨w.heap.size,0,none⟩),undef,.pointer (some ⟨(am x).1,0,none⟩),.pointer (some ⟨Bo,0,none⟩),.pointer (some ⟨Bo,0,none⟩),.pointer (some ⟨Bo,11,none⟩),.map (some mb),(.func (.func 58) #[] #[.pointer (some ⟨w.heap.size+1,0,none⟩)]),.agg #[.int .i64 x.1.1.1,.int .i64 x.1.1.2.1,.int .i64 x.1.1.2.2],.pointer (some ⟨(am x).1,0,none⟩),V 0,V 1,V 2,V 3,V 4,V 5,V 6,V 7,V 8,V 9,V 10,V 11,V 12,V 13,V 14,V 15,V 16,V 17,undef,undef,undef,undef,undef,undef,undef,undef,undef,undef,undef,undef,undef,undef,undef,undef],defers:=[]}:Act)∧((L 0=true→V 0= .pointer (some ⟨Bo,0,none⟩))∧(L 1=true→V 1= .pointer (some ⟨Bo,0,none⟩))∧(L 2=true→V 2= .pointer (some ⟨Bo,10,none⟩))∧(L 3=true→V 3= .int .i64 m)∧(L 4=true→V 4= .pointer (some ⟨(am x).1,0,none⟩))∧(L 5=true→V 5= .pointer (some ⟨(am x).1,0,none⟩))∧(L 6=true→V 6= .pointer (some ⟨(am x).1,1,none⟩))∧(L 7=true→V 7= .pointer (some ⟨(am x).1,2,none⟩))∧(L 8=true→V 8= .int .i64 en)∧(L 9=true→V 9= .bool false)∧(L 10=true→V 10= .bool false)∧(L 11=true→V 11=undef)∧(L 12=true→V 12=undef)∧(L 13=true→V 13=undef)∧(L 14=true→V 14=undef)∧(L 15=true→V 15=undef)∧(L 16=true→V 16=undef)∧(L 17=true→V 17= .bool false))∧W'=W.drew) ?_ ?_ ?_
    ·exact⟨fun _=>undef,rfl,⟨(fun h9=>(by cases h9)),(fun h9=>(by cases h9)),(fun h9=>(by cases h9)),(fun h9=>(by cases h9)),(fun h9=>(by cases h9)),(fun h9=>(by cases h9)),(fun h9=>(by cases h9)),(fun h9=>(by cases h9)),(fun h9=>(by cases h9)),(fun h9=>(by cases h9)),(fun h9=>(by cases h9)),(fun h9=>(by cases h9)),(fun h9=>(by cases h9)),(fun h9=>(by cases h9)),(fun h9=>(by cases h9)),(fun h9=>(by cases h9)),(fun h9=>(by cases h9)),(fun h9=>(by cases h9))⟩,rfl⟩
    ·refine⟨?_,?_,?_,?_,?_,?_,?_,?_,?_,?_,?_,?_,?_,?_,?_,?_,?_,?_,trivial⟩
     ·intro L a' W' hI hLj hE K' hK
      obtain⟨V,rfl,⟨lO,lP,lY,lZ,ma,me,mf,mg,mh,mi,lQ,lR,lS,lT,lU,lV,lW,lX⟩,rfl⟩:=hI
      go_simp
      exact hK.out _ _ ⟨fun m9=>if m9=0 then .pointer (some ⟨Bo,0,none⟩)else V m9,rfl,⟨fun _=>rfl,mO lP,mO lY,mO lZ,mO ma,mO me,mO mf,mO mg,mO mh,mO mi,mO lQ,mO lR,mO lS,mO lT,mO lU,mO lV,mO lW,mO lX⟩,rfl⟩
     ·intro L a' W' hI hLj hE K' hK
      obtain⟨V,rfl,⟨lO,lP,lY,lZ,ma,me,mf,mg,mh,mi,lQ,lR,lS,lT,lU,lV,lW,lX⟩,rfl⟩:=hI
      have lm:=lO (hE ⟨0,.data⟩ (by simp) rfl)
      rw[lm]
      go_simp
      exact hK.out _ _ ⟨fun m9=>if m9=1 then .pointer (some ⟨Bo,0,none⟩)else V m9,(by simp[Act.put,lm]),⟨mO lO,fun _=>rfl,mO lY,mO lZ,mO ma,mO me,mO mf,mO mg,mO mh,mO mi,mO lQ,mO lR,mO lS,mO lT,mO lU,mO lV,mO lW,mO lX⟩,rfl⟩
     ·intro L a' W' hI hLj hE K' hK
      obtain⟨V,rfl,⟨lO,lP,lY,lZ,ma,me,mf,mg,mh,mi,lQ,lR,lS,lT,lU,lV,lW,lX⟩,rfl⟩:=hI
      have lp:=lP (hE ⟨1,.data⟩ (by simp) rfl)
      rw[lp]
      go_simp
      exact hK.out _ _ ⟨fun m9=>if m9=2 then .pointer (some ⟨Bo,10,none⟩)else V m9,(by simp[Act.put,lp]),⟨mO lO,mO lP,fun _=>rfl,mO lZ,mO ma,mO me,mO mf,mO mg,mO mh,mO mi,mO lQ,mO lR,mO lS,mO lT,mO lU,mO lV,mO lW,mO lX⟩,rfl⟩
     ·intro L a' W' hI hLj hE K' hK
      obtain⟨V,rfl,⟨lO,lP,lY,lZ,ma,me,mf,mg,mh,mi,lQ,lR,lS,lT,lU,lV,lW,lX⟩,rfl⟩:=hI
      have lB:=lY (hE ⟨2,.data⟩ (by simp) rfl)
      rw[lB]
      go_simp
      exact hK.out _ _ ⟨fun m9=>if m9=3 then .int .i64 m else V m9,(by simp[Act.put,lB]),⟨mO lO,mO lP,mO lY,fun _=>rfl,mO ma,mO me,mO mf,mO mg,mO mh,mO mi,mO lQ,mO lR,mO lS,mO lT,mO lU,mO lV,mO lW,mO lX⟩,rfl⟩
     ·intro L a' W' hI hLj hE K' hK
      obtain⟨V,rfl,⟨lO,lP,lY,lZ,ma,me,mf,mg,mh,mi,lQ,lR,lS,lT,lU,lV,lW,lX⟩,rfl⟩:=hI
      go_simp
      exact hK.out _ _ ⟨fun m9=>if m9=4 then .pointer (some ⟨(am x).1,0,none⟩)else V m9,rfl,⟨mO lO,mO lP,mO lY,mO lZ,fun _=>rfl,mO me,mO mf,mO mg,mO mh,mO mi,mO lQ,mO lR,mO lS,mO lT,mO lU,mO lV,mO lW,mO lX⟩,rfl⟩
     ·intro L a' W' hI hLj hE K' hK
      obtain⟨V,rfl,⟨lO,lP,lY,lZ,ma,me,mf,mg,mh,mi,lQ,lR,lS,lT,lU,lV,lW,lX⟩,rfl⟩:=hI
      have lD:=ma (hE ⟨4,.data⟩ (by simp) rfl)
      rw[lD]
      go_simp
      exact hK.out _ _ ⟨fun m9=>if m9=5 then .pointer (some ⟨(am x).1,0,none⟩)else V m9,(by simp[Act.put,lD]),⟨mO lO,mO lP,mO lY,mO lZ,mO ma,fun _=>rfl,mO mf,mO mg,mO mh,mO mi,mO lQ,mO lR,mO lS,mO lT,mO lU,mO lV,mO lW,mO lX⟩,rfl⟩
     ·intro L a' W' hI hLj hE K' hK
      obtain⟨V,rfl,⟨lO,lP,lY,lZ,ma,me,mf,mg,mh,mi,lQ,lR,lS,lT,lU,lV,lW,lX⟩,rfl⟩:=hI
      have lE:=me (hE ⟨5,.data⟩ (by simp) rfl)
      rw[lE]
      go_simp
      exact hK.out _ _ ⟨fun m9=>if m9=6 then .pointer (some ⟨(am x).1,1,none⟩)else V m9,(by simp[Act.put,lE]),⟨mO lO,mO lP,mO lY,mO lZ,mO ma,mO me,fun _=>rfl,mO mg,mO mh,mO mi,mO lQ,mO lR,mO lS,mO lT,mO lU,mO lV,mO lW,mO lX⟩,rfl⟩
     ·intro L a' W' hI hLj hE K' hK
      obtain⟨V,rfl,⟨lO,lP,lY,lZ,ma,me,mf,mg,mh,mi,lQ,lR,lS,lT,lU,lV,lW,lX⟩,rfl⟩:=hI
      have lF:=mf (hE ⟨6,.data⟩ (by simp) rfl)
      rw[lF]
      go_simp
      exact hK.out _ _ ⟨fun m9=>if m9=7 then .pointer (some ⟨(am x).1,2,none⟩)else V m9,(by simp[Act.put,lF]),⟨mO lO,mO lP,mO lY,mO lZ,mO ma,mO me,mO mf,fun _=>rfl,mO mh,mO mi,mO lQ,mO lR,mO lS,mO lT,mO lU,mO lV,mO lW,mO lX⟩,rfl⟩
     ·intro L a' W' hI hLj hE K' hK
      obtain⟨V,rfl,⟨lO,lP,lY,lZ,ma,me,mf,mg,mh,mi,lQ,lR,lS,lT,lU,lV,lW,lX⟩,rfl⟩:=hI
      have lG:=mg (hE ⟨7,.data⟩ (by simp) rfl)
      rw[lG]
      go_simp
      exact hK.out _ _ ⟨fun m9=>if m9=8 then .int .i64 en else V m9,(by simp[Act.put,lG]),⟨mO lO,mO lP,mO lY,mO lZ,mO ma,mO me,mO mf,mO mg,fun _=>rfl,mO mi,mO lQ,mO lR,mO lS,mO lT,mO lU,mO lV,mO lW,mO lX⟩,rfl⟩
     ·intro L a' W' hI hLj hE K' hK
      obtain⟨V,rfl,⟨lO,lP,lY,lZ,ma,me,mf,mg,mh,mi,lQ,lR,lS,lT,lU,lV,lW,lX⟩,rfl⟩:=hI
      have lC:=lZ (hE ⟨3,.data⟩ (by simp) rfl)
      have lH:=mh (hE ⟨8,.data⟩ (by simp) rfl)
      rw[lC]
      rw[lH]
      go_simp
      exact hK.out _ _ ⟨fun m9=>if m9=9 then .bool false else V m9,(by simp[Act.put,lC,lH]),⟨mO lO,mO lP,mO lY,mO lZ,mO ma,mO me,mO mf,mO mg,mO mh,fun _=>rfl,mO lQ,mO lR,mO lS,mO lT,mO lU,mO lV,mO lW,mO lX⟩,rfl⟩
     ·intro L a' W' hI hLj hE K' hK
      obtain⟨V,rfl,⟨lO,lP,lY,lZ,ma,me,mf,mg,mh,mi,lQ,lR,lS,lT,lU,lV,lW,lX⟩,rfl⟩:=hI
      have lI:=mi (hE ⟨9,.data⟩ (by simp) rfl)
      rw[lI]
      go_simp
      exact hK.out _ _ ⟨fun m9=>if m9=10 then .bool false else V m9,(by simp[Act.put,lI]),⟨mO lO,mO lP,mO lY,mO lZ,mO ma,mO me,mO mf,mO mg,mO mh,mO mi,fun _=>rfl,mO lR,mO lS,mO lT,mO lU,mO lV,mO lW,mO lX⟩,rfl⟩
     ·intro L a' W' hI hLj hE K' hK
      obtain⟨V,rfl,⟨lO,lP,lY,lZ,ma,me,mf,mg,mh,mi,lQ,lR,lS,lT,lU,lV,lW,lX⟩,rfl⟩:=hI
      have lq:=lQ (hE ⟨10,.guard⟩ (by simp) rfl)
      rw[lq]
      rw[show Region.wanted _ _=false from rfl]
      refine⟨fun _ _=>trivial,hK.out _ _ ⟨fun m9=>if m9=11 then undef else V m9,(by simp[Act.put,lq]),⟨mO lO,mO lP,mO lY,mO lZ,mO ma,mO me,mO mf,mO mg,mO mh,mO mi,mO lQ,fun _=>rfl,mO lS,mO lT,mO lU,mO lV,mO lW,mO lX⟩,rfl⟩⟩
     ·intro L a' W' hI hLj hE K' hK
      obtain⟨V,rfl,⟨lO,lP,lY,lZ,ma,me,mf,mg,mh,mi,lQ,lR,lS,lT,lU,lV,lW,lX⟩,rfl⟩:=hI
      have lr:=lR (hE ⟨11,.data⟩ (by simp) rfl)
      have lq:=lQ (hE ⟨10,.guard⟩ (by simp) rfl)
      rw[lr]
      rw[lq]
      rw[show Region.wanted _ _=false from rfl]
      refine⟨fun _ _=>trivial,hK.out _ _ ⟨fun m9=>if m9=12 then undef else V m9,(by simp[Act.put,lr,lq]),⟨mO lO,mO lP,mO lY,mO lZ,mO ma,mO me,mO mf,mO mg,mO mh,mO mi,mO lQ,mO lR,fun _=>rfl,mO lT,mO lU,mO lV,mO lW,mO lX⟩,rfl⟩⟩
     ·intro L a' W' hI hLj hE K' hK
      obtain⟨V,rfl,⟨lO,lP,lY,lZ,ma,me,mf,mg,mh,mi,lQ,lR,lS,lT,lU,lV,lW,lX⟩,rfl⟩:=hI
      have lu:=lS (hE ⟨12,.data⟩ (by simp) rfl)
      have lq:=lQ (hE ⟨10,.guard⟩ (by simp) rfl)
      rw[lu]
      rw[lq]
      rw[show Region.wanted _ _=false from rfl]
      refine⟨fun _ _=>trivial,hK.out _ _ ⟨fun m9=>if m9=13 then undef else V m9,(by simp[Act.put,lu,lq]),⟨mO lO,mO lP,mO lY,mO lZ,mO ma,mO me,mO mf,mO mg,mO mh,mO mi,mO lQ,mO lR,mO lS,fun _=>rfl,mO lU,mO lV,mO lW,mO lX⟩,rfl⟩⟩
     ·intro L a' W' hI hLj hE K' hK
      obtain⟨V,rfl,⟨lO,lP,lY,lZ,ma,me,mf,mg,mh,mi,lQ,lR,lS,lT,lU,lV,lW,lX⟩,rfl⟩:=hI
      have lx:=lT (hE ⟨13,.data⟩ (by simp) rfl)
      have lq:=lQ (hE ⟨10,.guard⟩ (by simp) rfl)
      rw[lx]
      rw[lq]
      rw[show Region.wanted _ _=false from rfl]
      refine⟨fun _ _=>trivial,hK.out _ _ ⟨fun m9=>if m9=14 then undef else V m9,(by simp[Act.put,lx,lq]),⟨mO lO,mO lP,mO lY,mO lZ,mO ma,mO me,mO mf,mO mg,mO mh,mO mi,mO lQ,mO lR,mO lS,mO lT,fun _=>rfl,mO lV,mO lW,mO lX⟩,rfl⟩⟩
     ·intro L a' W' hI hLj hE K' hK
      obtain⟨V,rfl,⟨lO,lP,lY,lZ,ma,me,mf,mg,mh,mi,lQ,lR,lS,lT,lU,lV,lW,lX⟩,rfl⟩:=hI
      have ly:=lU (hE ⟨14,.data⟩ (by simp) rfl)
      have lq:=lQ (hE ⟨10,.guard⟩ (by simp) rfl)
      rw[ly]
      rw[lq]
      rw[show Region.wanted _ _=false from rfl]
      refine⟨fun _ _=>trivial,hK.out _ _ ⟨fun m9=>if m9=15 then undef else V m9,(by simp[Act.put,ly,lq]),⟨mO lO,mO lP,mO lY,mO lZ,mO ma,mO me,mO mf,mO mg,mO mh,mO mi,mO lQ,mO lR,mO lS,mO lT,mO lU,fun _=>rfl,mO lW,mO lX⟩,rfl⟩⟩
     ·intro L a' W' hI hLj hE K' hK
      obtain⟨V,rfl,⟨lO,lP,lY,lZ,ma,me,mf,mg,mh,mi,lQ,lR,lS,lT,lU,lV,lW,lX⟩,rfl⟩:=hI
      have lz:=lV (hE ⟨15,.data⟩ (by simp) rfl)
      have lq:=lQ (hE ⟨10,.guard⟩ (by simp) rfl)
      rw[lz]
      rw[lq]
      rw[show Region.wanted _ _=false from rfl]
      refine⟨fun _ _=>trivial,hK.out _ _ ⟨fun m9=>if m9=16 then undef else V m9,(by simp[Act.put,lz,lq]),⟨mO lO,mO lP,mO lY,mO lZ,mO ma,mO me,mO mf,mO mg,mO mh,mO mi,mO lQ,mO lR,mO lS,mO lT,mO lU,mO lV,fun _=>rfl,mO lX⟩,rfl⟩⟩
     ·intro L a' W' hI hLj hE K' hK
      obtain⟨V,rfl,⟨lO,lP,lY,lZ,ma,me,mf,mg,mh,mi,lQ,lR,lS,lT,lU,lV,lW,lX⟩,rfl⟩:=hI
      have lq:=lQ (hE ⟨10,.data⟩ (by simp) rfl)
      have lA:=lW (hE ⟨16,.data⟩ (by simp) rfl)
      rw[lq]
      rw[lA]
      go_simp
      exact hK.out _ _ ⟨fun m9=>if m9=17 then .bool false else V m9,(by simp[Act.put,lq,lA]),⟨mO lO,mO lP,mO lY,mO lZ,mO ma,mO me,mO mf,mO mg,mO mh,mO mi,mO lQ,mO lR,mO lS,mO lT,mO lU,mO lV,mO lW,fun _=>rfl⟩,rfl⟩
    intro L a' W' hI hall
    obtain⟨V,rfl,⟨lO,lP,lY,lZ,ma,me,mf,mg,mh,mi,lQ,lR,lS,lT,lU,lV,lW,lX⟩,rfl⟩:=hI
    have lm:=lO (hall 0 (by decide))
    have lp:=lP (hall 1 (by decide))
    have lB:=lY (hall 2 (by decide))
    have lC:=lZ (hall 3 (by decide))
    have lD:=ma (hall 4 (by decide))
    have lE:=me (hall 5 (by decide))
    have lF:=mf (hall 6 (by decide))
    have lG:=mg (hall 7 (by decide))
    have lH:=mh (hall 8 (by decide))
    have lI:=mi (hall 9 (by decide))
    have lq:=lQ (hall 10 (by decide))
    have lr:=lR (hall 11 (by decide))
    have lu:=lS (hall 12 (by decide))
    have lx:=lT (hall 13 (by decide))
    have ly:=lU (hall 14 (by decide))
    have lz:=lV (hall 15 (by decide))
    have lA:=lW (hall 16 (by decide))
    have ev17:=lX (hall 17 (by decide))
    rw[lm,lp,lB,lC,lD,lE,lF,lG,lH,lI,lq,lr,lu,lx,ly,lz,lA,ev17]
    clear lm lO lp lP lB lY lC lZ lD ma lE me lF mf lG mg lH mh lI mi lq lQ lr lR lu lS lx lT ly lU lz lV lA lW ev17 lX hall
    gi_wp2
    exact⟨(fT.bel (aq (Below.refl _ W))).from _,(fT.bel (aq (Below.refl _ W))).kpo,ab HI1⟩
  |true=>
   have hgt:=gBx_tel (by rw[hy];exact htel)
   have Htel:=ae hgt.1
   have Hy:Hid (y=(am x).2):=ae (by rw[←hy];exact hgt.2)
   obtain⟨qs,hqs⟩:∃qs,ps++(jn m b (pre.map am)).2=qs:=⟨_,rfl⟩
   have hql:qs.length≤2000:=by
    rw[←hqs,List.length_append]
    have:=gS_len m b (pre.map am)
    rw[List.length_map]at this
    omega
   rw[hqs]at hPn
   have Hqs:=ae hqs
   have HPn:Hid (aS W.drew.drew B pv qs):=ae hPn
   obtain⟨⟨pky,pst,pen,ptd,pkd,pn,psu,ple,pmo⟩,hpan⟩:∃p9,dB b y=p9:=⟨_,rfl⟩
   have htdy:0≤y.td∧y.td≤100000:=by rw[ab Hy];exact htd0
   clear hm hP0 hown hI0 hbox hPn hy hbx hgt hqs
   obtain⟨ky,st,en,an,asu,ale,amo,fn,fsu,fle,fmo,td,tm⟩:=y
   dsimp only at c2 c7 htdy
   obtain⟨rfl,rfl,rfl,rfl,_⟩:pky=ky∧pst=st∧pen=en∧ptd=td∧True:=by simp[dB]at hpan;exact⟨hpan.1.symm,hpan.2.1.symm,hpan.2.2.1.symm,hpan.2.2.2.1.symm,trivial⟩
   have Hpan:=ae hpan
   have htd:=htdy
   simp only[bU,Bool.and_eq_true,decide_eq_true_eq]at htel
   have d1:decide (pen≤m)=true:=decide_eq_true htel.1
   have d2:decide (0<fn)=true:=decide_eq_true htel.2
   clear htel hpan htdy
   unfold actG
   gi_wp2
   refine dm (ni) (ni) (fun L a' W'=>∃V:Nat→Value,a'=({tmps:=#[.pointer (some ⟨Bo,0,none⟩),.pointer (some ⟨w.heap.size,0,none⟩),undef,.pointer (some ⟨(am x).1,0,none⟩),.pointer (some ⟨Bo,0,none⟩),.pointer (some ⟨Bo,0,none⟩),.pointer (some ⟨Bo,11,none⟩),.map (some mb),(.func (.func 58) #[] #[.pointer (some ⟨w.heap.size+1,0,none⟩)]),.agg #[.int .i64 x.1.1.1,.int .i64 x.1.1.2.1,.int .i64 x.1.1.2.2],.pointer (some ⟨(am x).1,0,none⟩),V 0,V 1,V 2,V 3,V 4,V 5,V 6,V 7,V 8,V 9,V 10,V 11,V 12,V 13,V 14,V 15,V 16,V 17,undef,undef,undef,undef,undef,undef,undef,undef,undef,undef,undef,undef,undef,undef,undef,undef],defers:=[]}:Act)∧((L 0=true→V 0= .pointer (some ⟨Bo,0,none⟩))∧(L 1=true→V 1= .pointer (some ⟨Bo,0,none⟩))∧(L 2=true→V 2= .pointer (some ⟨Bo,10,none⟩))∧(L 3=true→V 3= .int .i64 m)∧(L 4=true→V 4= .pointer (some ⟨(am x).1,0,none⟩))∧(L 5=true→V 5= .pointer (some ⟨(am x).1,0,none⟩))∧(L 6=true→V 6= .pointer (some ⟨(am x).1,1,none⟩))∧(L 7=true→V 7= .pointer (some ⟨(am x).1,2,none⟩))∧(L 8=true→V 8= .int .i64 pen)∧(L 9=true→V 9= .bool true)∧(L 10=true→V 10= .bool true)∧(L 11=true→V 11= .pointer (some ⟨(am x).1,0,none⟩))∧(L 12=true→V 12= .pointer (some ⟨(am x).1,0,none⟩))∧(L 13=true→V 13= .pointer (some ⟨(am x).1,7,none⟩))∧(L 14=true→V 14= .pointer (some ⟨(am x).1,7,none⟩))∧(L 15=true→V 15= .int .i64 fn)∧(L 16=true→V 16= .bool true)∧(L 17=true→V 17= .bool true))∧W'=W.drew) ?_ ?_ ?_
   ·exact⟨fun _=>undef,rfl,⟨(fun h9=>(by cases h9)),(fun h9=>(by cases h9)),(fun h9=>(by cases h9)),(fun h9=>(by cases h9)),(fun h9=>(by cases h9)),(fun h9=>(by cases h9)),(fun h9=>(by cases h9)),(fun h9=>(by cases h9)),(fun h9=>(by cases h9)),(fun h9=>(by cases h9)),(fun h9=>(by cases h9)),(fun h9=>(by cases h9)),(fun h9=>(by cases h9)),(fun h9=>(by cases h9)),(fun h9=>(by cases h9)),(fun h9=>(by cases h9)),(fun h9=>(by cases h9)),(fun h9=>(by cases h9))⟩,rfl⟩
   ·refine⟨?_,?_,?_,?_,?_,?_,?_,?_,?_,?_,?_,?_,?_,?_,?_,?_,?_,?_,trivial⟩
    ·intro L a' W' hI hLj hE K' hK
     obtain⟨V,rfl,⟨lO,lP,lY,lZ,ma,me,mf,mg,mh,mi,lQ,lR,lS,lT,lU,lV,lW,lX⟩,rfl⟩:=hI
     go_simp
     exact hK.out _ _ ⟨fun m9=>if m9=0 then .pointer (some ⟨Bo,0,none⟩)else V m9,rfl,⟨fun _=>rfl,mO lP,mO lY,mO lZ,mO ma,mO me,mO mf,mO mg,mO mh,mO mi,mO lQ,mO lR,mO lS,mO lT,mO lU,mO lV,mO lW,mO lX⟩,rfl⟩
    ·intro L a' W' hI hLj hE K' hK
     obtain⟨V,rfl,⟨lO,lP,lY,lZ,ma,me,mf,mg,mh,mi,lQ,lR,lS,lT,lU,lV,lW,lX⟩,rfl⟩:=hI
     have lm:=lO (hE ⟨0,.data⟩ (by simp) rfl)
     rw[lm]
     go_simp
     exact hK.out _ _ ⟨fun m9=>if m9=1 then .pointer (some ⟨Bo,0,none⟩)else V m9,(by simp[Act.put,lm]),⟨mO lO,fun _=>rfl,mO lY,mO lZ,mO ma,mO me,mO mf,mO mg,mO mh,mO mi,mO lQ,mO lR,mO lS,mO lT,mO lU,mO lV,mO lW,mO lX⟩,rfl⟩
    ·intro L a' W' hI hLj hE K' hK
     obtain⟨V,rfl,⟨lO,lP,lY,lZ,ma,me,mf,mg,mh,mi,lQ,lR,lS,lT,lU,lV,lW,lX⟩,rfl⟩:=hI
     have lp:=lP (hE ⟨1,.data⟩ (by simp) rfl)
     rw[lp]
     go_simp
     exact hK.out _ _ ⟨fun m9=>if m9=2 then .pointer (some ⟨Bo,10,none⟩)else V m9,(by simp[Act.put,lp]),⟨mO lO,mO lP,fun _=>rfl,mO lZ,mO ma,mO me,mO mf,mO mg,mO mh,mO mi,mO lQ,mO lR,mO lS,mO lT,mO lU,mO lV,mO lW,mO lX⟩,rfl⟩
    ·intro L a' W' hI hLj hE K' hK
     obtain⟨V,rfl,⟨lO,lP,lY,lZ,ma,me,mf,mg,mh,mi,lQ,lR,lS,lT,lU,lV,lW,lX⟩,rfl⟩:=hI
     have lB:=lY (hE ⟨2,.data⟩ (by simp) rfl)
     rw[lB]
     go_simp
     exact hK.out _ _ ⟨fun m9=>if m9=3 then .int .i64 m else V m9,(by simp[Act.put,lB]),⟨mO lO,mO lP,mO lY,fun _=>rfl,mO ma,mO me,mO mf,mO mg,mO mh,mO mi,mO lQ,mO lR,mO lS,mO lT,mO lU,mO lV,mO lW,mO lX⟩,rfl⟩
    ·intro L a' W' hI hLj hE K' hK
     obtain⟨V,rfl,⟨lO,lP,lY,lZ,ma,me,mf,mg,mh,mi,lQ,lR,lS,lT,lU,lV,lW,lX⟩,rfl⟩:=hI
     go_simp
     exact hK.out _ _ ⟨fun m9=>if m9=4 then .pointer (some ⟨(am x).1,0,none⟩)else V m9,rfl,⟨mO lO,mO lP,mO lY,mO lZ,fun _=>rfl,mO me,mO mf,mO mg,mO mh,mO mi,mO lQ,mO lR,mO lS,mO lT,mO lU,mO lV,mO lW,mO lX⟩,rfl⟩
    ·intro L a' W' hI hLj hE K' hK
     obtain⟨V,rfl,⟨lO,lP,lY,lZ,ma,me,mf,mg,mh,mi,lQ,lR,lS,lT,lU,lV,lW,lX⟩,rfl⟩:=hI
     have lD:=ma (hE ⟨4,.data⟩ (by simp) rfl)
     rw[lD]
     go_simp
     exact hK.out _ _ ⟨fun m9=>if m9=5 then .pointer (some ⟨(am x).1,0,none⟩)else V m9,(by simp[Act.put,lD]),⟨mO lO,mO lP,mO lY,mO lZ,mO ma,fun _=>rfl,mO mf,mO mg,mO mh,mO mi,mO lQ,mO lR,mO lS,mO lT,mO lU,mO lV,mO lW,mO lX⟩,rfl⟩
    ·intro L a' W' hI hLj hE K' hK
     obtain⟨V,rfl,⟨lO,lP,lY,lZ,ma,me,mf,mg,mh,mi,lQ,lR,lS,lT,lU,lV,lW,lX⟩,rfl⟩:=hI
     have lE:=me (hE ⟨5,.data⟩ (by simp) rfl)
     rw[lE]
     go_simp
     exact hK.out _ _ ⟨fun m9=>if m9=6 then .pointer (some ⟨(am x).1,1,none⟩)else V m9,(by simp[Act.put,lE]),⟨mO lO,mO lP,mO lY,mO lZ,mO ma,mO me,fun _=>rfl,mO mg,mO mh,mO mi,mO lQ,mO lR,mO lS,mO lT,mO lU,mO lV,mO lW,mO lX⟩,rfl⟩
    ·intro L a' W' hI hLj hE K' hK
     obtain⟨V,rfl,⟨lO,lP,lY,lZ,ma,me,mf,mg,mh,mi,lQ,lR,lS,lT,lU,lV,lW,lX⟩,rfl⟩:=hI
     have lF:=mf (hE ⟨6,.data⟩ (by simp) rfl)
     rw[lF]
     go_simp
     exact hK.out _ _ ⟨fun m9=>if m9=7 then .pointer (some ⟨(am x).1,2,none⟩)else V m9,(by simp[Act.put,lF]),⟨mO lO,mO lP,mO lY,mO lZ,mO ma,mO me,mO mf,fun _=>rfl,mO mh,mO mi,mO lQ,mO lR,mO lS,mO lT,mO lU,mO lV,mO lW,mO lX⟩,rfl⟩
    ·intro L a' W' hI hLj hE K' hK
     obtain⟨V,rfl,⟨lO,lP,lY,lZ,ma,me,mf,mg,mh,mi,lQ,lR,lS,lT,lU,lV,lW,lX⟩,rfl⟩:=hI
     have lG:=mg (hE ⟨7,.data⟩ (by simp) rfl)
     rw[lG]
     go_simp
     exact hK.out _ _ ⟨fun m9=>if m9=8 then .int .i64 pen else V m9,(by simp[Act.put,lG]),⟨mO lO,mO lP,mO lY,mO lZ,mO ma,mO me,mO mf,mO mg,fun _=>rfl,mO mi,mO lQ,mO lR,mO lS,mO lT,mO lU,mO lV,mO lW,mO lX⟩,rfl⟩
    ·intro L a' W' hI hLj hE K' hK
     obtain⟨V,rfl,⟨lO,lP,lY,lZ,ma,me,mf,mg,mh,mi,lQ,lR,lS,lT,lU,lV,lW,lX⟩,rfl⟩:=hI
     have lC:=lZ (hE ⟨3,.data⟩ (by simp) rfl)
     have lH:=mh (hE ⟨8,.data⟩ (by simp) rfl)
     rw[lC]
     rw[lH]
     go_simp
     exact hK.out _ _ ⟨fun m9=>if m9=9 then .bool true else V m9,(by simp[Act.put,lC,lH]),⟨mO lO,mO lP,mO lY,mO lZ,mO ma,mO me,mO mf,mO mg,mO mh,fun _=>rfl,mO lQ,mO lR,mO lS,mO lT,mO lU,mO lV,mO lW,mO lX⟩,rfl⟩
    ·intro L a' W' hI hLj hE K' hK
     obtain⟨V,rfl,⟨lO,lP,lY,lZ,ma,me,mf,mg,mh,mi,lQ,lR,lS,lT,lU,lV,lW,lX⟩,rfl⟩:=hI
     have lI:=mi (hE ⟨9,.data⟩ (by simp) rfl)
     rw[lI]
     go_simp
     exact hK.out _ _ ⟨fun m9=>if m9=10 then .bool true else V m9,(by simp[Act.put,lI]),⟨mO lO,mO lP,mO lY,mO lZ,mO ma,mO me,mO mf,mO mg,mO mh,mO mi,fun _=>rfl,mO lR,mO lS,mO lT,mO lU,mO lV,mO lW,mO lX⟩,rfl⟩
    ·intro L a' W' hI hLj hE K' hK
     obtain⟨V,rfl,⟨lO,lP,lY,lZ,ma,me,mf,mg,mh,mi,lQ,lR,lS,lT,lU,lV,lW,lX⟩,rfl⟩:=hI
     have lq:=lQ (hE ⟨10,.guard⟩ (by simp) rfl)
     rw[lq]
     rw[show Region.wanted _ _=true from rfl]
     go_simp
     exact hK.out _ _ ⟨fun m9=>if m9=11 then .pointer (some ⟨(am x).1,0,none⟩)else V m9,(by simp[Act.put,lq]),⟨mO lO,mO lP,mO lY,mO lZ,mO ma,mO me,mO mf,mO mg,mO mh,mO mi,mO lQ,fun _=>rfl,mO lS,mO lT,mO lU,mO lV,mO lW,mO lX⟩,rfl⟩
    ·intro L a' W' hI hLj hE K' hK
     obtain⟨V,rfl,⟨lO,lP,lY,lZ,ma,me,mf,mg,mh,mi,lQ,lR,lS,lT,lU,lV,lW,lX⟩,rfl⟩:=hI
     have lr:=lR (hE ⟨11,.data⟩ (by simp) rfl)
     have lq:=lQ (hE ⟨10,.guard⟩ (by simp) rfl)
     rw[lr]
     rw[lq]
     rw[show Region.wanted _ _=true from rfl]
     go_simp
     exact hK.out _ _ ⟨fun m9=>if m9=12 then .pointer (some ⟨(am x).1,0,none⟩)else V m9,(by simp[Act.put,lr,lq]),⟨mO lO,mO lP,mO lY,mO lZ,mO ma,mO me,mO mf,mO mg,mO mh,mO mi,mO lQ,mO lR,fun _=>rfl,mO lT,mO lU,mO lV,mO lW,mO lX⟩,rfl⟩
    ·intro L a' W' hI hLj hE K' hK
     obtain⟨V,rfl,⟨lO,lP,lY,lZ,ma,me,mf,mg,mh,mi,lQ,lR,lS,lT,lU,lV,lW,lX⟩,rfl⟩:=hI
     have lu:=lS (hE ⟨12,.data⟩ (by simp) rfl)
     have lq:=lQ (hE ⟨10,.guard⟩ (by simp) rfl)
     rw[lu]
     rw[lq]
     rw[show Region.wanted _ _=true from rfl]
     go_simp
     exact hK.out _ _ ⟨fun m9=>if m9=13 then .pointer (some ⟨(am x).1,7,none⟩)else V m9,(by simp[Act.put,lu,lq]),⟨mO lO,mO lP,mO lY,mO lZ,mO ma,mO me,mO mf,mO mg,mO mh,mO mi,mO lQ,mO lR,mO lS,fun _=>rfl,mO lU,mO lV,mO lW,mO lX⟩,rfl⟩
    ·intro L a' W' hI hLj hE K' hK
     obtain⟨V,rfl,⟨lO,lP,lY,lZ,ma,me,mf,mg,mh,mi,lQ,lR,lS,lT,lU,lV,lW,lX⟩,rfl⟩:=hI
     have lx:=lT (hE ⟨13,.data⟩ (by simp) rfl)
     have lq:=lQ (hE ⟨10,.guard⟩ (by simp) rfl)
     rw[lx]
     rw[lq]
     rw[show Region.wanted _ _=true from rfl]
     go_simp
     exact hK.out _ _ ⟨fun m9=>if m9=14 then .pointer (some ⟨(am x).1,7,none⟩)else V m9,(by simp[Act.put,lx,lq]),⟨mO lO,mO lP,mO lY,mO lZ,mO ma,mO me,mO mf,mO mg,mO mh,mO mi,mO lQ,mO lR,mO lS,mO lT,fun _=>rfl,mO lV,mO lW,mO lX⟩,rfl⟩
    ·intro L a' W' hI hLj hE K' hK
     obtain⟨V,rfl,⟨lO,lP,lY,lZ,ma,me,mf,mg,mh,mi,lQ,lR,lS,lT,lU,lV,lW,lX⟩,rfl⟩:=hI
     have ly:=lU (hE ⟨14,.data⟩ (by simp) rfl)
     have lq:=lQ (hE ⟨10,.guard⟩ (by simp) rfl)
     rw[ly]
     rw[lq]
     rw[show Region.wanted _ _=true from rfl]
     go_simp
     exact hK.out _ _ ⟨fun m9=>if m9=15 then .int .i64 fn else V m9,(by simp[Act.put,ly,lq]),⟨mO lO,mO lP,mO lY,mO lZ,mO ma,mO me,mO mf,mO mg,mO mh,mO mi,mO lQ,mO lR,mO lS,mO lT,mO lU,fun _=>rfl,mO lW,mO lX⟩,rfl⟩
    ·intro L a' W' hI hLj hE K' hK
     obtain⟨V,rfl,⟨lO,lP,lY,lZ,ma,me,mf,mg,mh,mi,lQ,lR,lS,lT,lU,lV,lW,lX⟩,rfl⟩:=hI
     have lz:=lV (hE ⟨15,.data⟩ (by simp) rfl)
     have lq:=lQ (hE ⟨10,.guard⟩ (by simp) rfl)
     rw[lz]
     rw[lq]
     rw[show Region.wanted _ _=true from rfl]
     go_simp
     exact hK.out _ _ ⟨fun m9=>if m9=16 then .bool true else V m9,(by simp[Act.put,lz,lq]),⟨mO lO,mO lP,mO lY,mO lZ,mO ma,mO me,mO mf,mO mg,mO mh,mO mi,mO lQ,mO lR,mO lS,mO lT,mO lU,mO lV,fun _=>rfl,mO lX⟩,rfl⟩
    ·intro L a' W' hI hLj hE K' hK
     obtain⟨V,rfl,⟨lO,lP,lY,lZ,ma,me,mf,mg,mh,mi,lQ,lR,lS,lT,lU,lV,lW,lX⟩,rfl⟩:=hI
     have lq:=lQ (hE ⟨10,.data⟩ (by simp) rfl)
     have lA:=lW (hE ⟨16,.data⟩ (by simp) rfl)
     rw[lq]
     rw[lA]
     go_simp
     exact hK.out _ _ ⟨fun m9=>if m9=17 then .bool true else V m9,(by simp[Act.put,lq,lA]),⟨mO lO,mO lP,mO lY,mO lZ,mO ma,mO me,mO mf,mO mg,mO mh,mO mi,mO lQ,mO lR,mO lS,mO lT,mO lU,mO lV,mO lW,fun _=>rfl⟩,rfl⟩
   intro L a' W' hI hall
   obtain⟨V,rfl,⟨lO,lP,lY,lZ,ma,me,mf,mg,mh,mi,lQ,lR,lS,lT,lU,lV,lW,lX⟩,rfl⟩:=hI
   have lm:=lO (hall 0 (by decide))
   have lp:=lP (hall 1 (by decide))
   have lB:=lY (hall 2 (by decide))
   have lC:=lZ (hall 3 (by decide))
   have lD:=ma (hall 4 (by decide))
   have lE:=me (hall 5 (by decide))
   have lF:=mf (hall 6 (by decide))
   have lG:=mg (hall 7 (by decide))
   have lH:=mh (hall 8 (by decide))
   have lI:=mi (hall 9 (by decide))
   have lq:=lQ (hall 10 (by decide))
   have lr:=lR (hall 11 (by decide))
   have lu:=lS (hall 12 (by decide))
   have lx:=lT (hall 13 (by decide))
   have ly:=lU (hall 14 (by decide))
   have lz:=lV (hall 15 (by decide))
   have lA:=lW (hall 16 (by decide))
   have ev17:=lX (hall 17 (by decide))
   rw[lm,lp,lB,lC,lD,lE,lF,lG,lH,lI,lq,lr,lu,lx,ly,lz,lA,ev17]
   clear lm lO lp lP lB lY lC lZ lD ma lE me lF mf lG mg lH mh lI mi lq lQ lr lR lu lS lx lT ly lU lz lV lA lW ev17 lX hall
   gi_wp2
   refine dm (ni) (ni) (fun L a' W'=>(L 16=false∧(fun L a' W'=>∃V:Nat→Value,a'=({tmps:=#[.pointer (some ⟨Bo,0,none⟩),.pointer (some ⟨w.heap.size,0,none⟩),undef,.pointer (some ⟨(am x).1,0,none⟩),.pointer (some ⟨Bo,0,none⟩),.pointer (some ⟨Bo,0,none⟩),.pointer (some ⟨Bo,11,none⟩),.map (some mb),(.func (.func 58) #[] #[.pointer (some ⟨w.heap.size+1,0,none⟩)]),.agg #[.int .i64 x.1.1.1,.int .i64 x.1.1.2.1,.int .i64 x.1.1.2.2],.pointer (some ⟨(am x).1,0,none⟩),.pointer (some ⟨Bo,0,none⟩),.pointer (some ⟨Bo,0,none⟩),.pointer (some ⟨Bo,10,none⟩),.int .i64 m,.pointer (some ⟨(am x).1,0,none⟩),.pointer (some ⟨(am x).1,0,none⟩),.pointer (some ⟨(am x).1,1,none⟩),.pointer (some ⟨(am x).1,2,none⟩),.int .i64 pen,.bool true,.bool true,.pointer (some ⟨(am x).1,0,none⟩),.pointer (some ⟨(am x).1,0,none⟩),.pointer (some ⟨(am x).1,7,none⟩),.pointer (some ⟨(am x).1,7,none⟩),.int .i64 fn,.bool true,.bool true,V 0,V 1,V 2,V 3,V 4,V 5,V 6,V 7,V 8,V 9,V 10,V 11,V 12,V 13,V 14,V 15],defers:=[]}:Act)∧((L 0=true→V 0= .pointer (some ⟨Bo,0,none⟩))∧(L 1=true→V 1= .pointer (some ⟨Bo,0,none⟩))∧(L 2=true→V 2= .pointer (some ⟨Bo,0,none⟩))∧(L 3=true→V 3= .pointer (some ⟨Bo,12,none⟩))∧(L 4=true→V 4=pv)∧(L 5=true→V 5= .pointer (some ⟨(am x).1,0,none⟩))∧(L 6=true→V 6= .pointer (some ⟨Bo,0,none⟩))∧(L 7=true→V 7= .pointer (some ⟨Bo,0,none⟩))∧(L 8=true→V 8= .pointer (some ⟨Bo,0,none⟩))∧(L 9=true→V 9= .pointer (some ⟨Bo,7,none⟩))∧(L 10=true→V 10= .bool b)∧(L 11=true→V 11= .agg #[.int .i64 pky,.int .i64 pst,.int .i64 pen,.int .i64 ptd,.int .i64 pkd,.int .i64 pn,.int .i64 psu,.int .i64 ple,.int .i64 pmo])∧(L 14=true→V 14= .pointer (some ⟨Bo,0,none⟩))∧(L 15=true→V 15= .pointer (some ⟨Bo,12,none⟩)))∧W'.heap[Bo]? =some (.cells #[.int .i64 s,.int .i64 t,.int .i64 k,.int .i64 z,.int .i64 q,.int .i64 l,.int .i64 e,.bool b,.int .i64 v,.int .i64 r,.int .i64 m,.map (some (mb)),pv,lv] 62 (0,0))∧W'.heap[w.heap.size]? =some (.cells #[.pointer (some ⟨Bo,0,none⟩)] 55 (0,0))∧(L 11=false→W'=W.drew.drew)∧(L 11=true→L 12=false→Hid (fR W' (am x).1 (ce (⟨pky,pst,pen,an,asu,ale,amo,fn,fsu,fle,fmo,ptd,tm⟩:aD))∧W.drew.drew.grownBy W' (some (am x).1)))∧(L 12=true→L 13=false→Hid (∃Wt,(fR Wt (am x).1 (ce (⟨pky,pst,pen,an,asu,ale,amo,fn,fsu,fle,fmo,ptd,tm⟩:aD))∧W.drew.drew.grownBy Wt (some (am x).1))∧W'=Wt.alloc (.cells #[.int .i64 pky,.int .i64 pst,.int .i64 pen,.int .i64 ptd,.int .i64 pkd,.int .i64 pn,.int .i64 psu,.int .i64 ple,.int .i64 pmo] 44)∧V 12= .slice (some ⟨Wt.heap.size,0,none⟩) 1 1))∧(L 12=true→L 11=true)∧(L 13=true→L 12=true)∧(L 13=true→Hid (∃Wt,(fR Wt (am x).1 (ce (⟨pky,pst,pen,an,asu,ale,amo,fn,fsu,fle,fmo,ptd,tm⟩:aD))∧W.drew.drew.grownBy Wt (some (am x).1))∧(Wt.alloc (.cells #[.int .i64 pky,.int .i64 pst,.int .i64 pen,.int .i64 ptd,.int .i64 pkd,.int .i64 pn,.int .i64 psu,.int .i64 ple,.int .i64 pmo] 44)).grownBy W' pv.ownBlock∧W'.ownsRow B 44 9 (V 13) (qs.length+1) (br qs++[.int .i64 pky,.int .i64 pst,.int .i64 pen,.int .i64 ptd,.int .i64 pkd,.int .i64 pn,.int .i64 psu,.int .i64 ple,.int .i64 pmo])))∧(L 15=true→L 14=true)) L a' W')∨((∀j9,j9<16→L j9=true)∧L 16=true∧KeepsFrom (((w.alloc (.cells #[.pointer (some ⟨Bo,0,none⟩)] 55)).alloc (.cells #[.map (some mb)] 59))).heap.size W W'∧gV W W'∧GaI w B Bo mb nn s t k z q l e b v r m ps lv (es:=es) (pre++[x]) W')) ?_ ?_ ?_
   ·exact Or.inl ⟨rfl,fun _=>undef,rfl,⟨(fun h9=>(by cases h9)),(fun h9=>(by cases h9)),(fun h9=>(by cases h9)),(fun h9=>(by cases h9)),(fun h9=>(by cases h9)),(fun h9=>(by cases h9)),(fun h9=>(by cases h9)),(fun h9=>(by cases h9)),(fun h9=>(by cases h9)),(fun h9=>(by cases h9)),(fun h9=>(by cases h9)),(fun h9=>(by cases h9)),(fun h9=>(by cases h9)),(fun h9=>(by cases h9))⟩,bO,bP,fun _=>rfl,fun h9=>(by cases h9),fun h9=>(by cases h9),fun h9=>(by cases h9),fun h9=>(by cases h9),fun h9=>(by cases h9),fun h9=>(by cases h9)⟩
   ·refine⟨?_,?_,?_,?_,?_,?_,?_,?_,?_,?_,?_,?_,?_,?_,?_,?_,?_,trivial⟩
    ·intro L a' W' hI hLj hE K' hK
     rcases hI with⟨h16,hI⟩|⟨hall,_⟩
     case inr=>have h9:=hall 0 (by omega);rw[hLj]at h9;cases h9
     obtain⟨V,rfl,⟨lO,lP,lY,lZ,ma,me,mf,mg,mh,mi,lQ,lR,lU,lV⟩,bO,bP,hw0,hw1,hw2,hd1,hd2,hw3,hd3⟩:=hI
     have k0:W'.cell? ⟨w.heap.size,0,none⟩=some (.pointer (some ⟨Bo,0,none⟩)):=cA bP 0
     go_simp
     exact hK.out _ _ (Or.inl ⟨by simpa[more]using h16,fun m9=>if m9=0 then .pointer (some ⟨Bo,0,none⟩)else V m9,rfl,⟨fun _=>rfl,mO lP,mO lY,mO lZ,mO ma,mO me,mO mf,mO mg,mO mh,mO mi,mO lQ,mO lR,mO lU,mO lV⟩,bO,bP,mO hw0,fun h9 h8=>hw1 (mP h9) (mP h8),fun h9 h8=>hw2 (mP h9) (mP h8),fun h9=>by have:=hd1 (mP h9);simp[more,this],fun h9=>by have:=hd2 (mP h9);simp[more,this],mO hw3,fun h9=>by have:=hd3 (mP h9);simp[more,this]⟩)
    ·intro L a' W' hI hLj hE K' hK
     rcases hI with⟨h16,hI⟩|⟨hall,_⟩
     case inr=>have h9:=hall 1 (by omega);rw[hLj]at h9;cases h9
     obtain⟨V,rfl,⟨lO,lP,lY,lZ,ma,me,mf,mg,mh,mi,lQ,lR,lU,lV⟩,bO,bP,hw0,hw1,hw2,hd1,hd2,hw3,hd3⟩:=hI
     have k0:W'.cell? ⟨w.heap.size,0,none⟩=some (.pointer (some ⟨Bo,0,none⟩)):=cA bP 0
     go_simp
     exact hK.out _ _ (Or.inl ⟨by simpa[more]using h16,fun m9=>if m9=1 then .pointer (some ⟨Bo,0,none⟩)else V m9,rfl,⟨mO lO,fun _=>rfl,mO lY,mO lZ,mO ma,mO me,mO mf,mO mg,mO mh,mO mi,mO lQ,mO lR,mO lU,mO lV⟩,bO,bP,mO hw0,fun h9 h8=>hw1 (mP h9) (mP h8),fun h9 h8=>hw2 (mP h9) (mP h8),fun h9=>by have:=hd1 (mP h9);simp[more,this],fun h9=>by have:=hd2 (mP h9);simp[more,this],mO hw3,fun h9=>by have:=hd3 (mP h9);simp[more,this]⟩)
    ·intro L a' W' hI hLj hE K' hK
     rcases hI with⟨h16,hI⟩|⟨hall,_⟩
     case inr=>have h9:=hall 2 (by omega);rw[hLj]at h9;cases h9
     obtain⟨V,rfl,⟨lO,lP,lY,lZ,ma,me,mf,mg,mh,mi,lQ,lR,lU,lV⟩,bO,bP,hw0,hw1,hw2,hd1,hd2,hw3,hd3⟩:=hI
     have el1:=hE ⟨1,.data⟩ (by simp) rfl
     have lp:=lP el1
     rw[lp]
     go_simp
     exact hK.out _ _ (Or.inl ⟨by simpa[more]using h16,fun m9=>if m9=2 then .pointer (some ⟨Bo,0,none⟩)else V m9,(by simp[lp]),⟨mO lO,mO lP,fun _=>rfl,mO lZ,mO ma,mO me,mO mf,mO mg,mO mh,mO mi,mO lQ,mO lR,mO lU,mO lV⟩,bO,bP,mO hw0,fun h9 h8=>hw1 (mP h9) (mP h8),fun h9 h8=>hw2 (mP h9) (mP h8),fun h9=>by have:=hd1 (mP h9);simp[more,this],fun h9=>by have:=hd2 (mP h9);simp[more,this],mO hw3,fun h9=>by have:=hd3 (mP h9);simp[more,this]⟩)
    ·intro L a' W' hI hLj hE K' hK
     rcases hI with⟨h16,hI⟩|⟨hall,_⟩
     case inr=>have h9:=hall 3 (by omega);rw[hLj]at h9;cases h9
     obtain⟨V,rfl,⟨lO,lP,lY,lZ,ma,me,mf,mg,mh,mi,lQ,lR,lU,lV⟩,bO,bP,hw0,hw1,hw2,hd1,hd2,hw3,hd3⟩:=hI
     have el2:=hE ⟨2,.data⟩ (by simp) rfl
     have lB:=lY el2
     rw[lB]
     go_simp
     exact hK.out _ _ (Or.inl ⟨by simpa[more]using h16,fun m9=>if m9=3 then .pointer (some ⟨Bo,12,none⟩)else V m9,(by simp[lB]),⟨mO lO,mO lP,mO lY,fun _=>rfl,mO ma,mO me,mO mf,mO mg,mO mh,mO mi,mO lQ,mO lR,mO lU,mO lV⟩,bO,bP,mO hw0,fun h9 h8=>hw1 (mP h9) (mP h8),fun h9 h8=>hw2 (mP h9) (mP h8),fun h9=>by have:=hd1 (mP h9);simp[more,this],fun h9=>by have:=hd2 (mP h9);simp[more,this],mO hw3,fun h9=>by have:=hd3 (mP h9);simp[more,this]⟩)
    ·intro L a' W' hI hLj hE K' hK
     rcases hI with⟨h16,hI⟩|⟨hall,_⟩
     case inr=>have h9:=hall 4 (by omega);rw[hLj]at h9;cases h9
     obtain⟨V,rfl,⟨lO,lP,lY,lZ,ma,me,mf,mg,mh,mi,lQ,lR,lU,lV⟩,bO,bP,hw0,hw1,hw2,hd1,hd2,hw3,hd3⟩:=hI
     have el3:=hE ⟨3,.data⟩ (by simp) rfl
     have lC:=lZ el3
     have k0:W'.cell? ⟨Bo,12,none⟩=some pv:=cA bO 12
     rw[lC]
     go_simp
     exact hK.out _ _ (Or.inl ⟨by simpa[more]using h16,fun m9=>if m9=4 then pv else V m9,(by simp[lC]),⟨mO lO,mO lP,mO lY,mO lZ,fun _=>rfl,mO me,mO mf,mO mg,mO mh,mO mi,mO lQ,mO lR,mO lU,mO lV⟩,bO,bP,mO hw0,fun h9 h8=>hw1 (mP h9) (mP h8),fun h9 h8=>hw2 (mP h9) (mP h8),fun h9=>by have:=hd1 (mP h9);simp[more,this],fun h9=>by have:=hd2 (mP h9);simp[more,this],mO hw3,fun h9=>by have:=hd3 (mP h9);simp[more,this]⟩)
    ·intro L a' W' hI hLj hE K' hK
     rcases hI with⟨h16,hI⟩|⟨hall,_⟩
     case inr=>have h9:=hall 5 (by omega);rw[hLj]at h9;cases h9
     obtain⟨V,rfl,⟨lO,lP,lY,lZ,ma,me,mf,mg,mh,mi,lQ,lR,lU,lV⟩,bO,bP,hw0,hw1,hw2,hd1,hd2,hw3,hd3⟩:=hI
     go_simp
     exact hK.out _ _ (Or.inl ⟨by simpa[more]using h16,fun m9=>if m9=5 then .pointer (some ⟨(am x).1,0,none⟩)else V m9,rfl,⟨mO lO,mO lP,mO lY,mO lZ,mO ma,fun _=>rfl,mO mf,mO mg,mO mh,mO mi,mO lQ,mO lR,mO lU,mO lV⟩,bO,bP,mO hw0,fun h9 h8=>hw1 (mP h9) (mP h8),fun h9 h8=>hw2 (mP h9) (mP h8),fun h9=>by have:=hd1 (mP h9);simp[more,this],fun h9=>by have:=hd2 (mP h9);simp[more,this],mO hw3,fun h9=>by have:=hd3 (mP h9);simp[more,this]⟩)
    ·intro L a' W' hI hLj hE K' hK
     rcases hI with⟨h16,hI⟩|⟨hall,_⟩
     case inr=>have h9:=hall 6 (by omega);rw[hLj]at h9;cases h9
     obtain⟨V,rfl,⟨lO,lP,lY,lZ,ma,me,mf,mg,mh,mi,lQ,lR,lU,lV⟩,bO,bP,hw0,hw1,hw2,hd1,hd2,hw3,hd3⟩:=hI
     have k0:W'.cell? ⟨w.heap.size,0,none⟩=some (.pointer (some ⟨Bo,0,none⟩)):=cA bP 0
     go_simp
     exact hK.out _ _ (Or.inl ⟨by simpa[more]using h16,fun m9=>if m9=6 then .pointer (some ⟨Bo,0,none⟩)else V m9,rfl,⟨mO lO,mO lP,mO lY,mO lZ,mO ma,mO me,fun _=>rfl,mO mg,mO mh,mO mi,mO lQ,mO lR,mO lU,mO lV⟩,bO,bP,mO hw0,fun h9 h8=>hw1 (mP h9) (mP h8),fun h9 h8=>hw2 (mP h9) (mP h8),fun h9=>by have:=hd1 (mP h9);simp[more,this],fun h9=>by have:=hd2 (mP h9);simp[more,this],mO hw3,fun h9=>by have:=hd3 (mP h9);simp[more,this]⟩)
    ·intro L a' W' hI hLj hE K' hK
     rcases hI with⟨h16,hI⟩|⟨hall,_⟩
     case inr=>have h9:=hall 7 (by omega);rw[hLj]at h9;cases h9
     obtain⟨V,rfl,⟨lO,lP,lY,lZ,ma,me,mf,mg,mh,mi,lQ,lR,lU,lV⟩,bO,bP,hw0,hw1,hw2,hd1,hd2,hw3,hd3⟩:=hI
     have el6:=hE ⟨6,.data⟩ (by simp) rfl
     have lF:=mf el6
     rw[lF]
     go_simp
     exact hK.out _ _ (Or.inl ⟨by simpa[more]using h16,fun m9=>if m9=7 then .pointer (some ⟨Bo,0,none⟩)else V m9,(by simp[lF]),⟨mO lO,mO lP,mO lY,mO lZ,mO ma,mO me,mO mf,fun _=>rfl,mO mh,mO mi,mO lQ,mO lR,mO lU,mO lV⟩,bO,bP,mO hw0,fun h9 h8=>hw1 (mP h9) (mP h8),fun h9 h8=>hw2 (mP h9) (mP h8),fun h9=>by have:=hd1 (mP h9);simp[more,this],fun h9=>by have:=hd2 (mP h9);simp[more,this],mO hw3,fun h9=>by have:=hd3 (mP h9);simp[more,this]⟩)
    ·intro L a' W' hI hLj hE K' hK
     rcases hI with⟨h16,hI⟩|⟨hall,_⟩
     case inr=>have h9:=hall 8 (by omega);rw[hLj]at h9;cases h9
     obtain⟨V,rfl,⟨lO,lP,lY,lZ,ma,me,mf,mg,mh,mi,lQ,lR,lU,lV⟩,bO,bP,hw0,hw1,hw2,hd1,hd2,hw3,hd3⟩:=hI
     have el7:=hE ⟨7,.data⟩ (by simp) rfl
     have lG:=mg el7
     rw[lG]
     go_simp
     exact hK.out _ _ (Or.inl ⟨by simpa[more]using h16,fun m9=>if m9=8 then .pointer (some ⟨Bo,0,none⟩)else V m9,(by simp[lG]),⟨mO lO,mO lP,mO lY,mO lZ,mO ma,mO me,mO mf,mO mg,fun _=>rfl,mO mi,mO lQ,mO lR,mO lU,mO lV⟩,bO,bP,mO hw0,fun h9 h8=>hw1 (mP h9) (mP h8),fun h9 h8=>hw2 (mP h9) (mP h8),fun h9=>by have:=hd1 (mP h9);simp[more,this],fun h9=>by have:=hd2 (mP h9);simp[more,this],mO hw3,fun h9=>by have:=hd3 (mP h9);simp[more,this]⟩)
    ·intro L a' W' hI hLj hE K' hK
     rcases hI with⟨h16,hI⟩|⟨hall,_⟩
     case inr=>have h9:=hall 9 (by omega);rw[hLj]at h9;cases h9
     obtain⟨V,rfl,⟨lO,lP,lY,lZ,ma,me,mf,mg,mh,mi,lQ,lR,lU,lV⟩,bO,bP,hw0,hw1,hw2,hd1,hd2,hw3,hd3⟩:=hI
     have el8:=hE ⟨8,.data⟩ (by simp) rfl
     have lH:=mh el8
     rw[lH]
     go_simp
     exact hK.out _ _ (Or.inl ⟨by simpa[more]using h16,fun m9=>if m9=9 then .pointer (some ⟨Bo,7,none⟩)else V m9,(by simp[lH]),⟨mO lO,mO lP,mO lY,mO lZ,mO ma,mO me,mO mf,mO mg,mO mh,fun _=>rfl,mO lQ,mO lR,mO lU,mO lV⟩,bO,bP,mO hw0,fun h9 h8=>hw1 (mP h9) (mP h8),fun h9 h8=>hw2 (mP h9) (mP h8),fun h9=>by have:=hd1 (mP h9);simp[more,this],fun h9=>by have:=hd2 (mP h9);simp[more,this],mO hw3,fun h9=>by have:=hd3 (mP h9);simp[more,this]⟩)
    ·intro L a' W' hI hLj hE K' hK
     rcases hI with⟨h16,hI⟩|⟨hall,_⟩
     case inr=>have h9:=hall 10 (by omega);rw[hLj]at h9;cases h9
     obtain⟨V,rfl,⟨lO,lP,lY,lZ,ma,me,mf,mg,mh,mi,lQ,lR,lU,lV⟩,bO,bP,hw0,hw1,hw2,hd1,hd2,hw3,hd3⟩:=hI
     have el9:=hE ⟨9,.data⟩ (by simp) rfl
     have lI:=mi el9
     have k0:W'.cell? ⟨Bo,7,none⟩=some (.bool b):=cA bO 7
     rw[lI]
     go_simp
     exact hK.out _ _ (Or.inl ⟨by simpa[more]using h16,fun m9=>if m9=10 then .bool b else V m9,(by simp[lI]),⟨mO lO,mO lP,mO lY,mO lZ,mO ma,mO me,mO mf,mO mg,mO mh,mO mi,fun _=>rfl,mO lR,mO lU,mO lV⟩,bO,bP,mO hw0,fun h9 h8=>hw1 (mP h9) (mP h8),fun h9 h8=>hw2 (mP h9) (mP h8),fun h9=>by have:=hd1 (mP h9);simp[more,this],fun h9=>by have:=hd2 (mP h9);simp[more,this],mO hw3,fun h9=>by have:=hd3 (mP h9);simp[more,this]⟩)
    ·intro L a' W' hI hLj hE K' hK
     rcases hI with⟨h16,hI⟩|⟨hall,_⟩
     case inr=>have h9:=hall 11 (by omega);rw[hLj]at h9;cases h9
     obtain⟨V,rfl,⟨lO,lP,lY,lZ,ma,me,mf,mg,mh,mi,lQ,lR,lU,lV⟩,bO,bP,hw0,hw1,hw2,hd1,hd2,hw3,hd3⟩:=hI
     have el5:=hE ⟨5,.data⟩ (by simp) rfl
     have lE:=me el5
     have el10:=hE ⟨10,.data⟩ (by simp) rfl
     have lq:=lQ el10
     rw[lE]
     rw[lq]
     obtain rfl:=hw0 hLj
     have h12:L 12=false:=by
      cases h9:L 12 with
      |false=>rfl
      |true=>have:=hd1 h9;rw[hLj]at this;cases this
     have h13:L 13=false:=by
      cases h9:L 13 with
      |false=>rfl
      |true=>have:=hd2 h9;rw[h12]at this;cases this
     go_simp
     (first|(gi_at_call 57)|(refine⟨trivial,?_⟩;gi_at_call 57)|(refine⟨trivial,fun _=>(by omega),?_⟩;gi_at_call 57))
     refine(callsIn_wide.2 (tell_is _ (⟨pky,pst,pen,an,asu,ale,amo,fn,fsu,fle,fmo,ptd,tm⟩:aD) b _ (ab HBx) htd Hpan)).mono ?_
     rintro e9 Wt ⟨rfl,hbt,hgt⟩
     (try gi_wp2_with fail)
     have bOt:=(hgt.block Bo (Array.getElem?_eq_some_iff.1 bO).1 (fun e9=>hneO (Option.some.inj e9))).trans bO
     have bPt:=(hgt.block (w.heap.size) (Array.getElem?_eq_some_iff.1 bP).1 (fun e9=>hneP (Option.some.inj e9))).trans bP
     exact hK.out _ _ (Or.inl ⟨by simpa[more]using h16,fun m9=>if m9=11 then .agg #[.int .i64 pky,.int .i64 pst,.int .i64 pen,.int .i64 ptd,.int .i64 pkd,.int .i64 pn,.int .i64 psu,.int .i64 ple,.int .i64 pmo]else V m9,(by simp[lE,lq]),⟨mO lO,mO lP,mO lY,mO lZ,mO ma,mO me,mO mf,mO mg,mO mh,mO mi,mO lQ,fun _=>rfl,mO lU,mO lV⟩,bOt,bPt,fun h9=>by simp[more]at h9,fun _ _=>ae ⟨hbt,hgt⟩,fun h9=>by simp[more,h12]at h9,fun h9=>by simp[more,h12]at h9,fun h9=>by simp[more,h13]at h9,fun h9=>by simp[more,h13]at h9,fun h9=>by have:=hd3 (mP h9);simp[more,this]⟩)
    ·intro L a' W' hI hLj hE K' hK
     rcases hI with⟨h16,hI⟩|⟨hall,_⟩
     case inr=>have h9:=hall 12 (by omega);rw[hLj]at h9;cases h9
     obtain⟨V,rfl,⟨lO,lP,lY,lZ,ma,me,mf,mg,mh,mi,lQ,lR,lU,lV⟩,bO,bP,hw0,hw1,hw2,hd1,hd2,hw3,hd3⟩:=hI
     have el11:=hE ⟨11,.data⟩ (by simp) rfl
     have lr:=lR el11
     rw[lr]
     have hT:=ab (hw1 el11 hLj)
     have h13:L 13=false:=by
      cases h9:L 13 with
      |false=>rfl
      |true=>have:=hd2 h9;rw[hLj]at this;cases this
     go_simp
     have bOt:=(Below.heap_alloc W' (.cells #[.int .i64 pky,.int .i64 pst,.int .i64 pen,.int .i64 ptd,.int .i64 pkd,.int .i64 pn,.int .i64 psu,.int .i64 ple,.int .i64 pmo] 44) Bo (Array.getElem?_eq_some_iff.1 bO).1).trans bO
     have bPt:=(Below.heap_alloc W' (.cells #[.int .i64 pky,.int .i64 pst,.int .i64 pen,.int .i64 ptd,.int .i64 pkd,.int .i64 pn,.int .i64 psu,.int .i64 ple,.int .i64 pmo] 44) (w.heap.size) (Array.getElem?_eq_some_iff.1 bP).1).trans bP
     exact hK.out _ _ (Or.inl ⟨by simpa[more]using h16,fun m9=>if m9=12 then .slice (some ⟨W'.heap.size,0,none⟩) 1 1 else V m9,(by simp[lr]),⟨mO lO,mO lP,mO lY,mO lZ,mO ma,mO me,mO mf,mO mg,mO mh,mO mi,mO lQ,mO lR,mO lU,mO lV⟩,bOt,bPt,fun h9=>by simp[more,el11]at h9,fun _ h8=>by simp[more]at h8,fun _ _=>ae ⟨W',hT,rfl,rfl⟩,fun h9=>by simp[more,el11],fun h9=>by simp[more,h13]at h9,fun h9=>by simp[more,h13]at h9,fun h9=>by have:=hd3 (mP h9);simp[more,this]⟩)
    ·intro L a' W' hI hLj hE K' hK
     rcases hI with⟨h16,hI⟩|⟨hall,_⟩
     case inr=>have h9:=hall 13 (by omega);rw[hLj]at h9;cases h9
     obtain⟨V,rfl,⟨lO,lP,lY,lZ,ma,me,mf,mg,mh,mi,lQ,lR,lU,lV⟩,bO,bP,hw0,hw1,hw2,hd1,hd2,hw3,hd3⟩:=hI
     have el4:=hE ⟨4,.data⟩ (by simp) rfl
     have lD:=ma el4
     have el12:=hE ⟨12,.data⟩ (by simp) rfl
     obtain⟨Wt,hT,rfl,hV12⟩:=ab (hw2 el12 hLj)
     have hpt:Wt.ownsRow B 44 9 pv qs.length (br qs):=own_gX (ab HPn) hT.2 (ai (ab HPn) (ab HBx) (by decide))
     have zt:=hT.2.size
     refine fW rfl _ _ 30 rfl B 44 i0 _ 9 72 Try.underlying30 hi hz0' hz1' hz2' rfl (by decide) pv qs.length (br qs) (show V 4=pv from lD) (World.ownsRow.alloc hpt _) ⟨Wt.heap.size,0,none⟩ 1 1 [.int .i64 pky,.int .i64 pst,.int .i64 pen,.int .i64 ptd,.int .i64 pkd,.int .i64 pn,.int .i64 psu,.int .i64 ple,.int .i64 pmo] (show V 12=_ from hV12) rfl (fD Wt _ _ _ _ _ _ _ _ _ _) (na) (by unfold maxLen;omega) (by omega) (by have h9:W.heap.size≤Wt.heap.size:=hT.2.size;have h8:=hB.size;show B≤(Wt.alloc _).heap.size;rw[World.size_alloc];omega) ?_
     intro v' w' hown' lK _
     have hn1:pv.ownBlock≠some Bo:=ai (World.ownsRow.alloc hpt (.cells #[.int .i64 pky,.int .i64 pst,.int .i64 pen,.int .i64 ptd,.int .i64 pkd,.int .i64 pn,.int .i64 psu,.int .i64 ple,.int .i64 pmo] 44)) bO (by decide)
     have hn2:pv.ownBlock≠some (w.heap.size):=ai (World.ownsRow.alloc hpt (.cells #[.int .i64 pky,.int .i64 pst,.int .i64 pen,.int .i64 ptd,.int .i64 pkd,.int .i64 pn,.int .i64 psu,.int .i64 ple,.int .i64 pmo] 44)) bP (by decide)
     have bOt:=(lK.block Bo (Array.getElem?_eq_some_iff.1 bO).1 (fun e9=>hn1 e9.symm)).trans bO
     have bPt:=(lK.block (w.heap.size) (Array.getElem?_eq_some_iff.1 bP).1 (fun e9=>hn2 e9.symm)).trans bP
     exact hK.out _ _ (Or.inl ⟨by simpa[more]using h16,fun m9=>if m9=13 then v' else V m9,rfl,⟨mO lO,mO lP,mO lY,mO lZ,mO ma,mO me,mO mf,mO mg,mO mh,mO mi,mO lQ,mO lR,mO lU,mO lV⟩,bOt,bPt,fun h9=>by simp[more,hd1 el12]at h9,fun _ h8=>by simp[more,el12]at h8,fun _ h8=>by simp[more]at h8,fun h9=>by simp[more,hd1 el12],fun h9=>by simp[more,el12],fun _=>ae ⟨Wt,hT,lK,hown'⟩,fun h9=>by have:=hd3 (mP h9);simp[more,this]⟩)
    ·intro L a' W' hI hLj hE K' hK
     rcases hI with⟨h16,hI⟩|⟨hall,_⟩
     case inr=>have h9:=hall 14 (by omega);rw[hLj]at h9;cases h9
     obtain⟨V,rfl,⟨lO,lP,lY,lZ,ma,me,mf,mg,mh,mi,lQ,lR,lU,lV⟩,bO,bP,hw0,hw1,hw2,hd1,hd2,hw3,hd3⟩:=hI
     have el0:=hE ⟨0,.data⟩ (by simp) rfl
     have lm:=lO el0
     rw[lm]
     go_simp
     exact hK.out _ _ (Or.inl ⟨by simpa[more]using h16,fun m9=>if m9=14 then .pointer (some ⟨Bo,0,none⟩)else V m9,(by simp[lm]),⟨mO lO,mO lP,mO lY,mO lZ,mO ma,mO me,mO mf,mO mg,mO mh,mO mi,mO lQ,mO lR,fun _=>rfl,mO lV⟩,bO,bP,mO hw0,fun h9 h8=>hw1 (mP h9) (mP h8),fun h9 h8=>hw2 (mP h9) (mP h8),fun h9=>by have:=hd1 (mP h9);simp[more,this],fun h9=>by have:=hd2 (mP h9);simp[more,this],mO hw3,fun h9=>by simp[more]⟩)
    ·intro L a' W' hI hLj hE K' hK
     rcases hI with⟨h16,hI⟩|⟨hall,_⟩
     case inr=>have h9:=hall 15 (by omega);rw[hLj]at h9;cases h9
     obtain⟨V,rfl,⟨lO,lP,lY,lZ,ma,me,mf,mg,mh,mi,lQ,lR,lU,lV⟩,bO,bP,hw0,hw1,hw2,hd1,hd2,hw3,hd3⟩:=hI
     have el14:=hE ⟨14,.data⟩ (by simp) rfl
     have ly:=lU el14
     rw[ly]
     go_simp
     exact hK.out _ _ (Or.inl ⟨by simpa[more]using h16,fun m9=>if m9=15 then .pointer (some ⟨Bo,12,none⟩)else V m9,(by simp[ly]),⟨mO lO,mO lP,mO lY,mO lZ,mO ma,mO me,mO mf,mO mg,mO mh,mO mi,mO lQ,mO lR,mO lU,fun _=>rfl⟩,bO,bP,mO hw0,fun h9 h8=>hw1 (mP h9) (mP h8),fun h9 h8=>hw2 (mP h9) (mP h8),fun h9=>by have:=hd1 (mP h9);simp[more,this],fun h9=>by have:=hd2 (mP h9);simp[more,this],mO hw3,fun h9=>by simp[more,el14]⟩)
    ·intro L a' W' hI hLj hE K' hK
     rcases hI with⟨h16,hI⟩|⟨hall,h16,_⟩
     case inr=>rw[hLj]at h16;cases h16
     obtain⟨V,rfl,⟨lO,lP,lY,lZ,ma,me,mf,mg,mh,mi,lQ,lR,lU,lV⟩,bO,bP,hw0,hw1,hw2,hd1,hd2,hw3,hd3⟩:=hI
     have el15:=hE ⟨15,.data⟩ (by simp) rfl
     have el13:=hE ⟨13,.data⟩ (by simp) rfl
     have hallL:∀j9,j9<16→L j9=true:=by
      have el14:=hd3 el15
      have el0:=hE ⟨0,.phase⟩ (by simp) rfl
      have el1:=hE ⟨1,.phase⟩ (by simp) rfl
      have el2:=hE ⟨2,.phase⟩ (by simp) rfl
      have el3:=hE ⟨3,.phase⟩ (by simp) rfl
      have el4:=hE ⟨4,.phase⟩ (by simp) rfl
      have el5:=hE ⟨5,.phase⟩ (by simp) rfl
      have el6:=hE ⟨6,.phase⟩ (by simp) rfl
      have el7:=hE ⟨7,.phase⟩ (by simp) rfl
      have el8:=hE ⟨8,.phase⟩ (by simp) rfl
      have el9:=hE ⟨9,.phase⟩ (by simp) rfl
      have el10:=hE ⟨10,.phase⟩ (by simp) rfl
      have el11:=hE ⟨11,.phase⟩ (by simp) rfl
      have el12:=hE ⟨12,.phase⟩ (by simp) rfl
      intro j9 hj9
      rcases(by omega:j9=0∨j9=1∨j9=2∨j9=3∨j9=4∨j9=5∨j9=6∨j9=7∨j9=8∨j9=9∨j9=10∨j9=11∨j9=12∨j9=13∨j9=14∨j9=15)with rfl|rfl|rfl|rfl|rfl|rfl|rfl|rfl|rfl|rfl|rfl|rfl|rfl|rfl|rfl|rfl<;>assumption
     have lz:=lV el15
     obtain⟨Wt,hT,lK,hown'⟩:=ab (hw3 el13)
     have hpt:Wt.ownsRow B 44 9 pv qs.length (br qs):=own_gX (ab HPn) hT.2 (ai (ab HPn) (ab HBx) (by decide))
     have k12:W'.cell? ⟨Bo,12,none⟩=some pv:=cA bO 12
     have f12:=cF bO 12
     rw[lz]
     obtain⟨v6,mf⟩:∃v6,V 13=v6:=⟨_,rfl⟩
     rw[mf]at hown' ⊢
     obtain⟨g6,c6,rfl⟩:=ownsRow_succ hown'
     go_simp
     refine hK.out _ _ ?_
     have hkp:fT W (W'.setCell ⟨Bo,12,none⟩ (.slice (some ⟨g6,0,none⟩) (qs.length+1) c6)):=(((fT.bel (aq (aq (Below.refl _ W)))).trans (fT.grown hT.2 (fun r9 e9=>⟨_,_,(by cases e9;exact ab HBx),by decide⟩))).trans ((fT.bel (ax Wt (.cells #[.int .i64 pky,.int .i64 pst,.int .i64 pen,.int .i64 ptd,.int .i64 pkd,.int .i64 pn,.int .i64 psu,.int .i64 ple,.int .i64 pmo] 44))).trans (fT.grown lK (fun r9 e9=>own_cellsP (World.ownsRow.alloc hpt _) r9 e9)))).trans (fT.set _ bO (by decide))
     have hbF:Below B w (W'.setCell ⟨Bo,12,none⟩ (.slice (some ⟨g6,0,none⟩) (qs.length+1) c6)):=by
      have q1:Below B w Wt:=(hB.drew.drew).grown hT.2 (by have:=hB.size;show B≤W.heap.size;omega) (fun k9 e9=>by cases e9;exact hge _ (ea x))
      have q2:Below B w (Wt.alloc (.cells #[.int .i64 pky,.int .i64 pst,.int .i64 pen,.int .i64 ptd,.int .i64 pkd,.int .i64 pn,.int .i64 psu,.int .i64 ple,.int .i64 pmo] 44)):=q1.alloc (by have:=q1.size;omega) _
      have q3:Below B w W':=q2.grown lK (by have:=q2.size;omega) (fun k9 e9=>aE (ab HPn) k9 e9)
      exact q3.setCell hBo _
     have hbox:∀e9 ∈ es,fR (W'.setCell ⟨Bo,12,none⟩ (.slice (some ⟨g6,0,none⟩) (qs.length+1) c6)) e9.1 (lh m b (pre++[x]) e9):=by
      intro e9 he9
      by_cases hg9:e9.1=(am x).1
      ·have hee:e9=am x:=nd_inj hnd he9 (ea x) hg9
       subst hee
       rw[gBx_hit (ab Htel)]
       have b9:=hT.1
       rw[ab Hy]at b9
       have b8:fR W' (am x).1 (ce (am x).2):=(lK.block _ (by have:=b9.lt;simp;omega) (fun e7=>ai (World.ownsRow.alloc hpt (.cells #[.int .i64 pky,.int .i64 pst,.int .i64 pen,.int .i64 ptd,.int .i64 pkd,.int .i64 pn,.int .i64 psu,.int .i64 ple,.int .i64 pmo] 44)) ((Below.heap_alloc _ _ _ b9.lt).trans b9) (by decide) e7.symm)).trans ((Below.heap_alloc _ _ _ b9.lt).trans b9)
       exact(Below.heap_setCell _ _ _ _ (fun e7=>by have b7:=b8;unfold fR at b7;rw[show(am x).1=Bo from e7,bO]at b7;simp at b7)).trans b8
      ·rw[gBx_miss hg9]
       have b0:=ab HBox e9 he9
       have b1:fR Wt e9.1 (lh m b pre e9):=(hT.2.block _ b0.lt (fun e7=>hg9 (Option.some.inj e7))).trans b0
       have b8:fR W' e9.1 (lh m b pre e9):=(lK.block _ (by have:=b1.lt;simp;omega) (fun e7=>ai (World.ownsRow.alloc hpt (.cells #[.int .i64 pky,.int .i64 pst,.int .i64 pen,.int .i64 ptd,.int .i64 pkd,.int .i64 pn,.int .i64 psu,.int .i64 ple,.int .i64 pmo] 44)) ((Below.heap_alloc _ _ _ b1.lt).trans b1) (by decide) e7.symm)).trans ((Below.heap_alloc _ _ _ b1.lt).trans b1)
       exact(Below.heap_setCell _ _ _ _ (fun e7=>by have b7:=b8;unfold fR at b7;rw[show e9.1=Bo from e7,bO]at b7;simp at b7)).trans b8
     refine Or.inr ⟨fun j9 hj9=>by have:=hallL j9 hj9;simp[more,this],by simp[more],hkp.from _,hkp.kpo,⟨.slice (some ⟨g6,0,none⟩) (qs.length+1) c6,Joins.block_setCell bO _,?_,hbox,(Below.heap_setCell _ _ _ _ (fun e7=>hnPO e7.symm)).trans bP,hbF,hK0.trans hkp,by rw[List.length_append];simp;omega⟩⟩
     rw[gS_hit (ab Htel),←List.append_assoc,ab Hqs]
     have h9:=al (u:= .slice (some ⟨g6,0,none⟩) (qs.length+1) c6) (p:=⟨Bo,12,none⟩) hown' (ai hown' bO (by decide))
     have h8:=gi (ys:=qs) (x:=⟨pky,pst,pen,ptd,pkd,pn,psu,ple,pmo⟩) h9
     rw[show(⟨pky,pst,pen,ptd,pkd,pn,psu,ple,pmo⟩:cN)=dB b (am x).2 from by rw[←ab Hy];exact(ab Hpan).symm]at h8
     exact h8
   intro L a' W' hI hall
   rcases hI with⟨h16,_⟩|⟨_,_,hF⟩
   ·rw[hall 16 (by decide)]at h16
    cases h16
   gi_wp2
   exact hF
 case done=>
  rintro D ys W hD hys ⟨pv,bO,hPn,hbox,bP,hB,hK0,hpn⟩ hK
  have hyE:=inO hrise hok hys
  obtain⟨ga1,ga2⟩:=gS_all m b hnd
  rw[hyE,ga1]at hPn
  have hKD:D≠Bo:=by rintro rfl;rw[bO]at hK;cases hK
  gi_wp2
  refine⟨D,_,rfl,run_takeDeferred hK,.tuple #[],results_none rfl _ _ _,rfl,pv,(World.putObj_heap_other (fun e9=>hKD e9.symm)).trans bO,?_,ownsRow_putObj hPn _ hK rfl,hB.trans (belowK_b (w:=w) hBw W D _ _ (by simp at hD;omega) hK rfl rfl),?_⟩
  ·have hkm:cD (W.putObj D (.deferred none)) mb nn (fun q=>(dJ (gQ m es) q).map Value.pointer):=by
    have h9:=hR.map.kp (hK0.kpo.1)
    have h8:dJ (gQ m es)=dJ es:=mapE_same ce plO_told (fun e=>bU m e.2) es
    rw[h8]
    exact h9.kp (KeepsWalks.putObj _ hK rfl)
   refine⟨hkm,?_,?_,?_⟩
   ·intro e9 he9
    unfold gQ at he9
    obtain⟨e8,he8,rfl⟩:=List.mem_map.1 he9
    have b8:=hbox e8 he8
    unfold lh at b8
    rw[hyE]at b8
    have b9:fR W e8.1 (if bU m e8.2=true then ce e8.2 else e8.2):=by
     cases ht:bU m e8.2 with
     |true=>rw[if_pos ((ga2 e8 he8).2 ht)]at b8;simpa using b8
     |false=>rw[if_neg (fun h9=>by rw[(ga2 e8 he8).1 h9]at ht;cases ht)]at b8;simpa using b8
    exact(World.putObj_heap_other (fun e9=>by have b7:=b9;unfold fR at b7;rw[show e8.1=D from e9,hK]at b7;cases b7)).trans b9
   ·intro e9 he9
    unfold gQ at he9
    obtain⟨e8,he8,rfl⟩:=List.mem_map.1 he9
    exact hge e8 he8
   ·have h9:(gQ m es).map (fun e=>e.1)=es.map (fun e=>e.1):=by unfold gQ;rw[List.map_map];rfl
    rw[h9]
    exact hnd
  ·refine⟨by have:=hK0.1;simpa using this,fun k9 o hk ho=>?_⟩
   have hlt:=(Array.getElem?_eq_some_iff.1 hk).1
   exact(World.putObj_heap_other (by simp at hD;omega)).trans (hK0.2 k9 o hk ho)
 case stop=>
  rintro D c pre W _ _ hx _
  exact hx.elim
end Go.Proofs.Ytdmhihcipkhecaa
