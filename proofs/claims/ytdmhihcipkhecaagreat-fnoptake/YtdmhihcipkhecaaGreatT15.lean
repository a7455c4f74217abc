/- Laid together: what the claim needs of the texts that were built one by one. -/
import Derived.Test.YtdmhihcipkhecaaGreatT5
import Derived.Test.YtdmhihcipkhecaaGreatT14
import Derived.Test.YtdmhihcipkhecaaGreatT9
import Derived.Test.YtdmhihcipkhecaaGreatT0
set_option linter.unusedVariables false
namespace Go.Proofs.YtdmhihcipkhecaaGreat
open Go.ChangeShapes Go.WideShapes Go.ChangeAt Go.RowKit Go.Shelf Go.Maps
set_option linter.unusedSimpArgs false
attribute [local go_sem] Oper.semAt_some
theorem dl{W W':World}{g B size n:Nat}{e:TypeId}{v:Value}{ys:List Value}(h:W.ownsRow B e size v n ys)(hg:W.grownBy W' (some g))(hne:v.ownBlock≠some g):W'.ownsRow B e size v n ys:=by
 rcases h with⟨hl,h|⟨q,cap,cur,rfl,hB,hblk,r⟩⟩
 ·exact⟨hl,Or.inl h⟩
 ·exact⟨hl,Or.inr ⟨q,cap,cur,rfl,hB,(hg.block q (Array.getElem?_eq_some_iff.1 hblk).1 (fun e9=>hne (by rw[←e9];rfl))).trans hblk,r⟩⟩
theorem own_cellsP{W:World}{B n:Nat}{v:Value}{ys:List Value}(h:W.ownsRow B 52 9 v n ys)(r:Nat)(e:v.ownBlock=some r):∃cs ty,W.heap[r]? =some (.cells cs ty (0,0))∧ks ty=true:=by
 rcases h.2 with⟨rfl,_⟩|⟨g,cap,cur,rfl,_,hgb,_⟩
 ·cases e
 ·simp[Value.ownBlock]at e
  subst e
  exact⟨_,_,hgb,by decide⟩
/-- What has been told so far: whose boxes, and which panes. -/
def fm(m:Int)(pc:Bool)(q:List Nat×List cY)(e:bz):List Nat×List cY:=if cy m e.2=true∧¬ e.1 ∈ q.1 then(q.1++[e.1],q.2++[dJ pc e.2])else q
def jK(m:Int)(pc:Bool)(l:List bz):List Nat×List cY:=l.foldl (fm m pc) ([],[])
def lH(m:Int)(pc:Bool){es:List bz}(pre:List (eB es))(e:bz):aC:=if e.1 ∈ (jK m pc (pre.map ak)).1 then cT e.2 else e.2
theorem je(m:Int)(pc:Bool)(l:List bz)(e:bz):jK m pc (l++[e])=fm m pc (jK m pc l) e:=by unfold jK;rw[List.foldl_append];rfl
theorem gS_hit{m:Int}{pc:Bool}{es:List bz}{pre:List (eB es)}{x:eB es}(h:cy m (ak x).2=true∧¬ (ak x).1 ∈ (jK m pc (pre.map ak)).1):(jK m pc ((pre++[x]).map ak)).2=(jK m pc (pre.map ak)).2++[dJ pc (ak x).2]:=by
 rw[List.map_append]
 simp only[List.map_cons,List.map_nil]
 rw[je]
 unfold fm
 rw[if_pos h]
theorem gBx_hit{m:Int}{pc:Bool}{es:List bz}{pre:List (eB es)}{x:eB es}(h:cy m (ak x).2=true∧¬ (ak x).1 ∈ (jK m pc (pre.map ak)).1):lH m pc (pre++[x]) (ak x)=cT (ak x).2:=by
 unfold lH
 rw[List.map_append]
 simp only[List.map_cons,List.map_nil]
 rw[je]
 unfold fm
 rw[if_pos h]
 simp
theorem gBx_miss{m:Int}{pc:Bool}{es:List bz}{pre:List (eB es)}{x:eB es}{e:bz}(h:¬ e.1=(ak x).1):lH m pc (pre++[x]) e=lH m pc pre e:=by
 unfold lH
 rw[List.map_append]
 simp only[List.map_cons,List.map_nil]
 rw[je]
 unfold fm
 split
 ·simp[h]
 ·rfl
theorem gS_none{m:Int}{pc:Bool}{es:List bz}{pre:List (eB es)}{x:eB es}(h:cy m (lH m pc pre (ak x))=false):jK m pc ((pre++[x]).map ak)=jK m pc (pre.map ak):=by
 rw[List.map_append]
 simp only[List.map_cons,List.map_nil]
 rw[je]
 unfold fm
 refine if_neg (fun h9=>?_)
 unfold lH at h
 rw[if_neg h9.2,h9.1]at h
 cases h
theorem gBx_tel{m:Int}{pc:Bool}{es:List bz}{pre:List (eB es)}{x:eB es}(h:cy m (lH m pc pre (ak x))=true):(cy m (ak x).2=true∧¬ (ak x).1 ∈ (jK m pc (pre.map ak)).1)∧lH m pc pre (ak x)=(ak x).2:=by
 unfold lH at h ⊢
 split at h
 ·rw[tel_told]at h
  cases h
 ·rename_i h9
  exact⟨⟨h,h9⟩,if_neg h9⟩
theorem nd_inj{es:List bz}(h:(es.map (fun e=>e.1)).Nodup){a b:bz}(ha:a ∈ es)(hb:b ∈ es)(e:a.1=b.1):a=b:=by
 induction es with
 |nil=>cases ha
 |cons x t ih=>
  rw[List.map_cons,List.nodup_cons]at h
  rcases List.mem_cons.1 ha with rfl|h1<;>rcases List.mem_cons.1 hb with rfl|h2
  ·rfl
  ·exact absurd (List.mem_map.2 ⟨b,h2,e.symm⟩) h.1
  ·exact absurd (List.mem_map.2 ⟨a,h1,e⟩) h.1
  ·exact ih h.2 h1 h2
theorem gS_go(m:Int)(pc:Bool):∀(l:List bz) (q:List Nat×List cY),(l.map (fun e=>e.1)).Nodup→(∀e ∈ l,¬ e.1 ∈ q.1)→l.foldl (fm m pc) q=(q.1++(l.filter (fun e=>cy m e.2)).map (fun e=>e.1),q.2++(l.filter (fun e=>cy m e.2)).map (fun e=>dJ pc e.2))
 | [],q,_,_=>by simp
 |e :: t,q,hn,hd=>by
  rw[List.map_cons,List.nodup_cons]at hn
  rw[List.foldl_cons]
  cases ht:cy m e.2 with
  |true=>
   have e1:fm m pc q e=(q.1++[e.1],q.2++[dJ pc e.2]):=if_pos ⟨ht,hd e (by simp)⟩
   rw[e1,gS_go m pc t _ hn.2 (fun x hx h9=>by
    rcases List.mem_append.1 h9 with h8|h8
    ·exact hd x (List.mem_cons_of_mem _ hx) h8
    ·exact hn.1 (List.mem_map.2 ⟨x,hx,by simpa using h8⟩))]
   simp[List.filter_cons,ht]
  |false=>
   have e1:fm m pc q e=q:=if_neg (fun h9=>by rw[ht]at h9;cases h9.1)
   rw[e1,gS_go m pc t _ hn.2 (fun x hx=>hd x (List.mem_cons_of_mem _ hx))]
   simp[List.filter_cons,ht]
theorem gS_all(m:Int)(pc:Bool){es:List bz}(hn:(es.map (fun e=>e.1)).Nodup):(jK m pc es).2=(es.filter (fun e=>cy m e.2)).map (fun e=>dJ pc e.2)∧∀e ∈ es,(e.1 ∈ (jK m pc es).1↔cy m e.2=true):=by
 have h:=gS_go m pc es ([],[]) hn (by simp)
 unfold jK
 rw[h]
 refine⟨by simp,fun e he=>?_⟩
 simp only[List.nil_append]
 constructor
 ·intro h9
  obtain⟨x,hx,hxe⟩:=List.mem_map.1 h9
  have hx2:=List.mem_filter.1 hx
  rw[←nd_inj hn hx2.1 he hxe]
  simpa using hx2.2
 ·intro h9
  exact List.mem_map.2 ⟨e,List.mem_filter.2 ⟨he,by simpa using h9⟩,rfl⟩
theorem gS_len(m:Int)(pc:Bool)(l:List bz):(jK m pc l).2.length≤l.length:=by
 suffices h:∀(l:List bz) (q:List Nat×List cY),(l.foldl (fm m pc) q).2.length≤q.2.length+l.length by
  have:=h l ([],[]);simpa[jK]using this
 intro l
 induction l with
 |nil=>intro q;simp
 |cons e t ih=>
  intro q
  have h1:=ih (fm m pc q e)
  have h2:(fm m pc q e).2.length≤q.2.length+1:=by unfold fm;split<;>simp
  simp only[List.foldl_cons,List.length_cons]
  omega
/-- The rows behind a gathering. -/
def gEs(m:Int)(es:List bz):List bz:=es.map (fun e=>(e.1,if cy m e.2=true then cT e.2 else e.2))
theorem tell_is(g:Nat)(x:aC)(pc:Bool)(w:World)(h:ew w g x)(htd:0≤x.td∧x.td≤100000){ky st en td pkd pn psu ple pmo:Int}(hp:Hid (dJ pc x=⟨ky,st,en,td,pkd,pn,psu,ple,pmo⟩)):Calls Tryz.prog 77 #[.pointer (some ⟨g,0,none⟩),.bool pc] w fun e w'=>e= .returned (.agg #[.int .i64 ky,.int .i64 st,.int .i64 en,.int .i64 td,.int .i64 pkd,.int .i64 pn,.int .i64 psu,.int .i64 ple,.int .i64 pmo])∧ew w' g (cT x)∧w.grownBy w' (some g):=by
 have h9:=tell_any g x pc w h htd
 rw[ab hp]at h9
 exact h9
def actG(w:World)(Bo mb:Nat){es:List bz}(x:eB es):Act:= {tmps:=#[.pointer (some ⟨Bo,0,none⟩),.pointer (some ⟨w.heap.size,0,none⟩),undef,.pointer (some ⟨(ak x).1,0,none⟩),.pointer (some ⟨Bo,0,none⟩),.pointer (some ⟨Bo,0,none⟩),.pointer (some ⟨Bo,11,none⟩),.map (some mb),(.func (.func 83) #[] #[.pointer (some ⟨w.heap.size+1,0,none⟩)]),.agg #[.int .i64 x.1.1.1,.int .i64 x.1.1.2.1,.int .i64 x.1.1.2.2],.pointer (some ⟨(ak x).1,0,none⟩),undef,undef,undef,undef,undef,undef,undef,undef,undef,undef,undef,undef,undef,undef,undef,undef,undef,undef,undef,undef,undef,undef,undef,undef,undef,undef,undef,undef,undef,undef,undef,undef,undef,undef],defers:=[]}
/-- What stands between two rounds. -/
def GaI(w:World)(B Bo mb nn:Nat)(s t k z q l e:Int)(b:Bool)(v r m:Int)(ps:List cY)(lv:Value){es:List bz}(pre:List (eB es))(W:World):Prop:=∃pv,W.heap[Bo]? =some (.cells #[.int .i64 s,.int .i64 t,.int .i64 k,.int .i64 z,.int .i64 q,.int .i64 l,.int .i64 e,.bool b,.int .i64 v,.int .i64 r,.int .i64 m,.map (some (mb)),pv,lv] 75 (0,0))∧aR W B pv (ps++(jK m b (pre.map ak)).2)∧(∀e ∈ es,ew W e.1 (lH m b pre e))∧W.heap[w.heap.size]? =some (.cells #[.pointer (some ⟨Bo,0,none⟩)] 69 (0,0))∧Below B w W∧gi w W∧pre.length≤nn
theorem gaI_own(w:World)(B Bo mb nn:Nat)(s t k z q l e:Int)(b:Bool)(v r m:Int)(ps:List cY)(lv:Value){es:List bz}(B':Nat)(hB:w.heap.size≤B')(hBB:B≤w.heap.size):OwnFrom B' (GaI w B Bo mb nn s t k z q l e b v r m ps lv (es:=es)):=fun s9 W W' row h hg hr=>by
 obtain⟨pv,h1,h2,h3,h4,h5,h6,h7⟩:=h
 have hr':=fun r e=>(hr r e).2
 refine⟨pv,dH h1 hg hr',aJ h2 hg hr',fun e9 he9=>dH (h3 e9 he9) hg hr',dH h4 hg hr',h5.grown hg (by have:=h5.size;omega) (fun k9 e9=>by have:=(hr k9 e9).1;omega),⟨Nat.le_trans h6.1 hg.size,fun k9 o hk ho=>?_⟩,h7⟩
 have hlt:=(Array.getElem?_eq_some_iff.1 hk).1
 exact(hg.block k9 (Nat.lt_of_lt_of_le hlt h6.1) (fun e9=>by have:=(hr k9 e9.symm).1;omega)).trans (h6.2 k9 o hk ho)
set_option maxRecDepth 100000 in
set_option maxHeartbeats 16000000 in
theorem gather_any(u:FrameMode)(Bo B mb nn:Nat)(s t k z q l e:Int)(b:Bool)(v r m:Int)(pv0 lv:Value)(ps:List cY)(es:List bz)(w:World)(hO:w.heap[Bo]? =some (.cells #[.int .i64 s,.int .i64 t,.int .i64 k,.int .i64 z,.int .i64 q,.int .i64 l,.int .i64 e,.bool b,.int .i64 v,.int .i64 r,.int .i64 m,.map (some (mb)),pv0,lv] 75 (0,0)))(hBo:B≤Bo)(hBw:B≤w.heap.size)(hR:bD w B mb nn es)(hP:aR w B pv0 ps)(hrise:eb es)(hok:∀e ∈ es,gx (aU e.2))(htds:∀e ∈ es,0≤e.2.td∧e.2.td≤100000)(hnn:nn≤1000)(hps:ps.length≤1000)(hesl:es.length≤nn):
  CallsDIn Fence.wide 25 Tryz.prog 59 #[.pointer (some ⟨Bo,0,none⟩)] u w fun e' u' w'=>u'=u∧(e'= .returned (.tuple #[])∧∃pv,w'.heap[Bo]? =some (.cells #[.int .i64 s,.int .i64 t,.int .i64 k,.int .i64 z,.int .i64 q,.int .i64 l,.int .i64 e,.bool b,.int .i64 v,.int .i64 r,.int .i64 m,.map (some (mb)),pv,lv] 75 (0,0))∧bD w' B mb nn (gEs m es)∧aR w' B pv (ps++(es.filter (fun e=>cy m e.2)).map (fun e=>dJ b e.2))∧Below B w w'∧gi w w'):=by
 obtain⟨i0,hi,hz0',hz1',hz2'⟩:=info_parts Tryz.infoPn
 have zBo:Bo<w.heap.size:=(Array.getElem?_eq_some_iff.1 hO).1
 have c11:w.cell? ⟨Bo,11,none⟩=some (.map (some mb)):=cA hO 11
 refine gn Tryz.func59 rfl trivial ?_ rfl
 simp only[Tryz.ntmps59,List.size_toArray,List.length_cons,List.length_nil,Nat.reduceAdd,Nat.reduceSub,Array.replicate_succ,Array.replicate_zero,List.push_toArray,List.append_toArray,List.nil_append,List.cons_append]
 have hB0:Below w.heap.size w ((w.alloc (.cells #[.pointer (some ⟨Bo,0,none⟩)] 69)).alloc (.cells #[.map (some mb)] 73)):=ag (aq _ _) _
 have hm:((w.alloc (.cells #[.pointer (some ⟨Bo,0,none⟩)] 69)).alloc (.cells #[.map (some mb)] 73)).heap[w.heap.size+1]? =some (.cells #[.map (some mb)] 73 (0,0)):=by
  have:=World.alloc_heap_new (w.alloc (.cells #[.pointer (some ⟨Bo,0,none⟩)] 69)) (.cells #[.map (some mb)] 73)
  rw[World.size_alloc]at this
  exact this
 have hP0:((w.alloc (.cells #[.pointer (some ⟨Bo,0,none⟩)] 69)).alloc (.cells #[.map (some mb)] 73)).heap[w.heap.size]? =some (.cells #[.pointer (some ⟨Bo,0,none⟩)] 69 (0,0)):=(Below.heap_alloc _ _ _ (by simp)).trans (World.alloc_heap_new w _)
 have hown:b6 ((w.alloc (.cells #[.pointer (some ⟨Bo,0,none⟩)] 69)).alloc (.cells #[.map (some mb)] 73)) mb nn (fun q=>(gj es q).map evO):=by rw[lg];exact hR.map.bel hB0
 have hI0:GaI w B Bo mb nn s t k z q l e b v r m ps lv (es:=es) [] ((w.alloc (.cells #[.pointer (some ⟨Bo,0,none⟩)] 69)).alloc (.cells #[.map (some mb)] 73)):=by
  refine⟨pv0,(hB0.block Bo zBo).trans hO,?_,?_,hP0,hB0.mono hBw,gi.bel hB0,Nat.zero_le _⟩
  ·have h9:ps++(jK m b (([]:List (eB es)).map ak)).2=ps:=by simp[jK]
   rw[h9]
   exact World.ownsRow.alloc (World.ownsRow.alloc hP _) _
  ·intro e9 he9
   have h9:lH m b ([]:List (eB es)) e9=e9.2:=by simp[lH,jK]
   rw[h9]
   exact(hR.box e9 he9).bel hB0 (hR.box e9 he9).lt
 have hge:=hR.ge
 have hnd:=hR.nd
 gi_wp2_with (refine⟨trivial,?_⟩;gi_at_call 61;refine(callsIn_wide.2 (fL mb _)).mono ?_;rintro e' w1 ⟨rfl,hw1⟩;subst hw1)
 clear c11
 refine wpIn_rangeFunc_ownH rfl (by omega) (gf:=83) (lb:=#[.pointer (some ⟨w.heap.size+1,0,none⟩)]) (by simp[go_sem,Act.eval]) trivial (enters_of Tryz.func83 (oc) rfl)
  (fv _ (by omega) (w.heap.size+1) mb nn evO (gj es) none zeroEv (PXs es) (fun q _ a ha=>lh ha) _ (by omega) hm hown) gB.trans gB.put (Below.refl _ _) (fun _=>rfl)
  (GaI w B Bo mb nn s t k z q l e b v r m ps lv (es:=es)) (fun _ _ _=>False) (gaI_own w B Bo mb nn s t k z q l e b v r m ps lv _ hB0.size hBw) (fun _ _ _ _ _ hs _ _=>hs)
  hI0 (fun x a' W=>a'=actG w Bo mb x) (fun x a' _ W W' row hs _ _=>hs) ?assign ?body ?done ?stop
 case assign=>
  rintro lb0 pre x W K hI hK
  have HK:=hK (actG w Bo mb x) W (KeepsFrom.refl _ _) (gB.rfl' W) hI rfl
  clear hK
  have hev:=jl x
  unfold actG at HK
  rw[hev]
  gi_wp2
  exact HK
 case body=>
  rintro lb0 pre x a' W hlb _ ⟨pv,bO,hPn,hbox,bP,hB,hK0,hpn⟩ rfl hpl
  have hbx:=hbox _ (dG x)
  have htd0:=htds _ (dG x)
  have hnPO:Bo≠w.heap.size:=by omega
  have cO10:W.cell? ⟨Bo,10,none⟩=some (.int .i64 m):=cA bO 10
  have cP0:W.cell? ⟨w.heap.size,0,none⟩=some (.pointer (some ⟨Bo,0,none⟩)):=cA bP 0
  obtain⟨y,hy⟩:∃y,lH m b pre (ak x)=y:=⟨_,rfl⟩
  rw[hy]at hbx
  have HBx:Hid (ew W.drew.drew (ak x).1 y):=ae hbx
  have c2:W.cell? ⟨(ak x).1,2,none⟩=some (.int .i64 y.en):=cA hbx 2
  have c7:W.cell? ⟨(ak x).1,7,none⟩=some (.int .i64 y.fn):=cA hbx 7
  have hneO:Bo≠(ak x).1:=fun e7=>by have b7:=hbx;unfold ew at b7;rw[←e7,bO]at b7;simp at b7
  have hneP:w.heap.size≠(ak x).1:=fun e7=>by have b7:=hbx;unfold ew at b7;rw[←e7,bP]at b7;simp at b7
  have HBox:=ae hbox
  have Hyy:=ae hy
  cases htel:cy m y with
  |false=>
   have hgn:jK m b ((pre++[x]).map ak)=jK m b (pre.map ak):=gS_none (by rw[hy];exact htel)
   have hI1:GaI w B Bo mb nn s t k z q l e b v r m ps lv (es:=es) (pre++[x]) W.drew:=by
    refine⟨pv,bO,by rw[hgn];exact hPn,fun e9 he9=>?_,bP,hB.drew,hK0,by rw[List.length_append];simp;omega⟩
    unfold lH
    rw[hgn]
    exact hbox e9 he9
   have HI1:=ae hI1
   clear hI1 hgn hm hP0 hown hI0 hbox hPn hy hbx
   obtain⟨ky,st,en,an,asu,ale,amo,fn,fsu,fle,fmo,td,tm⟩:=y
   dsimp only at c2 c7
   simp only[cy]at htel
   unfold actG
   by_cases hen:en≤m
   ·have hfn:¬ 0<fn:=by
     intro h9
     simp[hen,h9]at htel
    have d1:decide (en≤m)=true:=decide_eq_true hen
    have d2:decide (0<fn)=false:=decide_eq_false hfn
    clear htel hen hfn
    gi_wp2
    refine bM (oc) (oc) (fun L a' W'=>∃V:Nat→Value,a'=({tmps:=#[.pointer (some ⟨Bo,0,none⟩),.pointer (some ⟨w.heap.size,0,none⟩),undef,.pointer (some ⟨(ak x).1,0,none⟩),.pointer (some ⟨Bo,0,none⟩),.pointer (some ⟨Bo,0,none⟩),.pointer (some ⟨Bo,11,none⟩),.map (some mb),(.func (.func 83) #[] #[.pointer (some ⟨w.heap.size+1,0,none⟩)]),.agg #[.int .i64 x.1.1.1,.int .i64 x.1.1.2.1,.int .i64 x.1.1.2.2],.pointer (some ⟨(ak x).1,0,none⟩),V 0,V 1,V 2,V 3,V 4,V 5,V 6,V 7,V 8,V 9,V 10,V 11,V 12,V 13,V 14,V 15,V 16,V 17,undef,undef,undef,undef,undef,undef,undef,undef,undef,undef,undef,undef,undef,undef,undef,undef],defers:=[]}:Act)∧((L 0=true→V 0= .pointer (some ⟨Bo,0,none⟩))∧(L 1=true→V 1= .pointer (some ⟨Bo,0,none⟩))∧(L 2=true→V 2= .pointer (some ⟨Bo,10,none⟩))∧(L 3=true→V 3= .int .i64 m)∧(L 4=true→V 4= .pointer (some ⟨(ak x).1,0,none⟩))∧(L 5=true→V 5= .pointer (some ⟨(ak x).1,0,none⟩))∧(L 6=true→V 6= .pointer (some ⟨(ak x).1,1,none⟩))∧(L 7=true→V 7= .pointer (some ⟨(ak x).1,2,none⟩))∧(L 8=true→V 8= .int .i64 en)∧(L 9=true→V 9= .bool true)∧(L 10=true→V 10= .bool true)∧(L 11=true→V 11= .pointer (some ⟨(ak x).1,0,none⟩))∧(L 12=true→V 12= .pointer (some ⟨(ak x).1,0,none⟩))∧(L 13=true→V 13= .pointer (some ⟨(ak x).1,7,none⟩))∧(L 14=true→V 14= .pointer (some ⟨(ak x).1,7,none⟩))∧(L 15=true→V 15= .int .i64 fn)∧(L 16=true→V 16= .bool false)∧(L 17=true→V 17= .bool false))∧W'=W.drew) ?_ ?_ ?_
    ·exact⟨fun _=>undef,rfl,⟨(fun h9=>(by cases h9)),(fun h9=>(by cases h9)),(fun h9=>(by cases h9)),(fun h9=>(by cases h9)),(fun h9=>(by cases h9)),(fun h9=>(by cases h9)),(fun h9=>(by cases h9)),(fun h9=>(by cases h9)),(fun h9=>(by cases h9)),(fun h9=>(by cases h9)),(fun h9=>(by cases h9)),(fun h9=>(by cases h9)),(fun h9=>(by cases h9)),(fun h9=>(by cases h9)),(fun h9=>(by cases h9)),(fun h9=>(by cases h9)),(fun h9=>(by cases h9)),(fun h9=>(by cases h9))⟩,rfl⟩
    ·refine⟨?_,?_,?_,?_,?_,?_,?_,?_,?_,?_,?_,?_,?_,?_,?_,?_,?_,?_,trivial⟩
     ·intro L a' W' hI hLj hE K' hK
      obtain⟨V,rfl,⟨mq,mr,mD,mE,mF,mH,mK,mQ,mT,mU,mt,mu,mw,mx,my,mA,mB,mC⟩,rfl⟩:=hI
      go_simp
      exact hK.out _ _ ⟨fun m9=>if m9=0 then .pointer (some ⟨Bo,0,none⟩)else V m9,rfl,⟨fun _=>rfl,mO mr,mO mD,mO mE,mO mF,mO mH,mO mK,mO mQ,mO mT,mO mU,mO mt,mO mu,mO mw,mO mx,mO my,mO mA,mO mB,mO mC⟩,rfl⟩
     ·intro L a' W' hI hLj hE K' hK
      obtain⟨V,rfl,⟨mq,mr,mD,mE,mF,mH,mK,mQ,mT,mU,mt,mu,mw,mx,my,mA,mB,mC⟩,rfl⟩:=hI
      have lQ:=mq (hE ⟨0,.data⟩ (by simp) rfl)
      rw[lQ]
      go_simp
      exact hK.out _ _ ⟨fun m9=>if m9=1 then .pointer (some ⟨Bo,0,none⟩)else V m9,(by simp[Act.put,lQ]),⟨mO mq,fun _=>rfl,mO mD,mO mE,mO mF,mO mH,mO mK,mO mQ,mO mT,mO mU,mO mt,mO mu,mO mw,mO mx,mO my,mO mA,mO mB,mO mC⟩,rfl⟩
     ·intro L a' W' hI hLj hE K' hK
      obtain⟨V,rfl,⟨mq,mr,mD,mE,mF,mH,mK,mQ,mT,mU,mt,mu,mw,mx,my,mA,mB,mC⟩,rfl⟩:=hI
      have lR:=mr (hE ⟨1,.data⟩ (by simp) rfl)
      rw[lR]
      go_simp
      exact hK.out _ _ ⟨fun m9=>if m9=2 then .pointer (some ⟨Bo,10,none⟩)else V m9,(by simp[Act.put,lR]),⟨mO mq,mO mr,fun _=>rfl,mO mE,mO mF,mO mH,mO mK,mO mQ,mO mT,mO mU,mO mt,mO mu,mO mw,mO mx,mO my,mO mA,mO mB,mO mC⟩,rfl⟩
     ·intro L a' W' hI hLj hE K' hK
      obtain⟨V,rfl,⟨mq,mr,mD,mE,mF,mH,mK,mQ,mT,mU,mt,mu,mw,mx,my,mA,mB,mC⟩,rfl⟩:=hI
      have lZ:=mD (hE ⟨2,.data⟩ (by simp) rfl)
      rw[lZ]
      go_simp
      exact hK.out _ _ ⟨fun m9=>if m9=3 then .int .i64 m else V m9,(by simp[Act.put,lZ]),⟨mO mq,mO mr,mO mD,fun _=>rfl,mO mF,mO mH,mO mK,mO mQ,mO mT,mO mU,mO mt,mO mu,mO mw,mO mx,mO my,mO mA,mO mB,mO mC⟩,rfl⟩
     ·intro L a' W' hI hLj hE K' hK
      obtain⟨V,rfl,⟨mq,mr,mD,mE,mF,mH,mK,mQ,mT,mU,mt,mu,mw,mx,my,mA,mB,mC⟩,rfl⟩:=hI
      go_simp
      exact hK.out _ _ ⟨fun m9=>if m9=4 then .pointer (some ⟨(ak x).1,0,none⟩)else V m9,rfl,⟨mO mq,mO mr,mO mD,mO mE,fun _=>rfl,mO mH,mO mK,mO mQ,mO mT,mO mU,mO mt,mO mu,mO mw,mO mx,mO my,mO mA,mO mB,mO mC⟩,rfl⟩
     ·intro L a' W' hI hLj hE K' hK
      obtain⟨V,rfl,⟨mq,mr,mD,mE,mF,mH,mK,mQ,mT,mU,mt,mu,mw,mx,my,mA,mB,mC⟩,rfl⟩:=hI
      have mc:=mF (hE ⟨4,.data⟩ (by simp) rfl)
      rw[mc]
      go_simp
      exact hK.out _ _ ⟨fun m9=>if m9=5 then .pointer (some ⟨(ak x).1,0,none⟩)else V m9,(by simp[Act.put,mc]),⟨mO mq,mO mr,mO mD,mO mE,mO mF,fun _=>rfl,mO mK,mO mQ,mO mT,mO mU,mO mt,mO mu,mO mw,mO mx,mO my,mO mA,mO mB,mO mC⟩,rfl⟩
     ·intro L a' W' hI hLj hE K' hK
      obtain⟨V,rfl,⟨mq,mr,mD,mE,mF,mH,mK,mQ,mT,mU,mt,mu,mw,mx,my,mA,mB,mC⟩,rfl⟩:=hI
      have me:=mH (hE ⟨5,.data⟩ (by simp) rfl)
      rw[me]
      go_simp
      exact hK.out _ _ ⟨fun m9=>if m9=6 then .pointer (some ⟨(ak x).1,1,none⟩)else V m9,(by simp[Act.put,me]),⟨mO mq,mO mr,mO mD,mO mE,mO mF,mO mH,fun _=>rfl,mO mQ,mO mT,mO mU,mO mt,mO mu,mO mw,mO mx,mO my,mO mA,mO mB,mO mC⟩,rfl⟩
     ·intro L a' W' hI hLj hE K' hK
      obtain⟨V,rfl,⟨mq,mr,mD,mE,mF,mH,mK,mQ,mT,mU,mt,mu,mw,mx,my,mA,mB,mC⟩,rfl⟩:=hI
      have mf:=mK (hE ⟨6,.data⟩ (by simp) rfl)
      rw[mf]
      go_simp
      exact hK.out _ _ ⟨fun m9=>if m9=7 then .pointer (some ⟨(ak x).1,2,none⟩)else V m9,(by simp[Act.put,mf]),⟨mO mq,mO mr,mO mD,mO mE,mO mF,mO mH,mO mK,fun _=>rfl,mO mT,mO mU,mO mt,mO mu,mO mw,mO mx,mO my,mO mA,mO mB,mO mC⟩,rfl⟩
     ·intro L a' W' hI hLj hE K' hK
      obtain⟨V,rfl,⟨mq,mr,mD,mE,mF,mH,mK,mQ,mT,mU,mt,mu,mw,mx,my,mA,mB,mC⟩,rfl⟩:=hI
      have mg:=mQ (hE ⟨7,.data⟩ (by simp) rfl)
      rw[mg]
      go_simp
      exact hK.out _ _ ⟨fun m9=>if m9=8 then .int .i64 en else V m9,(by simp[Act.put,mg]),⟨mO mq,mO mr,mO mD,mO mE,mO mF,mO mH,mO mK,mO mQ,fun _=>rfl,mO mU,mO mt,mO mu,mO mw,mO mx,mO my,mO mA,mO mB,mO mC⟩,rfl⟩
     ·intro L a' W' hI hLj hE K' hK
      obtain⟨V,rfl,⟨mq,mr,mD,mE,mF,mH,mK,mQ,mT,mU,mt,mu,mw,mx,my,mA,mB,mC⟩,rfl⟩:=hI
      have ma:=mE (hE ⟨3,.data⟩ (by simp) rfl)
      have mh:=mT (hE ⟨8,.data⟩ (by simp) rfl)
      rw[ma]
      rw[mh]
      go_simp
      exact hK.out _ _ ⟨fun m9=>if m9=9 then .bool true else V m9,(by simp[Act.put,ma,mh]),⟨mO mq,mO mr,mO mD,mO mE,mO mF,mO mH,mO mK,mO mQ,mO mT,fun _=>rfl,mO mt,mO mu,mO mw,mO mx,mO my,mO mA,mO mB,mO mC⟩,rfl⟩
     ·intro L a' W' hI hLj hE K' hK
      obtain⟨V,rfl,⟨mq,mr,mD,mE,mF,mH,mK,mQ,mT,mU,mt,mu,mw,mx,my,mA,mB,mC⟩,rfl⟩:=hI
      have mi:=mU (hE ⟨9,.data⟩ (by simp) rfl)
      rw[mi]
      go_simp
      exact hK.out _ _ ⟨fun m9=>if m9=10 then .bool true else V m9,(by simp[Act.put,mi]),⟨mO mq,mO mr,mO mD,mO mE,mO mF,mO mH,mO mK,mO mQ,mO mT,mO mU,fun _=>rfl,mO mu,mO mw,mO mx,mO my,mO mA,mO mB,mO mC⟩,rfl⟩
     ·intro L a' W' hI hLj hE K' hK
      obtain⟨V,rfl,⟨mq,mr,mD,mE,mF,mH,mK,mQ,mT,mU,mt,mu,mw,mx,my,mA,mB,mC⟩,rfl⟩:=hI
      have lS:=mt (hE ⟨10,.guard⟩ (by simp) rfl)
      rw[lS]
      rw[show Region.wanted _ _=true from rfl]
      go_simp
      exact hK.out _ _ ⟨fun m9=>if m9=11 then .pointer (some ⟨(ak x).1,0,none⟩)else V m9,(by simp[Act.put,lS]),⟨mO mq,mO mr,mO mD,mO mE,mO mF,mO mH,mO mK,mO mQ,mO mT,mO mU,mO mt,fun _=>rfl,mO mw,mO mx,mO my,mO mA,mO mB,mO mC⟩,rfl⟩
     ·intro L a' W' hI hLj hE K' hK
      obtain⟨V,rfl,⟨mq,mr,mD,mE,mF,mH,mK,mQ,mT,mU,mt,mu,mw,mx,my,mA,mB,mC⟩,rfl⟩:=hI
      have lT:=mu (hE ⟨11,.data⟩ (by simp) rfl)
      have lS:=mt (hE ⟨10,.guard⟩ (by simp) rfl)
      rw[lT]
      rw[lS]
      rw[show Region.wanted _ _=true from rfl]
      go_simp
      exact hK.out _ _ ⟨fun m9=>if m9=12 then .pointer (some ⟨(ak x).1,0,none⟩)else V m9,(by simp[Act.put,lT,lS]),⟨mO mq,mO mr,mO mD,mO mE,mO mF,mO mH,mO mK,mO mQ,mO mT,mO mU,mO mt,mO mu,fun _=>rfl,mO mx,mO my,mO mA,mO mB,mO mC⟩,rfl⟩
     ·intro L a' W' hI hLj hE K' hK
      obtain⟨V,rfl,⟨mq,mr,mD,mE,mF,mH,mK,mQ,mT,mU,mt,mu,mw,mx,my,mA,mB,mC⟩,rfl⟩:=hI
      have lU:=mw (hE ⟨12,.data⟩ (by simp) rfl)
      have lS:=mt (hE ⟨10,.guard⟩ (by simp) rfl)
      rw[lU]
      rw[lS]
      rw[show Region.wanted _ _=true from rfl]
      go_simp
      exact hK.out _ _ ⟨fun m9=>if m9=13 then .pointer (some ⟨(ak x).1,7,none⟩)else V m9,(by simp[Act.put,lU,lS]),⟨mO mq,mO mr,mO mD,mO mE,mO mF,mO mH,mO mK,mO mQ,mO mT,mO mU,mO mt,mO mu,mO mw,fun _=>rfl,mO my,mO mA,mO mB,mO mC⟩,rfl⟩
     ·intro L a' W' hI hLj hE K' hK
      obtain⟨V,rfl,⟨mq,mr,mD,mE,mF,mH,mK,mQ,mT,mU,mt,mu,mw,mx,my,mA,mB,mC⟩,rfl⟩:=hI
      have lV:=mx (hE ⟨13,.data⟩ (by simp) rfl)
      have lS:=mt (hE ⟨10,.guard⟩ (by simp) rfl)
      rw[lV]
      rw[lS]
      rw[show Region.wanted _ _=true from rfl]
      go_simp
      exact hK.out _ _ ⟨fun m9=>if m9=14 then .pointer (some ⟨(ak x).1,7,none⟩)else V m9,(by simp[Act.put,lV,lS]),⟨mO mq,mO mr,mO mD,mO mE,mO mF,mO mH,mO mK,mO mQ,mO mT,mO mU,mO mt,mO mu,mO mw,mO mx,fun _=>rfl,mO mA,mO mB,mO mC⟩,rfl⟩
     ·intro L a' W' hI hLj hE K' hK
      obtain⟨V,rfl,⟨mq,mr,mD,mE,mF,mH,mK,mQ,mT,mU,mt,mu,mw,mx,my,mA,mB,mC⟩,rfl⟩:=hI
      have lW:=my (hE ⟨14,.data⟩ (by simp) rfl)
      have lS:=mt (hE ⟨10,.guard⟩ (by simp) rfl)
      rw[lW]
      rw[lS]
      rw[show Region.wanted _ _=true from rfl]
      go_simp
      exact hK.out _ _ ⟨fun m9=>if m9=15 then .int .i64 fn else V m9,(by simp[Act.put,lW,lS]),⟨mO mq,mO mr,mO mD,mO mE,mO mF,mO mH,mO mK,mO mQ,mO mT,mO mU,mO mt,mO mu,mO mw,mO mx,mO my,fun _=>rfl,mO mB,mO mC⟩,rfl⟩
     ·intro L a' W' hI hLj hE K' hK
      obtain⟨V,rfl,⟨mq,mr,mD,mE,mF,mH,mK,mQ,mT,mU,mt,mu,mw,mx,my,mA,mB,mC⟩,rfl⟩:=hI
      have lX:=mA (hE ⟨15,.data⟩ (by simp) rfl)
      have lS:=mt (hE ⟨10,.guard⟩ (by simp) rfl)
      rw[lX]
      rw[lS]
      rw[show Region.wanted _ _=true from rfl]
      go_simp
      exact hK.out _ _ ⟨fun m9=>if m9=16 then .bool false else V m9,(by simp[Act.put,lX,lS]),⟨mO mq,mO mr,mO mD,mO mE,mO mF,mO mH,mO mK,mO mQ,mO mT,mO mU,mO mt,mO mu,mO mw,mO mx,mO my,mO mA,fun _=>rfl,mO mC⟩,rfl⟩
     ·intro L a' W' hI hLj hE K' hK
      obtain⟨V,rfl,⟨mq,mr,mD,mE,mF,mH,mK,mQ,mT,mU,mt,mu,mw,mx,my,mA,mB,mC⟩,rfl⟩:=hI
      have lS:=mt (hE ⟨10,.data⟩ (by simp) rfl)
      have lY:=mB (hE ⟨16,.data⟩ (by simp) rfl)
      rw[lS]
      rw[lY]
      go_simp
      exact hK.out _ _ ⟨fun m9=>if m9=17 then .bool false else V m9,(by simp[Act.put,lS,lY]),⟨mO mq,mO mr,mO mD,mO mE,mO mF,mO mH,mO mK,mO mQ,mO mT,mO mU,mO mt,mO mu,mO mw,mO mx,mO my,mO mA,mO mB,fun _=>rfl⟩,rfl⟩
    intro L a' W' hI hall
    obtain⟨V,rfl,⟨mq,mr,mD,mE,mF,mH,mK,mQ,mT,mU,mt,mu,mw,mx,my,mA,mB,mC⟩,rfl⟩:=hI
    have lQ:=mq (hall 0 (by decide))
    have lR:=mr (hall 1 (by decide))
    have lZ:=mD (hall 2 (by decide))
    have ma:=mE (hall 3 (by decide))
    have mc:=mF (hall 4 (by decide))
    have me:=mH (hall 5 (by decide))
    have mf:=mK (hall 6 (by decide))
    have mg:=mQ (hall 7 (by decide))
    have mh:=mT (hall 8 (by decide))
    have mi:=mU (hall 9 (by decide))
    have lS:=mt (hall 10 (by decide))
    have lT:=mu (hall 11 (by decide))
    have lU:=mw (hall 12 (by decide))
    have lV:=mx (hall 13 (by decide))
    have lW:=my (hall 14 (by decide))
    have lX:=mA (hall 15 (by decide))
    have lY:=mB (hall 16 (by decide))
    have ev17:=mC (hall 17 (by decide))
    rw[lQ,lR,lZ,ma,mc,me,mf,mg,mh,mi,lS,lT,lU,lV,lW,lX,lY,ev17]
    clear lQ mq lR mr lZ mD ma mE mc mF me mH mf mK mg mQ mh mT mi mU lS mt lT mu lU mw lV mx lW my lX mA lY mB ev17 mC hall
    gi_wp2
    exact⟨(gi.bel (ap (Below.refl _ W))).from _,(gi.bel (ap (Below.refl _ W))).kpo,ab HI1⟩
   ·have d1:decide (en≤m)=false:=decide_eq_false hen
    clear htel hen
    gi_wp2
    refine bM (oc) (oc) (fun L a' W'=>∃V:Nat→Value,a'=({tmps:=#[.pointer (some ⟨Bo,0,none⟩),.pointer (some ⟨w.heap.size,0,none⟩),undef,.pointer (some ⟨(ak x).1,0,none⟩),.pointer (some ⟨Bo,0,none⟩),.pointer (some ⟨Bo,0,none⟩),.pointer (some ⟨Bo,11,none⟩),.map (some mb),(.func (.func 83) #[] #[.pointer (some ⟨w.heap.size+1,0,none⟩)]),.agg #[.int .i64 x.1.1.1,.int .i64 x.1.1.2.1,.int .i64 x.1.1.2.2],.pointer (some ⟨(ak x).1,0,none⟩),V 0,V 1,V 2,V 3,V 4,V 5,V 6,V 7,V 8,V 9,V 10,V 11,V 12,V 13,V 14,V 15,V 16,V 17,undef,undef,undef,undef,undef,undef,undef,undef,undef,undef,undef,undef,undef,undef,undef,undef],defers:=[]}:Act)∧((L 0=true→V 0= .pointer (some ⟨Bo,0,none⟩))∧(L 1=true→V 1= .pointer (some ⟨Bo,0,none⟩))∧(L 2=true→V 2= .pointer (some ⟨Bo,10,none⟩))∧(L 3=true→V 3= .int .i64 m)∧(L 4=true→V 4= .pointer (some ⟨(ak x).1,0,none⟩))∧(L 5=true→V 5= .pointer (some ⟨(ak x).1,0,none⟩))∧(L 6=true→V 6= .pointer (some ⟨(ak x).1,1,none⟩))∧(L 7=true→V 7= .pointer (some ⟨(ak x).1,2,none⟩))∧(L 8=true→V 8= .int .i64 en)∧(L 9=true→V 9= .bool false)∧(L 10=true→V 10= .bool false)∧(L 11=true→V 11=undef)∧(L 12=true→V 12=undef)∧(L 13=true→V 13=undef)∧(L 14=true→V 14=undef)∧(L 15=true→V 15=undef)∧(L 16=true→V 16=undef)∧(L 17=true→V 17= .bool false))∧W'=W.drew) ?_ ?_ ?_
    ·exact⟨fun _=>undef,rfl,⟨(fun h9=>(by cases h9)),(fun h9=>(by cases h9)),(fun h9=>(by cases h9)),(fun h9=>(by cases h9)),(fun h9=>(by cases h9)),(fun h9=>(by cases h9)),(fun h9=>(by cases h9)),(fun h9=>(by cases h9)),(fun h9=>(by cases h9)),(fun h9=>(by cases h9)),(fun h9=>(by cases h9)),(fun h9=>(by cases h9)),(fun h9=>(by cases h9)),(fun h9=>(by cases h9)),(fun h9=>(by cases h9)),(fun h9=>(by cases h9)),(fun h9=>(by cases h9)),(fun h9=>(by cases h9))⟩,rfl⟩
    ·refine⟨?_,?_,?_,?_,?_,?_,?_,?_,?_,?_,?_,?_,?_,?_,?_,?_,?_,?_,trivial⟩
     ·intro L a' W' hI hLj hE K' hK
      obtain⟨V,rfl,⟨mq,mr,mD,mE,mF,mH,mK,mQ,mT,mU,mt,mu,mw,mx,my,mA,mB,mC⟩,rfl⟩:=hI
      go_simp
      exact hK.out _ _ ⟨fun m9=>if m9=0 then .pointer (some ⟨Bo,0,none⟩)else V m9,rfl,⟨fun _=>rfl,mO mr,mO mD,mO mE,mO mF,mO mH,mO mK,mO mQ,mO mT,mO mU,mO mt,mO mu,mO mw,mO mx,mO my,mO mA,mO mB,mO mC⟩,rfl⟩
     ·intro L a' W' hI hLj hE K' hK
      obtain⟨V,rfl,⟨mq,mr,mD,mE,mF,mH,mK,mQ,mT,mU,mt,mu,mw,mx,my,mA,mB,mC⟩,rfl⟩:=hI
      have lQ:=mq (hE ⟨0,.data⟩ (by simp) rfl)
      rw[lQ]
      go_simp
      exact hK.out _ _ ⟨fun m9=>if m9=1 then .pointer (some ⟨Bo,0,none⟩)else V m9,(by simp[Act.put,lQ]),⟨mO mq,fun _=>rfl,mO mD,mO mE,mO mF,mO mH,mO mK,mO mQ,mO mT,mO mU,mO mt,mO mu,mO mw,mO mx,mO my,mO mA,mO mB,mO mC⟩,rfl⟩
     ·intro L a' W' hI hLj hE K' hK
      obtain⟨V,rfl,⟨mq,mr,mD,mE,mF,mH,mK,mQ,mT,mU,mt,mu,mw,mx,my,mA,mB,mC⟩,rfl⟩:=hI
      have lR:=mr (hE ⟨1,.data⟩ (by simp) rfl)
      rw[lR]
      go_simp
      exact hK.out _ _ ⟨fun m9=>if m9=2 then .pointer (some ⟨Bo,10,none⟩)else V m9,(by simp[Act.put,lR]),⟨mO mq,mO mr,fun _=>rfl,mO mE,mO mF,mO mH,mO mK,mO mQ,mO mT,mO mU,mO mt,mO mu,mO mw,mO mx,mO my,mO mA,mO mB,mO mC⟩,rfl⟩
     ·intro L a' W' hI hLj hE K' hK
      obtain⟨V,rfl,⟨mq,mr,mD,mE,mF,mH,mK,mQ,mT,mU,mt,mu,mw,mx,my,mA,mB,mC⟩,rfl⟩:=hI
      have lZ:=mD (hE ⟨2,.data⟩ (by simp) rfl)
      rw[lZ]
      go_simp
      exact hK.out _ _ ⟨fun m9=>if m9=3 then .int .i64 m else V m9,(by simp[Act.put,lZ]),⟨mO mq,mO mr,mO mD,fun _=>rfl,mO mF,mO mH,mO mK,mO mQ,mO mT,mO mU,mO mt,mO mu,mO mw,mO mx,mO my,mO mA,mO mB,mO mC⟩,rfl⟩
     ·intro L a' W' hI hLj hE K' hK
      obtain⟨V,rfl,⟨mq,mr,mD,mE,mF,mH,mK,mQ,mT,mU,mt,mu,mw,mx,my,mA,mB,mC⟩,rfl⟩:=hI
      go_simp
      exact hK.out _ _ ⟨fun m9=>if m9=4 then .pointer (some ⟨(ak x).1,0,none⟩)else V m9,rfl,⟨mO mq,mO mr,mO mD,mO mE,fun _=>rfl,mO mH,mO mK,mO mQ,mO mT,mO mU,mO mt,mO mu,mO mw,mO mx,mO my,mO mA,mO mB,mO mC⟩,rfl⟩
     ·intro L a' W' hI hLj hE K' hK
      obtain⟨V,rfl,⟨mq,mr,mD,mE,mF,mH,mK,mQ,mT,mU,mt,mu,mw,mx,my,mA,mB,mC⟩,rfl⟩:=hI
      have mc:=mF (hE ⟨4,.data⟩ (by simp) rfl)
      rw[mc]
      go_simp
      exact hK.out _ _ ⟨fun m9=>if m9=5 then .pointer (some ⟨(ak x).1,0,none⟩)else V m9,(by simp[Act.put,mc]),⟨mO mq,mO mr,mO mD,mO mE,mO mF,fun _=>rfl,mO mK,mO mQ,mO mT,mO mU,mO mt,mO mu,mO mw,mO mx,mO my,mO mA,mO mB,mO mC⟩,rfl⟩
     ·intro L a' W' hI hLj hE K' hK
      obtain⟨V,rfl,⟨mq,mr,mD,mE,mF,mH,mK,mQ,mT,mU,mt,mu,mw,mx,my,mA,mB,mC⟩,rfl⟩:=hI
      have me:=mH (hE ⟨5,.data⟩ (by simp) rfl)
      rw[me]
      go_simp
      exact hK.out _ _ ⟨fun m9=>if m9=6 then .pointer (some ⟨(ak x).1,1,none⟩)else V m9,(by simp[Act.put,me]),⟨mO mq,mO mr,mO mD,mO mE,mO mF,mO mH,fun _=>rfl,mO mQ,mO mT,mO mU,mO mt,mO mu,mO mw,mO mx,mO my,mO mA,mO mB,mO mC⟩,rfl⟩
     ·intro L a' W' hI hLj hE K' hK
      obtain⟨V,rfl,⟨mq,mr,mD,mE,mF,mH,mK,mQ,mT,mU,mt,mu,mw,mx,my,mA,mB,mC⟩,rfl⟩:=hI
      have mf:=mK (hE ⟨6,.data⟩ (by simp) rfl)
      rw[mf]
      go_simp
      exact hK.out _ _ ⟨fun m9=>if m9=7 then .pointer (some ⟨(ak x).1,2,none⟩)else V m9,(by simp[Act.put,mf]),⟨mO mq,mO mr,mO mD,mO mE,mO mF,mO mH,mO mK,fun _=>rfl,mO mT,mO mU,mO mt,mO mu,mO mw,mO mx,mO my,mO mA,mO mB,mO mC⟩,rfl⟩
     ·intro L a' W' hI hLj hE K' hK
      obtain⟨V,rfl,⟨mq,mr,mD,mE,mF,mH,mK,mQ,mT,mU,mt,mu,mw,mx,my,mA,mB,mC⟩,rfl⟩:=hI
      have mg:=mQ (hE ⟨7,.data⟩ (by simp) rfl)
      rw[mg]
      go_simp
      exact hK.out _ _ ⟨fun m9=>if m9=8 then .int .i64 en else V m9,(by simp[Act.put,mg]),⟨mO mq,mO mr,mO mD,mO mE,mO mF,mO mH,mO mK,mO mQ,fun _=>rfl,mO mU,mO mt,mO mu,mO mw,mO mx,mO my,mO mA,mO mB,mO mC⟩,rfl⟩
     ·intro L a' W' hI hLj hE K' hK
      obtain⟨V,rfl,⟨mq,mr,mD,mE,mF,mH,mK,mQ,mT,mU,mt,mu,mw,mx,my,mA,mB,mC⟩,rfl⟩:=hI
      have ma:=mE (hE ⟨3,.data⟩ (by simp) rfl)
      have mh:=mT (hE ⟨8,.data⟩ (by simp) rfl)
      rw[ma]
      rw[mh]
      go_simp
      exact hK.out _ _ ⟨fun m9=>if m9=9 then .bool false else V m9,(by simp[Act.put,ma,mh]),⟨mO mq,mO mr,mO mD,mO mE,mO mF,mO mH,mO mK,mO mQ,mO mT,fun _=>rfl,mO mt,mO mu,mO mw,mO mx,mO my,mO mA,mO mB,mO mC⟩,rfl⟩
     ·intro L a' W' hI hLj hE K' hK
      obtain⟨V,rfl,⟨mq,mr,mD,mE,mF,mH,mK,mQ,mT,mU,mt,mu,mw,mx,my,mA,mB,mC⟩,rfl⟩:=hI
      have mi:=mU (hE ⟨9,.data⟩ (by simp) rfl)
      rw[mi]
      go_simp
      exact hK.out _ _ ⟨fun m9=>if m9=10 then .bool false else V m9,(by simp[Act.put,mi]),⟨mO mq,mO mr,mO mD,mO mE,mO mF,mO mH,mO mK,mO mQ,mO mT,mO mU,fun _=>rfl,mO mu,mO mw,mO mx,mO my,mO mA,mO mB,mO mC⟩,rfl⟩
     ·intro L a' W' hI hLj hE K' hK
      obtain⟨V,rfl,⟨mq,mr,mD,mE,mF,mH,mK,mQ,mT,mU,mt,mu,mw,mx,my,mA,mB,mC⟩,rfl⟩:=hI
      have lS:=mt (hE ⟨10,.guard⟩ (by simp) rfl)
      rw[lS]
      rw[show Region.wanted _ _=false from rfl]
      refine⟨fun _ _=>trivial,hK.out _ _ ⟨fun m9=>if m9=11 then undef else V m9,(by simp[Act.put,lS]),⟨mO mq,mO mr,mO mD,mO mE,mO mF,mO mH,mO mK,mO mQ,mO mT,mO mU,mO mt,fun _=>rfl,mO mw,mO mx,mO my,mO mA,mO mB,mO mC⟩,rfl⟩⟩
     ·intro L a' W' hI hLj hE K' hK
      obtain⟨V,rfl,⟨mq,mr,mD,mE,mF,mH,mK,mQ,mT,mU,mt,mu,mw,mx,my,mA,mB,mC⟩,rfl⟩:=hI
      have lT:=mu (hE ⟨11,.data⟩ (by simp) rfl)
      have lS:=mt (hE ⟨10,.guard⟩ (by simp) rfl)
      rw[lT]
      rw[lS]
      rw[show Region.wanted _ _=false from rfl]
      refine⟨fun _ _=>trivial,hK.out _ _ ⟨fun m9=>if m9=12 then undef else V m9,(by simp[Act.put,lT,lS]),⟨mO mq,mO mr,mO mD,mO mE,mO mF,mO mH,mO mK,mO mQ,mO mT,mO mU,mO mt,mO mu,fun _=>rfl,mO mx,mO my,mO mA,mO mB,mO mC⟩,rfl⟩⟩
     ·intro L a' W' hI hLj hE K' hK
      obtain⟨V,rfl,⟨mq,mr,mD,mE,mF,mH,mK,mQ,mT,mU,mt,mu,mw,mx,my,mA,mB,mC⟩,rfl⟩:=hI
      have lU:=mw (hE ⟨12,.data⟩ (by simp) rfl)
      have lS:=mt (hE ⟨10,.guard⟩ (by simp) rfl)
      rw[lU]
      rw[lS]
      rw[show Region.wanted _ _=false from rfl]
      refine⟨fun _ _=>trivial,hK.out _ _ ⟨fun m9=>if m9=13 then undef else V m9,(by simp[Act.put,lU,lS]),⟨mO mq,mO mr,mO mD,mO mE,mO mF,mO mH,mO mK,mO mQ,mO mT,mO mU,mO mt,mO mu,mO mw,fun _=>rfl,mO my,mO mA,mO mB,mO mC⟩,rfl⟩⟩
     ·intro L a' W' hI hLj hE K' hK
      obtain⟨V,rfl,⟨mq,mr,mD,mE,mF,mH,mK,mQ,mT,mU,mt,mu,mw,mx,my,mA,mB,mC⟩,rfl⟩:=hI
      have lV:=mx (hE ⟨13,.data⟩ (by simp) rfl)
      have lS:=mt (hE ⟨10,.guard⟩ (by simp) rfl)
      rw[lV]
      rw[lS]
      rw[show Region.wanted _ _=false from rfl]
      refine⟨fun _ _=>trivial,hK.out _ _ ⟨fun m9=>if m9=14 then undef else V m9,(by simp[Act.put,lV,lS]),⟨mO mq,mO mr,mO mD,mO mE,mO mF,mO mH,mO mK,mO mQ,mO mT,mO mU,mO mt,mO mu,mO mw,mO mx,fun _=>rfl,mO mA,mO mB,mO mC⟩,rfl⟩⟩
     ·intro L a' W' hI hLj hE K' hK
      obtain⟨V,rfl,⟨mq,mr,mD,mE,mF,mH,mK,mQ,mT,mU,mt,mu,mw,mx,my,mA,mB,mC⟩,rfl⟩:=hI
      have lW:=my (hE ⟨14,.data⟩ (by simp) rfl)
      have lS:=mt (hE ⟨10,.guard⟩ (by simp) rfl)
      rw[lW]
      rw[lS]
      rw[show Region.wanted _ _=false from rfl]
      refine⟨fun _ _=>trivial,hK.out _ _ ⟨fun m9=>if m9=15 then undef else V m9,(by simp[Act.put,lW,lS]),⟨mO mq,mO mr,mO mD,mO mE,mO mF,mO mH,mO mK,mO mQ,mO mT,mO mU,mO mt,mO mu,mO mw,mO mx,mO my,fun _=>rfl,mO mB,mO mC⟩,rfl⟩⟩
     ·intro L a' W' hI hLj hE K' hK
      obtain⟨V,rfl,⟨mq,mr,mD,mE,mF,mH,mK,mQ,mT,mU,mt,mu,mw,mx,my,mA,mB,mC⟩,rfl⟩:=hI
      have lX:=mA (hE ⟨15,.data⟩ (by simp) rfl)
      have lS:=mt (hE ⟨10,.guard⟩ (by simp) rfl)
      rw[lX]
      rw[lS]
      rw[show Region.wanted _ _=false from rfl]
      refine⟨fun _ _=>trivial,hK.out _ _ ⟨fun m9=>if m9=16 then undef else V m9,(by simp[Act.put,lX,lS]),⟨mO mq,mO mr,mO mD,mO mE,mO mF,mO mH,mO mK,mO mQ,mO mT,mO mU,mO mt,mO mu,mO mw,mO mx,mO my,mO mA,fun _=>rfl,mO mC⟩,rfl⟩⟩
     ·intro L a' W' hI hLj hE K' hK
      obtain⟨V,rfl,⟨mq,mr,mD,mE,mF,mH,mK,mQ,mT,mU,mt,mu,mw,mx,my,mA,mB,mC⟩,rfl⟩:=hI
      have lS:=mt (hE ⟨10,.data⟩ (by simp) rfl)
      have lY:=mB (hE ⟨16,.data⟩ (by simp) rfl)
      rw[lS]
      rw[lY]
      go_simp
      exact hK.out _ _ ⟨fun m9=>if m9=17 then .bool false else V m9,(by simp[Act.put,lS,lY]),⟨mO mq,mO mr,mO mD,mO mE,mO mF,mO mH,mO mK,mO mQ,mO mT,mO mU,mO mt,mO mu,mO mw,mO mx,mO my,mO mA,mO mB,fun _=>rfl⟩,rfl⟩
    intro L a' W' hI hall
    obtain⟨V,rfl,⟨mq,mr,mD,mE,mF,mH,mK,mQ,mT,mU,mt,mu,mw,mx,my,mA,mB,mC⟩,rfl⟩:=hI
    have lQ:=mq (hall 0 (by decide))
    have lR:=mr (hall 1 (by decide))
    have lZ:=mD (hall 2 (by decide))
    have ma:=mE (hall 3 (by decide))
    have mc:=mF (hall 4 (by decide))
    have me:=mH (hall 5 (by decide))
    have mf:=mK (hall 6 (by decide))
    have mg:=mQ (hall 7 (by decide))
    have mh:=mT (hall 8 (by decide))
    have mi:=mU (hall 9 (by decide))
    have lS:=mt (hall 10 (by decide))
    have lT:=mu (hall 11 (by decide))
    have lU:=mw (hall 12 (by decide))
    have lV:=mx (hall 13 (by decide))
    have lW:=my (hall 14 (by decide))
    have lX:=mA (hall 15 (by decide))
    have lY:=mB (hall 16 (by decide))
    have ev17:=mC (hall 17 (by decide))
    rw[lQ,lR,lZ,ma,mc,me,mf,mg,mh,mi,lS,lT,lU,lV,lW,lX,lY,ev17]
    clear lQ mq lR mr lZ mD ma mE mc mF me mH mf mK mg mQ mh mT mi mU lS mt lT mu lU mw lV mx lW my lX mA lY mB ev17 mC hall
    gi_wp2
    exact⟨(gi.bel (ap (Below.refl _ W))).from _,(gi.bel (ap (Below.refl _ W))).kpo,ab HI1⟩
  |true=>
   have hgt:=gBx_tel (by rw[hy];exact htel)
   have Htel:=ae hgt.1
   have Hy:Hid (y=(ak x).2):=ae (by rw[←hy];exact hgt.2)
   obtain⟨qs,hqs⟩:∃qs,ps++(jK m b (pre.map ak)).2=qs:=⟨_,rfl⟩
   have hql:qs.length≤2000:=by
    rw[←hqs,List.length_append]
    have:=gS_len m b (pre.map ak)
    rw[List.length_map]at this
    omega
   rw[hqs]at hPn
   have Hqs:=ae hqs
   have HPn:Hid (aR W.drew.drew B pv qs):=ae hPn
   obtain⟨⟨pky,pst,pen,ptd,pkd,pn,psu,ple,pmo⟩,hpan⟩:∃p9,dJ b y=p9:=⟨_,rfl⟩
   have htdy:0≤y.td∧y.td≤100000:=by rw[ab Hy];exact htd0
   clear hm hP0 hown hI0 hbox hPn hy hbx hgt hqs
   obtain⟨ky,st,en,an,asu,ale,amo,fn,fsu,fle,fmo,td,tm⟩:=y
   dsimp only at c2 c7 htdy
   obtain⟨rfl,rfl,rfl,rfl,_⟩:pky=ky∧pst=st∧pen=en∧ptd=td∧True:=by simp[dJ]at hpan;exact⟨hpan.1.symm,hpan.2.1.symm,hpan.2.2.1.symm,hpan.2.2.2.1.symm,trivial⟩
   have Hpan:=ae hpan
   have htd:=htdy
   simp only[cy,Bool.and_eq_true,decide_eq_true_eq]at htel
   have d1:decide (pen≤m)=true:=decide_eq_true htel.1
   have d2:decide (0<fn)=true:=decide_eq_true htel.2
   clear htel hpan htdy
   unfold actG
   gi_wp2
   refine bM (oc) (oc) (fun L a' W'=>∃V:Nat→Value,a'=({tmps:=#[.pointer (some ⟨Bo,0,none⟩),.pointer (some ⟨w.heap.size,0,none⟩),undef,.pointer (some ⟨(ak x).1,0,none⟩),.pointer (some ⟨Bo,0,none⟩),.pointer (some ⟨Bo,0,none⟩),.pointer (some ⟨Bo,11,none⟩),.map (some mb),(.func (.func 83) #[] #[.pointer (some ⟨w.heap.size+1,0,none⟩)]),.agg #[.int .i64 x.1.1.1,.int .i64 x.1.1.2.1,.int .i64 x.1.1.2.2],.pointer (some ⟨(ak x).1,0,none⟩),V 0,V 1,V 2,V 3,V 4,V 5,V 6,V 7,V 8,V 9,V 10,V 11,V 12,V 13,V 14,V 15,V 16,V 17,undef,undef,undef,undef,undef,undef,undef,undef,undef,undef,undef,undef,undef,undef,undef,undef],defers:=[]}:Act)∧((L 0=true→V 0= .pointer (some ⟨Bo,0,none⟩))∧(L 1=true→V 1= .pointer (some ⟨Bo,0,none⟩))∧(L 2=true→V 2= .pointer (some ⟨Bo,10,none⟩))∧(L 3=true→V 3= .int .i64 m)∧(L 4=true→V 4= .pointer (some ⟨(ak x).1,0,none⟩))∧(L 5=true→V 5= .pointer (some ⟨(ak x).1,0,none⟩))∧(L 6=true→V 6= .pointer (some ⟨(ak x).1,1,none⟩))∧(L 7=true→V 7= .pointer (some ⟨(ak x).1,2,none⟩))∧(L 8=true→V 8= .int .i64 pen)∧(L 9=true→V 9= .bool true)∧(L 10=true→V 10= .bool true)∧(L 11=true→V 11= .pointer (some ⟨(ak x).1,0,none⟩))∧(L 12=true→V 12= .pointer (some ⟨(ak x).1,0,none⟩))∧(L 13=true→V 13= .pointer (some ⟨(ak x).1,7,none⟩))∧(L 14=true→V 14= .pointer (some ⟨(ak x).1,7,none⟩))∧(L 15=true→V 15= .int .i64 fn)∧(L 16=true→V 16= .bool true)∧(L 17=true→V 17= .bool true))∧W'=W.drew) ?_ ?_ ?_
   ·exact⟨fun _=>undef,rfl,⟨(fun h9=>(by cases h9)),(fun h9=>(by cases h9)),(fun h9=>(by cases h9)),(fun h9=>(by cases h9)),(fun h9=>(by cases h9)),(fun h9=>(by cases h9)),(fun h9=>(by cases h9)),(fun h9=>(by cases h9)),(fun h9=>(by cases h9)),(fun h9=>(by cases h9)),(fun h9=>(by cases h9)),(fun h9=>(by cases h9)),(fun h9=>(by cases h9)),(fun h9=>(by cases h9)),(fun h9=>(by cases h9)),(fun h9=>(by cases h9)),(fun h9=>(by cases h9)),(fun h9=>(by cases h9))⟩,rfl⟩
   ·refine⟨?_,?_,?_,?_,?_,?_,?_,?_,?_,?_,?_,?_,?_,?_,?_,?_,?_,?_,trivial⟩
    ·intro L a' W' hI hLj hE K' hK
     obtain⟨V,rfl,⟨mq,mr,mD,mE,mF,mH,mK,mQ,mT,mU,mt,mu,mw,mx,my,mA,mB,mC⟩,rfl⟩:=hI
     go_simp
     exact hK.out _ _ ⟨fun m9=>if m9=0 then .pointer (some ⟨Bo,0,none⟩)else V m9,rfl,⟨fun _=>rfl,mO mr,mO mD,mO mE,mO mF,mO mH,mO mK,mO mQ,mO mT,mO mU,mO mt,mO mu,mO mw,mO mx,mO my,mO mA,mO mB,mO mC⟩,rfl⟩
    ·intro L a' W' hI hLj hE K' hK
     obtain⟨V,rfl,⟨mq,mr,mD,mE,mF,mH,mK,mQ,mT,mU,mt,mu,mw,mx,my,mA,mB,mC⟩,rfl⟩:=hI
     have lQ:=mq (hE ⟨0,.data⟩ (by simp) rfl)
     rw[lQ]
     go_simp
     exact hK.out _ _ ⟨fun m9=>if m9=1 then .pointer (some ⟨Bo,0,none⟩)else V m9,(by simp[Act.put,lQ]),⟨mO mq,fun _=>rfl,mO mD,mO mE,mO mF,mO mH,mO mK,mO mQ,mO mT,mO mU,mO mt,mO mu,mO mw,mO mx,mO my,mO mA,mO mB,mO mC⟩,rfl⟩
    ·intro L a' W' hI hLj hE K' hK
     obtain⟨V,rfl,⟨mq,mr,mD,mE,mF,mH,mK,mQ,mT,mU,mt,mu,mw,mx,my,mA,mB,mC⟩,rfl⟩:=hI
     have lR:=mr (hE ⟨1,.data⟩ (by simp) rfl)
     rw[lR]
     go_simp
     exact hK.out _ _ ⟨fun m9=>if m9=2 then .pointer (some ⟨Bo,10,none⟩)else V m9,(by simp[Act.put,lR]),⟨mO mq,mO mr,fun _=>rfl,mO mE,mO mF,mO mH,mO mK,mO mQ,mO mT,mO mU,mO mt,mO mu,mO mw,mO mx,mO my,mO mA,mO mB,mO mC⟩,rfl⟩
    ·intro L a' W' hI hLj hE K' hK
     obtain⟨V,rfl,⟨mq,mr,mD,mE,mF,mH,mK,mQ,mT,mU,mt,mu,mw,mx,my,mA,mB,mC⟩,rfl⟩:=hI
     have lZ:=mD (hE ⟨2,.data⟩ (by simp) rfl)
     rw[lZ]
     go_simp
     exact hK.out _ _ ⟨fun m9=>if m9=3 then .int .i64 m else V m9,(by simp[Act.put,lZ]),⟨mO mq,mO mr,mO mD,fun _=>rfl,mO mF,mO mH,mO mK,mO mQ,mO mT,mO mU,mO mt,mO mu,mO mw,mO mx,mO my,mO mA,mO mB,mO mC⟩,rfl⟩
    ·intro L a' W' hI hLj hE K' hK
     obtain⟨V,rfl,⟨mq,mr,mD,mE,mF,mH,mK,mQ,mT,mU,mt,mu,mw,mx,my,mA,mB,mC⟩,rfl⟩:=hI
     go_simp
     exact hK.out _ _ ⟨fun m9=>if m9=4 then .pointer (some ⟨(ak x).1,0,none⟩)else V m9,rfl,⟨mO mq,mO mr,mO mD,mO mE,fun _=>rfl,mO mH,mO mK,mO mQ,mO mT,mO mU,mO mt,mO mu,mO mw,mO mx,mO my,mO mA,mO mB,mO mC⟩,rfl⟩
    ·intro L a' W' hI hLj hE K' hK
     obtain⟨V,rfl,⟨mq,mr,mD,mE,mF,mH,mK,mQ,mT,mU,mt,mu,mw,mx,my,mA,mB,mC⟩,rfl⟩:=hI
     have mc:=mF (hE ⟨4,.data⟩ (by simp) rfl)
     rw[mc]
     go_simp
     exact hK.out _ _ ⟨fun m9=>if m9=5 then .pointer (some ⟨(ak x).1,0,none⟩)else V m9,(by simp[Act.put,mc]),⟨mO mq,mO mr,mO mD,mO mE,mO mF,fun _=>rfl,mO mK,mO mQ,mO mT,mO mU,mO mt,mO mu,mO mw,mO mx,mO my,mO mA,mO mB,mO mC⟩,rfl⟩
    ·intro L a' W' hI hLj hE K' hK
     obtain⟨V,rfl,⟨mq,mr,mD,mE,mF,mH,mK,mQ,mT,mU,mt,mu,mw,mx,my,mA,mB,mC⟩,rfl⟩:=hI
     have me:=mH (hE ⟨5,.data⟩ (by simp) rfl)
     rw[me]
     go_simp
     exact hK.out _ _ ⟨fun m9=>if m9=6 then .pointer (some ⟨(ak x).1,1,none⟩)else V m9,(by simp[Act.put,me]),⟨mO mq,mO mr,mO mD,mO mE,mO mF,mO mH,fun _=>rfl,mO mQ,mO mT,mO mU,mO mt,mO mu,mO mw,mO mx,mO my,mO mA,mO mB,mO mC⟩,rfl⟩
    ·intro L a' W' hI hLj hE K' hK
     obtain⟨V,rfl,⟨mq,mr,mD,mE,mF,mH,mK,mQ,mT,mU,mt,mu,mw,mx,my,mA,mB,mC⟩,rfl⟩:=hI
     have mf:=mK (hE ⟨6,.data⟩ (by simp) rfl)
     rw[mf]
     go_simp
     exact hK.out _ _ ⟨fun m9=>if m9=7 then .pointer (some ⟨(ak x).1,2,none⟩)else V m9,(by simp[Act.put,mf]),⟨mO mq,mO mr,mO mD,mO mE,mO mF,mO mH,mO mK,fun _=>rfl,mO mT,mO mU,mO mt,mO mu,mO mw,mO mx,mO my,mO mA,mO mB,mO mC⟩,rfl⟩
    ·intro L a' W' hI hLj hE K' hK
     obtain⟨V,rfl,⟨mq,mr,mD,mE,mF,mH,mK,mQ,mT,mU,mt,mu,mw,mx,my,mA,mB,mC⟩,rfl⟩:=hI
     have mg:=mQ (hE ⟨7,.data⟩ (by simp) rfl)
     rw[mg]
     go_simp
     exact hK.out _ _ ⟨fun m9=>if m9=8 then .int .i64 pen else V m9,(by simp[Act.put,mg]),⟨mO mq,mO mr,mO mD,mO mE,mO mF,mO mH,mO mK,mO mQ,fun _=>rfl,mO mU,mO mt,mO mu,mO mw,mO mx,mO my,mO mA,mO mB,mO mC⟩,rfl⟩
    ·intro L a' W' hI hLj hE K' hK
     obtain⟨V,rfl,⟨mq,mr,mD,mE,mF,mH,mK,mQ,mT,mU,mt,mu,mw,mx,my,mA,mB,mC⟩,rfl⟩:=hI
     have ma:=mE (hE ⟨3,.data⟩ (by simp) rfl)
     have mh:=mT (hE ⟨8,.data⟩ (by simp) rfl)
     rw[ma]
     rw[mh]
     go_simp
     exact hK.out _ _ ⟨fun m9=>if m9=9 then .bool true else V m9,(by simp[Act.put,ma,mh]),⟨mO mq,mO mr,mO mD,mO mE,mO mF,mO mH,mO mK,mO mQ,mO mT,fun _=>rfl,mO mt,mO mu,mO mw,mO mx,mO my,mO mA,mO mB,mO mC⟩,rfl⟩
    ·intro L a' W' hI hLj hE K' hK
     obtain⟨V,rfl,⟨mq,mr,mD,mE,mF,mH,mK,mQ,mT,mU,mt,mu,mw,mx,my,mA,mB,mC⟩,rfl⟩:=hI
     have mi:=mU (hE ⟨9,.data⟩ (by simp) rfl)
     rw[mi]
     go_simp
     exact hK.out _ _ ⟨fun m9=>if m9=10 then .bool true else V m9,(by simp[Act.put,mi]),⟨mO mq,mO mr,mO mD,mO mE,mO mF,mO mH,mO mK,mO mQ,mO mT,mO mU,fun _=>rfl,mO mu,mO mw,mO mx,mO my,mO mA,mO mB,mO mC⟩,rfl⟩
    ·intro L a' W' hI hLj hE K' hK
     obtain⟨V,rfl,⟨mq,mr,mD,mE,mF,mH,mK,mQ,mT,mU,mt,mu,mw,mx,my,mA,mB,mC⟩,rfl⟩:=hI
     have lS:=mt (hE ⟨10,.guard⟩ (by simp) rfl)
     rw[lS]
     rw[show Region.wanted _ _=true from rfl]
     go_simp
     exact hK.out _ _ ⟨fun m9=>if m9=11 then .pointer (some ⟨(ak x).1,0,none⟩)else V m9,(by simp[Act.put,lS]),⟨mO mq,mO mr,mO mD,mO mE,mO mF,mO mH,mO mK,mO mQ,mO mT,mO mU,mO mt,fun _=>rfl,mO mw,mO mx,mO my,mO mA,mO mB,mO mC⟩,rfl⟩
    ·intro L a' W' hI hLj hE K' hK
     obtain⟨V,rfl,⟨mq,mr,mD,mE,mF,mH,mK,mQ,mT,mU,mt,mu,mw,mx,my,mA,mB,mC⟩,rfl⟩:=hI
     have lT:=mu (hE ⟨11,.data⟩ (by simp) rfl)
     have lS:=mt (hE ⟨10,.guard⟩ (by simp) rfl)
     rw[lT]
     rw[lS]
     rw[show Region.wanted _ _=true from rfl]
     go_simp
     exact hK.out _ _ ⟨fun m9=>if m9=12 then .pointer (some ⟨(ak x).1,0,none⟩)else V m9,(by simp[Act.put,lT,lS]),⟨mO mq,mO mr,mO mD,mO mE,mO mF,mO mH,mO mK,mO mQ,mO mT,mO mU,mO mt,mO mu,fun _=>rfl,mO mx,mO my,mO mA,mO mB,mO mC⟩,rfl⟩
    ·intro L a' W' hI hLj hE K' hK
     obtain⟨V,rfl,⟨mq,mr,mD,mE,mF,mH,mK,mQ,mT,mU,mt,mu,mw,mx,my,mA,mB,mC⟩,rfl⟩:=hI
     have lU:=mw (hE ⟨12,.data⟩ (by simp) rfl)
     have lS:=mt (hE ⟨10,.guard⟩ (by simp) rfl)
     rw[lU]
     rw[lS]
     rw[show Region.wanted _ _=true from rfl]
     go_simp
     exact hK.out _ _ ⟨fun m9=>if m9=13 then .pointer (some ⟨(ak x).1,7,none⟩)else V m9,(by simp[Act.put,lU,lS]),⟨mO mq,mO mr,mO mD,mO mE,mO mF,mO mH,mO mK,mO mQ,mO mT,mO mU,mO mt,mO mu,mO mw,fun _=>rfl,mO my,mO mA,mO mB,mO mC⟩,rfl⟩
    ·intro L a' W' hI hLj hE K' hK
     obtain⟨V,rfl,⟨mq,mr,mD,mE,mF,mH,mK,mQ,mT,mU,mt,mu,mw,mx,my,mA,mB,mC⟩,rfl⟩:=hI
     have lV:=mx (hE ⟨13,.data⟩ (by simp) rfl)
     have lS:=mt (hE ⟨10,.guard⟩ (by simp) rfl)
     rw[lV]
     rw[lS]
     rw[show Region.wanted _ _=true from rfl]
     go_simp
     exact hK.out _ _ ⟨fun m9=>if m9=14 then .pointer (some ⟨(ak x).1,7,none⟩)else V m9,(by simp[Act.put,lV,lS]),⟨mO mq,mO mr,mO mD,mO mE,mO mF,mO mH,mO mK,mO mQ,mO mT,mO mU,mO mt,mO mu,mO mw,mO mx,fun _=>rfl,mO mA,mO mB,mO mC⟩,rfl⟩
    ·intro L a' W' hI hLj hE K' hK
     obtain⟨V,rfl,⟨mq,mr,mD,mE,mF,mH,mK,mQ,mT,mU,mt,mu,mw,mx,my,mA,mB,mC⟩,rfl⟩:=hI
     have lW:=my (hE ⟨14,.data⟩ (by simp) rfl)
     have lS:=mt (hE ⟨10,.guard⟩ (by simp) rfl)
     rw[lW]
     rw[lS]
     rw[show Region.wanted _ _=true from rfl]
     go_simp
     exact hK.out _ _ ⟨fun m9=>if m9=15 then .int .i64 fn else V m9,(by simp[Act.put,lW,lS]),⟨mO mq,mO mr,mO mD,mO mE,mO mF,mO mH,mO mK,mO mQ,mO mT,mO mU,mO mt,mO mu,mO mw,mO mx,mO my,fun _=>rfl,mO mB,mO mC⟩,rfl⟩
    ·intro L a' W' hI hLj hE K' hK
     obtain⟨V,rfl,⟨mq,mr,mD,mE,mF,mH,mK,mQ,mT,mU,mt,mu,mw,mx,my,mA,mB,mC⟩,rfl⟩:=hI
     have lX:=mA (hE ⟨15,.data⟩ (by simp) rfl)
     have lS:=mt (hE ⟨10,.guard⟩ (by simp) rfl)
     rw[lX]
     rw[lS]
     rw[show Region.wanted _ _=true from rfl]
     go_simp
     exact hK.out _ _ ⟨fun m9=>if m9=16 then .bool true else V m9,(by simp[Act.put,lX,lS]),⟨mO mq,mO mr,mO mD,mO mE,mO mF,mO mH,mO mK,mO mQ,mO mT,mO mU,mO mt,mO mu,mO mw,mO mx,mO my,mO mA,fun _=>rfl,mO mC⟩,rfl⟩
    ·intro L a' W' hI hLj hE K' hK
     obtain⟨V,rfl,⟨mq,mr,mD,mE,mF,mH,mK,mQ,mT,mU,mt,mu,mw,mx,my,mA,mB,mC⟩,rfl⟩:=hI
     have lS:=mt (hE ⟨10,.data⟩ (by simp) rfl)
     have lY:=mB (hE ⟨16,.data⟩ (by simp) rfl)
     rw[lS]
     rw[lY]
     go_simp
     exact hK.out _ _ ⟨fun m9=>if m9=17 then .bool true else V m9,(by simp[Act.put,lS,lY]),⟨mO mq,mO mr,mO mD,mO mE,mO mF,mO mH,mO mK,mO mQ,mO mT,mO mU,mO mt,mO mu,mO mw,mO mx,mO my,mO mA,mO mB,fun _=>rfl⟩,rfl⟩
   intro L a' W' hI hall
   obtain⟨V,rfl,⟨mq,mr,mD,mE,mF,mH,mK,mQ,mT,mU,mt,mu,mw,mx,my,mA,mB,mC⟩,rfl⟩:=hI
   have lQ:=mq (hall 0 (by decide))
   have lR:=mr (hall 1 (by decide))
   have lZ:=mD (hall 2 (by decide))
   have ma:=mE (hall 3 (by decide))
   have mc:=mF (hall 4 (by decide))
   have me:=mH (hall 5 (by decide))
   have mf:=mK (hall 6 (by decide))
   have mg:=mQ (hall 7 (by decide))
   have mh:=mT (hall 8 (by decide))
   have mi:=mU (hall 9 (by decide))
   have lS:=mt (hall 10 (by decide))
   have lT:=mu (hall 11 (by decide))
   have lU:=mw (hall 12 (by decide))
   have lV:=mx (hall 13 (by decide))
   have lW:=my (hall 14 (by decide))
   have lX:=mA (hall 15 (by decide))
   have lY:=mB (hall 16 (by decide))
   have ev17:=mC (hall 17 (by decide))
   rw[lQ,lR,lZ,ma,mc,me,mf,mg,mh,mi,lS,lT,lU,lV,lW,lX,lY,ev17]
   clear lQ mq lR mr lZ mD ma mE mc mF me mH mf mK mg mQ mh mT mi mU lS mt lT mu lU mw lV mx lW my lX mA lY mB ev17 mC hall
   gi_wp2
   refine bM (oc) (oc) (fun L a' W'=>(L 16=false∧(fun L a' W'=>∃V:Nat→Value,a'=({tmps:=#[.pointer (some ⟨Bo,0,none⟩),.pointer (some ⟨w.heap.size,0,none⟩),undef,.pointer (some ⟨(ak x).1,0,none⟩),.pointer (some ⟨Bo,0,none⟩),.pointer (some ⟨Bo,0,none⟩),.pointer (some ⟨Bo,11,none⟩),.map (some mb),(.func (.func 83) #[] #[.pointer (some ⟨w.heap.size+1,0,none⟩)]),.agg #[.int .i64 x.1.1.1,.int .i64 x.1.1.2.1,.int .i64 x.1.1.2.2],.pointer (some ⟨(ak x).1,0,none⟩),.pointer (some ⟨Bo,0,none⟩),.pointer (some ⟨Bo,0,none⟩),.pointer (some ⟨Bo,10,none⟩),.int .i64 m,.pointer (some ⟨(ak x).1,0,none⟩),.pointer (some ⟨(ak x).1,0,none⟩),.pointer (some ⟨(ak x).1,1,none⟩),.pointer (some ⟨(ak x).1,2,none⟩),.int .i64 pen,.bool true,.bool true,.pointer (some ⟨(ak x).1,0,none⟩),.pointer (some ⟨(ak x).1,0,none⟩),.pointer (some ⟨(ak x).1,7,none⟩),.pointer (some ⟨(ak x).1,7,none⟩),.int .i64 fn,.bool true,.bool true,V 0,V 1,V 2,V 3,V 4,V 5,V 6,V 7,V 8,V 9,V 10,V 11,V 12,V 13,V 14,V 15],defers:=[]}:Act)∧((L 0=true→V 0= .pointer (some ⟨Bo,0,none⟩))∧(L 1=true→V 1= .pointer (some ⟨Bo,0,none⟩))∧(L 2=true→V 2= .pointer (some ⟨Bo,0,none⟩))∧(L 3=true→V 3= .pointer (some ⟨Bo,12,none⟩))∧(L 4=true→V 4=pv)∧(L 5=true→V 5= .pointer (some ⟨(ak x).1,0,none⟩))∧(L 6=true→V 6= .pointer (some ⟨Bo,0,none⟩))∧(L 7=true→V 7= .pointer (some ⟨Bo,0,none⟩))∧(L 8=true→V 8= .pointer (some ⟨Bo,0,none⟩))∧(L 9=true→V 9= .pointer (some ⟨Bo,7,none⟩))∧(L 10=true→V 10= .bool b)∧(L 11=true→V 11= .agg #[.int .i64 pky,.int .i64 pst,.int .i64 pen,.int .i64 ptd,.int .i64 pkd,.int .i64 pn,.int .i64 psu,.int .i64 ple,.int .i64 pmo])∧(L 14=true→V 14= .pointer (some ⟨Bo,0,none⟩))∧(L 15=true→V 15= .pointer (some ⟨Bo,12,none⟩)))∧W'.heap[Bo]? =some (.cells #[.int .i64 s,.int .i64 t,.int .i64 k,.int .i64 z,.int .i64 q,.int .i64 l,.int .i64 e,.bool b,.int .i64 v,.int .i64 r,.int .i64 m,.map (some (mb)),pv,lv] 75 (0,0))∧W'.heap[w.heap.size]? =some (.cells #[.pointer (some ⟨Bo,0,none⟩)] 69 (0,0))∧(L 11=false→W'=W.drew.drew)∧(L 11=true→L 12=false→Hid (ew W' (ak x).1 (cT (⟨pky,pst,pen,an,asu,ale,amo,fn,fsu,fle,fmo,ptd,tm⟩:aC))∧W.drew.drew.grownBy W' (some (ak x).1)))∧(L 12=true→L 13=false→Hid (∃Wt,(ew Wt (ak x).1 (cT (⟨pky,pst,pen,an,asu,ale,amo,fn,fsu,fle,fmo,ptd,tm⟩:aC))∧W.drew.drew.grownBy Wt (some (ak x).1))∧W'=Wt.alloc (.cells #[.int .i64 pky,.int .i64 pst,.int .i64 pen,.int .i64 ptd,.int .i64 pkd,.int .i64 pn,.int .i64 psu,.int .i64 ple,.int .i64 pmo] 52)∧V 12= .slice (some ⟨Wt.heap.size,0,none⟩) 1 1))∧(L 12=true→L 11=true)∧(L 13=true→L 12=true)∧(L 13=true→Hid (∃Wt,(ew Wt (ak x).1 (cT (⟨pky,pst,pen,an,asu,ale,amo,fn,fsu,fle,fmo,ptd,tm⟩:aC))∧W.drew.drew.grownBy Wt (some (ak x).1))∧(Wt.alloc (.cells #[.int .i64 pky,.int .i64 pst,.int .i64 pen,.int .i64 ptd,.int .i64 pkd,.int .i64 pn,.int .i64 psu,.int .i64 ple,.int .i64 pmo] 52)).grownBy W' pv.ownBlock∧W'.ownsRow B 52 9 (V 13) (qs.length+1) (bs qs++[.int .i64 pky,.int .i64 pst,.int .i64 pen,.int .i64 ptd,.int .i64 pkd,.int .i64 pn,.int .i64 psu,.int .i64 ple,.int .i64 pmo])))∧(L 15=true→L 14=true)) L a' W')∨((∀j9,j9<16→L j9=true)∧L 16=true∧KeepsFrom (((w.alloc (.cells #[.pointer (some ⟨Bo,0,none⟩)] 69)).alloc (.cells #[.map (some mb)] 73))).heap.size W W'∧gB W W'∧GaI w B Bo mb nn s t k z q l e b v r m ps lv (es:=es) (pre++[x]) W')) ?_ ?_ ?_
   ·exact Or.inl ⟨rfl,fun _=>undef,rfl,⟨(fun h9=>(by cases h9)),(fun h9=>(by cases h9)),(fun h9=>(by cases h9)),(fun h9=>(by cases h9)),(fun h9=>(by cases h9)),(fun h9=>(by cases h9)),(fun h9=>(by cases h9)),(fun h9=>(by cases h9)),(fun h9=>(by cases h9)),(fun h9=>(by cases h9)),(fun h9=>(by cases h9)),(fun h9=>(by cases h9)),(fun h9=>(by cases h9)),(fun h9=>(by cases h9))⟩,bO,bP,fun _=>rfl,fun h9=>(by cases h9),fun h9=>(by cases h9),fun h9=>(by cases h9),fun h9=>(by cases h9),fun h9=>(by cases h9),fun h9=>(by cases h9)⟩
   ·refine⟨?_,?_,?_,?_,?_,?_,?_,?_,?_,?_,?_,?_,?_,?_,?_,?_,?_,trivial⟩
    ·intro L a' W' hI hLj hE K' hK
     rcases hI with⟨h16,hI⟩|⟨hall,_⟩
     case inr=>have h9:=hall 0 (by omega);rw[hLj]at h9;cases h9
     obtain⟨V,rfl,⟨mq,mr,mD,mE,mF,mH,mK,mQ,mT,mU,mt,mu,my,mA⟩,bO,bP,hw0,hw1,hw2,hd1,hd2,hw3,hd3⟩:=hI
     have k0:W'.cell? ⟨w.heap.size,0,none⟩=some (.pointer (some ⟨Bo,0,none⟩)):=cA bP 0
     go_simp
     exact hK.out _ _ (Or.inl ⟨by simpa[more]using h16,fun m9=>if m9=0 then .pointer (some ⟨Bo,0,none⟩)else V m9,rfl,⟨fun _=>rfl,mO mr,mO mD,mO mE,mO mF,mO mH,mO mK,mO mQ,mO mT,mO mU,mO mt,mO mu,mO my,mO mA⟩,bO,bP,mO hw0,fun h9 h8=>hw1 (mP h9) (mP h8),fun h9 h8=>hw2 (mP h9) (mP h8),fun h9=>by have:=hd1 (mP h9);simp[more,this],fun h9=>by have:=hd2 (mP h9);simp[more,this],mO hw3,fun h9=>by have:=hd3 (mP h9);simp[more,this]⟩)
    ·intro L a' W' hI hLj hE K' hK
     rcases hI with⟨h16,hI⟩|⟨hall,_⟩
     case inr=>have h9:=hall 1 (by omega);rw[hLj]at h9;cases h9
     obtain⟨V,rfl,⟨mq,mr,mD,mE,mF,mH,mK,mQ,mT,mU,mt,mu,my,mA⟩,bO,bP,hw0,hw1,hw2,hd1,hd2,hw3,hd3⟩:=hI
     have k0:W'.cell? ⟨w.heap.size,0,none⟩=some (.pointer (some ⟨Bo,0,none⟩)):=cA bP 0
     go_simp
     exact hK.out _ _ (Or.inl ⟨by simpa[more]using h16,fun m9=>if m9=1 then .pointer (some ⟨Bo,0,none⟩)else V m9,rfl,⟨mO mq,fun _=>rfl,mO mD,mO mE,mO mF,mO mH,mO mK,mO mQ,mO mT,mO mU,mO mt,mO mu,mO my,mO mA⟩,bO,bP,mO hw0,fun h9 h8=>hw1 (mP h9) (mP h8),fun h9 h8=>hw2 (mP h9) (mP h8),fun h9=>by have:=hd1 (mP h9);simp[more,this],fun h9=>by have:=hd2 (mP h9);simp[more,this],mO hw3,fun h9=>by have:=hd3 (mP h9);simp[more,this]⟩)
    ·intro L a' W' hI hLj hE K' hK
     rcases hI with⟨h16,hI⟩|⟨hall,_⟩
     case inr=>have h9:=hall 2 (by omega);rw[hLj]at h9;cases h9
     obtain⟨V,rfl,⟨mq,mr,mD,mE,mF,mH,mK,mQ,mT,mU,mt,mu,my,mA⟩,bO,bP,hw0,hw1,hw2,hd1,hd2,hw3,hd3⟩:=hI
     have el1:=hE ⟨1,.data⟩ (by simp) rfl
     have lR:=mr el1
     rw[lR]
     go_simp
     exact hK.out _ _ (Or.inl ⟨by simpa[more]using h16,fun m9=>if m9=2 then .pointer (some ⟨Bo,0,none⟩)else V m9,(by simp[lR]),⟨mO mq,mO mr,fun _=>rfl,mO mE,mO mF,mO mH,mO mK,mO mQ,mO mT,mO mU,mO mt,mO mu,mO my,mO mA⟩,bO,bP,mO hw0,fun h9 h8=>hw1 (mP h9) (mP h8),fun h9 h8=>hw2 (mP h9) (mP h8),fun h9=>by have:=hd1 (mP h9);simp[more,this],fun h9=>by have:=hd2 (mP h9);simp[more,this],mO hw3,fun h9=>by have:=hd3 (mP h9);simp[more,this]⟩)
    ·intro L a' W' hI hLj hE K' hK
     rcases hI with⟨h16,hI⟩|⟨hall,_⟩
     case inr=>have h9:=hall 3 (by omega);rw[hLj]at h9;cases h9
     obtain⟨V,rfl,⟨mq,mr,mD,mE,mF,mH,mK,mQ,mT,mU,mt,mu,my,mA⟩,bO,bP,hw0,hw1,hw2,hd1,hd2,hw3,hd3⟩:=hI
     have el2:=hE ⟨2,.data⟩ (by simp) rfl
     have lZ:=mD el2
     rw[lZ]
     go_simp
     exact hK.out _ _ (Or.inl ⟨by simpa[more]using h16,fun m9=>if m9=3 then .pointer (some ⟨Bo,12,none⟩)else V m9,(by simp[lZ]),⟨mO mq,mO mr,mO mD,fun _=>rfl,mO mF,mO mH,mO mK,mO mQ,mO mT,mO mU,mO mt,mO mu,mO my,mO mA⟩,bO,bP,mO hw0,fun h9 h8=>hw1 (mP h9) (mP h8),fun h9 h8=>hw2 (mP h9) (mP h8),fun h9=>by have:=hd1 (mP h9);simp[more,this],fun h9=>by have:=hd2 (mP h9);simp[more,this],mO hw3,fun h9=>by have:=hd3 (mP h9);simp[more,this]⟩)
    ·intro L a' W' hI hLj hE K' hK
     rcases hI with⟨h16,hI⟩|⟨hall,_⟩
     case inr=>have h9:=hall 4 (by omega);rw[hLj]at h9;cases h9
     obtain⟨V,rfl,⟨mq,mr,mD,mE,mF,mH,mK,mQ,mT,mU,mt,mu,my,mA⟩,bO,bP,hw0,hw1,hw2,hd1,hd2,hw3,hd3⟩:=hI
     have el3:=hE ⟨3,.data⟩ (by simp) rfl
     have ma:=mE el3
     have k0:W'.cell? ⟨Bo,12,none⟩=some pv:=cA bO 12
     rw[ma]
     go_simp
     exact hK.out _ _ (Or.inl ⟨by simpa[more]using h16,fun m9=>if m9=4 then pv else V m9,(by simp[ma]),⟨mO mq,mO mr,mO mD,mO mE,fun _=>rfl,mO mH,mO mK,mO mQ,mO mT,mO mU,mO mt,mO mu,mO my,mO mA⟩,bO,bP,mO hw0,fun h9 h8=>hw1 (mP h9) (mP h8),fun h9 h8=>hw2 (mP h9) (mP h8),fun h9=>by have:=hd1 (mP h9);simp[more,this],fun h9=>by have:=hd2 (mP h9);simp[more,this],mO hw3,fun h9=>by have:=hd3 (mP h9);simp[more,this]⟩)
    ·intro L a' W' hI hLj hE K' hK
     rcases hI with⟨h16,hI⟩|⟨hall,_⟩
     case inr=>have h9:=hall 5 (by omega);rw[hLj]at h9;cases h9
     obtain⟨V,rfl,⟨mq,mr,mD,mE,mF,mH,mK,mQ,mT,mU,mt,mu,my,mA⟩,bO,bP,hw0,hw1,hw2,hd1,hd2,hw3,hd3⟩:=hI
     go_simp
     exact hK.out _ _ (Or.inl ⟨by simpa[more]using h16,fun m9=>if m9=5 then .pointer (some ⟨(ak x).1,0,none⟩)else V m9,rfl,⟨mO mq,mO mr,mO mD,mO mE,mO mF,fun _=>rfl,mO mK,mO mQ,mO mT,mO mU,mO mt,mO mu,mO my,mO mA⟩,bO,bP,mO hw0,fun h9 h8=>hw1 (mP h9) (mP h8),fun h9 h8=>hw2 (mP h9) (mP h8),fun h9=>by have:=hd1 (mP h9);simp[more,this],fun h9=>by have:=hd2 (mP h9);simp[more,this],mO hw3,fun h9=>by have:=hd3 (mP h9);simp[more,this]⟩)
    ·intro L a' W' hI hLj hE K' hK
     rcases hI with⟨h16,hI⟩|⟨hall,_⟩
     case inr=>have h9:=hall 6 (by omega);rw[hLj]at h9;cases h9
     obtain⟨V,rfl,⟨mq,mr,mD,mE,mF,mH,mK,mQ,mT,mU,mt,mu,my,mA⟩,bO,bP,hw0,hw1,hw2,hd1,hd2,hw3,hd3⟩:=hI
     have k0:W'.cell? ⟨w.heap.size,0,none⟩=some (.pointer (some ⟨Bo,0,none⟩)):=cA bP 0
     go_simp
     exact hK.out _ _ (Or.inl ⟨by simpa[more]using h16,fun m9=>if m9=6 then .pointer (some ⟨Bo,0,none⟩)else V m9,rfl,⟨mO mq,mO mr,mO mD,mO mE,mO mF,mO mH,fun _=>rfl,mO mQ,mO mT,mO mU,mO mt,mO mu,mO my,mO mA⟩,bO,bP,mO hw0,fun h9 h8=>hw1 (mP h9) (mP h8),fun h9 h8=>hw2 (mP h9) (mP h8),fun h9=>by have:=hd1 (mP h9);simp[more,this],fun h9=>by have:=hd2 (mP h9);simp[more,this],mO hw3,fun h9=>by have:=hd3 (mP h9);simp[more,this]⟩)
    ·intro L a' W' hI hLj hE K' hK
     rcases hI with⟨h16,hI⟩|⟨hall,_⟩
     case inr=>have h9:=hall 7 (by omega);rw[hLj]at h9;cases h9
     obtain⟨V,rfl,⟨mq,mr,mD,mE,mF,mH,mK,mQ,mT,mU,mt,mu,my,mA⟩,bO,bP,hw0,hw1,hw2,hd1,hd2,hw3,hd3⟩:=hI
     have el6:=hE ⟨6,.data⟩ (by simp) rfl
     have mf:=mK el6
     rw[mf]
     go_simp
     exact hK.out _ _ (Or.inl ⟨by simpa[more]using h16,fun m9=>if m9=7 then .pointer (some ⟨Bo,0,none⟩)else V m9,(by simp[mf]),⟨mO mq,mO mr,mO mD,mO mE,mO mF,mO mH,mO mK,fun _=>rfl,mO mT,mO mU,mO mt,mO mu,mO my,mO mA⟩,bO,bP,mO hw0,fun h9 h8=>hw1 (mP h9) (mP h8),fun h9 h8=>hw2 (mP h9) (mP h8),fun h9=>by have:=hd1 (mP h9);simp[more,this],fun h9=>by have:=hd2 (mP h9);simp[more,this],mO hw3,fun h9=>by have:=hd3 (mP h9);simp[more,this]⟩)
    ·intro L a' W' hI hLj hE K' hK
     rcases hI with⟨h16,hI⟩|⟨hall,_⟩
     case inr=>have h9:=hall 8 (by omega);rw[hLj]at h9;cases h9
     obtain⟨V,rfl,⟨mq,mr,mD,mE,mF,mH,mK,mQ,mT,mU,mt,mu,my,mA⟩,bO,bP,hw0,hw1,hw2,hd1,hd2,hw3,hd3⟩:=hI
     have el7:=hE ⟨7,.data⟩ (by simp) rfl
     have mg:=mQ el7
     rw[mg]
     go_simp
     exact hK.out _ _ (Or.inl ⟨by simpa[more]using h16,fun m9=>if m9=8 then .pointer (some ⟨Bo,0,none⟩)else V m9,(by simp[mg]),⟨mO mq,mO mr,mO mD,mO mE,mO mF,mO mH,mO mK,mO mQ,fun _=>rfl,mO mU,mO mt,mO mu,mO my,mO mA⟩,bO,bP,mO hw0,fun h9 h8=>hw1 (mP h9) (mP h8),fun h9 h8=>hw2 (mP h9) (mP h8),fun h9=>by have:=hd1 (mP h9);simp[more,this],fun h9=>by have:=hd2 (mP h9);simp[more,this],mO hw3,fun h9=>by have:=hd3 (mP h9);simp[more,this]⟩)
    ·intro L a' W' hI hLj hE K' hK
     rcases hI with⟨h16,hI⟩|⟨hall,_⟩
     case inr=>have h9:=hall 9 (by omega);rw[hLj]at h9;cases h9
     obtain⟨V,rfl,⟨mq,mr,mD,mE,mF,mH,mK,mQ,mT,mU,mt,mu,my,mA⟩,bO,bP,hw0,hw1,hw2,hd1,hd2,hw3,hd3⟩:=hI
     have el8:=hE ⟨8,.data⟩ (by simp) rfl
     have mh:=mT el8
     rw[mh]
     go_simp
     exact hK.out _ _ (Or.inl ⟨by simpa[more]using h16,fun m9=>if m9=9 then .pointer (some ⟨Bo,7,none⟩)else V m9,(by simp[mh]),⟨mO mq,mO mr,mO mD,mO mE,mO mF,mO mH,mO mK,mO mQ,mO mT,fun _=>rfl,mO mt,mO mu,mO my,mO mA⟩,bO,bP,mO hw0,fun h9 h8=>hw1 (mP h9) (mP h8),fun h9 h8=>hw2 (mP h9) (mP h8),fun h9=>by have:=hd1 (mP h9);simp[more,this],fun h9=>by have:=hd2 (mP h9);simp[more,this],mO hw3,fun h9=>by have:=hd3 (mP h9);simp[more,this]⟩)
    ·intro L a' W' hI hLj hE K' hK
     rcases hI with⟨h16,hI⟩|⟨hall,_⟩
     case inr=>have h9:=hall 10 (by omega);rw[hLj]at h9;cases h9
     obtain⟨V,rfl,⟨mq,mr,mD,mE,mF,mH,mK,mQ,mT,mU,mt,mu,my,mA⟩,bO,bP,hw0,hw1,hw2,hd1,hd2,hw3,hd3⟩:=hI
     have el9:=hE ⟨9,.data⟩ (by simp) rfl
     have mi:=mU el9
     have k0:W'.cell? ⟨Bo,7,none⟩=some (.bool b):=cA bO 7
     rw[mi]
     go_simp
     exact hK.out _ _ (Or.inl ⟨by simpa[more]using h16,fun m9=>if m9=10 then .bool b else V m9,(by simp[mi]),⟨mO mq,mO mr,mO mD,mO mE,mO mF,mO mH,mO mK,mO mQ,mO mT,mO mU,fun _=>rfl,mO mu,mO my,mO mA⟩,bO,bP,mO hw0,fun h9 h8=>hw1 (mP h9) (mP h8),fun h9 h8=>hw2 (mP h9) (mP h8),fun h9=>by have:=hd1 (mP h9);simp[more,this],fun h9=>by have:=hd2 (mP h9);simp[more,this],mO hw3,fun h9=>by have:=hd3 (mP h9);simp[more,this]⟩)
    ·intro L a' W' hI hLj hE K' hK
     rcases hI with⟨h16,hI⟩|⟨hall,_⟩
     case inr=>have h9:=hall 11 (by omega);rw[hLj]at h9;cases h9
     obtain⟨V,rfl,⟨mq,mr,mD,mE,mF,mH,mK,mQ,mT,mU,mt,mu,my,mA⟩,bO,bP,hw0,hw1,hw2,hd1,hd2,hw3,hd3⟩:=hI
     have el5:=hE ⟨5,.data⟩ (by simp) rfl
     have me:=mH el5
     have el10:=hE ⟨10,.data⟩ (by simp) rfl
     have lS:=mt el10
     rw[me]
     rw[lS]
     obtain rfl:=hw0 hLj
     have h12:L 12=false:=by
      cases h9:L 12 with
      |false=>rfl
      |true=>have:=hd1 h9;rw[hLj]at this;cases this
     have h13:L 13=false:=by
      cases h9:L 13 with
      |false=>rfl
      |true=>have:=hd2 h9;rw[h12]at this;cases this
     go_simp
     (first|(gi_at_call 77)|(refine⟨trivial,?_⟩;gi_at_call 77)|(refine⟨trivial,fun _=>(by omega),?_⟩;gi_at_call 77))
     refine(callsIn_wide.2 (tell_is _ (⟨pky,pst,pen,an,asu,ale,amo,fn,fsu,fle,fmo,ptd,tm⟩:aC) b _ (ab HBx) htd Hpan)).mono ?_
     rintro e9 Wt ⟨rfl,hbt,hgt⟩
     (try gi_wp2_with fail)
     have bOt:=(hgt.block Bo (Array.getElem?_eq_some_iff.1 bO).1 (fun e9=>hneO (Option.some.inj e9))).trans bO
     have bPt:=(hgt.block (w.heap.size) (Array.getElem?_eq_some_iff.1 bP).1 (fun e9=>hneP (Option.some.inj e9))).trans bP
     exact hK.out _ _ (Or.inl ⟨by simpa[more]using h16,fun m9=>if m9=11 then .agg #[.int .i64 pky,.int .i64 pst,.int .i64 pen,.int .i64 ptd,.int .i64 pkd,.int .i64 pn,.int .i64 psu,.int .i64 ple,.int .i64 pmo]else V m9,(by simp[me,lS]),⟨mO mq,mO mr,mO mD,mO mE,mO mF,mO mH,mO mK,mO mQ,mO mT,mO mU,mO mt,fun _=>rfl,mO my,mO mA⟩,bOt,bPt,fun h9=>by simp[more]at h9,fun _ _=>ae ⟨hbt,hgt⟩,fun h9=>by simp[more,h12]at h9,fun h9=>by simp[more,h12]at h9,fun h9=>by simp[more,h13]at h9,fun h9=>by simp[more,h13]at h9,fun h9=>by have:=hd3 (mP h9);simp[more,this]⟩)
    ·intro L a' W' hI hLj hE K' hK
     rcases hI with⟨h16,hI⟩|⟨hall,_⟩
     case inr=>have h9:=hall 12 (by omega);rw[hLj]at h9;cases h9
     obtain⟨V,rfl,⟨mq,mr,mD,mE,mF,mH,mK,mQ,mT,mU,mt,mu,my,mA⟩,bO,bP,hw0,hw1,hw2,hd1,hd2,hw3,hd3⟩:=hI
     have el11:=hE ⟨11,.data⟩ (by simp) rfl
     have lT:=mu el11
     rw[lT]
     have hT:=ab (hw1 el11 hLj)
     have h13:L 13=false:=by
      cases h9:L 13 with
      |false=>rfl
      |true=>have:=hd2 h9;rw[hLj]at this;cases this
     go_simp
     have bOt:=(Below.heap_alloc W' (.cells #[.int .i64 pky,.int .i64 pst,.int .i64 pen,.int .i64 ptd,.int .i64 pkd,.int .i64 pn,.int .i64 psu,.int .i64 ple,.int .i64 pmo] 52) Bo (Array.getElem?_eq_some_iff.1 bO).1).trans bO
     have bPt:=(Below.heap_alloc W' (.cells #[.int .i64 pky,.int .i64 pst,.int .i64 pen,.int .i64 ptd,.int .i64 pkd,.int .i64 pn,.int .i64 psu,.int .i64 ple,.int .i64 pmo] 52) (w.heap.size) (Array.getElem?_eq_some_iff.1 bP).1).trans bP
     exact hK.out _ _ (Or.inl ⟨by simpa[more]using h16,fun m9=>if m9=12 then .slice (some ⟨W'.heap.size,0,none⟩) 1 1 else V m9,(by simp[lT]),⟨mO mq,mO mr,mO mD,mO mE,mO mF,mO mH,mO mK,mO mQ,mO mT,mO mU,mO mt,mO mu,mO my,mO mA⟩,bOt,bPt,fun h9=>by simp[more,el11]at h9,fun _ h8=>by simp[more]at h8,fun _ _=>ae ⟨W',hT,rfl,rfl⟩,fun h9=>by simp[more,el11],fun h9=>by simp[more,h13]at h9,fun h9=>by simp[more,h13]at h9,fun h9=>by have:=hd3 (mP h9);simp[more,this]⟩)
    ·intro L a' W' hI hLj hE K' hK
     rcases hI with⟨h16,hI⟩|⟨hall,_⟩
     case inr=>have h9:=hall 13 (by omega);rw[hLj]at h9;cases h9
     obtain⟨V,rfl,⟨mq,mr,mD,mE,mF,mH,mK,mQ,mT,mU,mt,mu,my,mA⟩,bO,bP,hw0,hw1,hw2,hd1,hd2,hw3,hd3⟩:=hI
     have el4:=hE ⟨4,.data⟩ (by simp) rfl
     have mc:=mF el4
     have el12:=hE ⟨12,.data⟩ (by simp) rfl
     obtain⟨Wt,hT,rfl,hV12⟩:=ab (hw2 el12 hLj)
     have hpt:Wt.ownsRow B 52 9 pv qs.length (bs qs):=dl (ab HPn) hT.2 (af (ab HPn) (ab HBx) (by decide))
     have zt:=hT.2.size
     refine gp rfl _ _ 32 rfl B 52 i0 _ 9 72 Tryz.underlying32 hi hz0' hz1' hz2' rfl (by decide) pv qs.length (bs qs) (show V 4=pv from mc) (World.ownsRow.alloc hpt _) ⟨Wt.heap.size,0,none⟩ 1 1 [.int .i64 pky,.int .i64 pst,.int .i64 pen,.int .i64 ptd,.int .i64 pkd,.int .i64 pn,.int .i64 psu,.int .i64 ple,.int .i64 pmo] (show V 12=_ from hV12) rfl (eM Wt _ _ _ _ _ _ _ _ _ _) (nT) (by unfold maxLen;omega) (by omega) (by have h9:W.heap.size≤Wt.heap.size:=hT.2.size;have h8:=hB.size;show B≤(Wt.alloc _).heap.size;rw[World.size_alloc];omega) ?_
     intro v' w' hown' ml _
     have hn1:pv.ownBlock≠some Bo:=af (World.ownsRow.alloc hpt (.cells #[.int .i64 pky,.int .i64 pst,.int .i64 pen,.int .i64 ptd,.int .i64 pkd,.int .i64 pn,.int .i64 psu,.int .i64 ple,.int .i64 pmo] 52)) bO (by decide)
     have hn2:pv.ownBlock≠some (w.heap.size):=af (World.ownsRow.alloc hpt (.cells #[.int .i64 pky,.int .i64 pst,.int .i64 pen,.int .i64 ptd,.int .i64 pkd,.int .i64 pn,.int .i64 psu,.int .i64 ple,.int .i64 pmo] 52)) bP (by decide)
     have bOt:=(ml.block Bo (Array.getElem?_eq_some_iff.1 bO).1 (fun e9=>hn1 e9.symm)).trans bO
     have bPt:=(ml.block (w.heap.size) (Array.getElem?_eq_some_iff.1 bP).1 (fun e9=>hn2 e9.symm)).trans bP
     exact hK.out _ _ (Or.inl ⟨by simpa[more]using h16,fun m9=>if m9=13 then v' else V m9,rfl,⟨mO mq,mO mr,mO mD,mO mE,mO mF,mO mH,mO mK,mO mQ,mO mT,mO mU,mO mt,mO mu,mO my,mO mA⟩,bOt,bPt,fun h9=>by simp[more,hd1 el12]at h9,fun _ h8=>by simp[more,el12]at h8,fun _ h8=>by simp[more]at h8,fun h9=>by simp[more,hd1 el12],fun h9=>by simp[more,el12],fun _=>ae ⟨Wt,hT,ml,hown'⟩,fun h9=>by have:=hd3 (mP h9);simp[more,this]⟩)
    ·intro L a' W' hI hLj hE K' hK
     rcases hI with⟨h16,hI⟩|⟨hall,_⟩
     case inr=>have h9:=hall 14 (by omega);rw[hLj]at h9;cases h9
     obtain⟨V,rfl,⟨mq,mr,mD,mE,mF,mH,mK,mQ,mT,mU,mt,mu,my,mA⟩,bO,bP,hw0,hw1,hw2,hd1,hd2,hw3,hd3⟩:=hI
     have el0:=hE ⟨0,.data⟩ (by simp) rfl
     have lQ:=mq el0
     rw[lQ]
     go_simp
     exact hK.out _ _ (Or.inl ⟨by simpa[more]using h16,fun m9=>if m9=14 then .pointer (some ⟨Bo,0,none⟩)else V m9,(by simp[lQ]),⟨mO mq,mO mr,mO mD,mO mE,mO mF,mO mH,mO mK,mO mQ,mO mT,mO mU,mO mt,mO mu,fun _=>rfl,mO mA⟩,bO,bP,mO hw0,fun h9 h8=>hw1 (mP h9) (mP h8),fun h9 h8=>hw2 (mP h9) (mP h8),fun h9=>by have:=hd1 (mP h9);simp[more,this],fun h9=>by have:=hd2 (mP h9);simp[more,this],mO hw3,fun h9=>by simp[more]⟩)
    ·intro L a' W' hI hLj hE K' hK
     rcases hI with⟨h16,hI⟩|⟨hall,_⟩
     case inr=>have h9:=hall 15 (by omega);rw[hLj]at h9;cases h9
     obtain⟨V,rfl,⟨mq,mr,mD,mE,mF,mH,mK,mQ,mT,mU,mt,mu,my,mA⟩,bO,bP,hw0,hw1,hw2,hd1,hd2,hw3,hd3⟩:=hI
     have el14:=hE ⟨14,.data⟩ (by simp) rfl
     have lW:=my el14
     rw[lW]
     go_simp
     exact hK.out _ _ (Or.inl ⟨by simpa[more]using h16,fun m9=>if m9=15 then .pointer (some ⟨Bo,12,none⟩)else V m9,(by simp[lW]),⟨mO mq,mO mr,mO mD,mO mE,mO mF,mO mH,mO mK,mO mQ,mO mT,mO mU,mO mt,mO mu,mO my,fun _=>rfl⟩,bO,bP,mO hw0,fun h9 h8=>hw1 (mP h9) (mP h8),fun h9 h8=>hw2 (mP h9) (mP h8),fun h9=>by have:=hd1 (mP h9);simp[more,this],fun h9=>by have:=hd2 (mP h9);simp[more,this],mO hw3,fun h9=>by simp[more,el14]⟩)
    ·intro L a' W' hI hLj hE K' hK
     rcases hI with⟨h16,hI⟩|⟨hall,h16,_⟩
     case inr=>rw[hLj]at h16;cases h16
     obtain⟨V,rfl,⟨mq,mr,mD,mE,mF,mH,mK,mQ,mT,mU,mt,mu,my,mA⟩,bO,bP,hw0,hw1,hw2,hd1,hd2,hw3,hd3⟩:=hI
     have el15:=hE ⟨15,.data⟩ (by simp) rfl
     have el13:=hE ⟨13,.data⟩ (by simp) rfl
     have hallL:∀j9,j9<16→L j9=true:=by
      have el14:=hd3 el15
      have el0:=hE ⟨0,.phase⟩ (by simp) rfl
      have el1:=hE ⟨1,.phase⟩ (by simp) rfl
      have el2:=hE ⟨2,.phase⟩ (by simp) rfl
      have el3:=hE ⟨3,.phase⟩ (by simp) rfl
      have el4:=hE ⟨4,.phase⟩ (by simp) rfl
      have el5:=hE ⟨5,.phase⟩ (by simp) rfl
      have el6:=hE ⟨6,.phase⟩ (by simp) rfl
      have el7:=hE ⟨7,.phase⟩ (by simp) rfl
      have el8:=hE ⟨8,.phase⟩ (by simp) rfl
      have el9:=hE ⟨9,.phase⟩ (by simp) rfl
      have el10:=hE ⟨10,.phase⟩ (by simp) rfl
      have el11:=hE ⟨11,.phase⟩ (by simp) rfl
      have el12:=hE ⟨12,.phase⟩ (by simp) rfl
      intro j9 hj9
      rcases(by omega:j9=0∨j9=1∨j9=2∨j9=3∨j9=4∨j9=5∨j9=6∨j9=7∨j9=8∨j9=9∨j9=10∨j9=11∨j9=12∨j9=13∨j9=14∨j9=15)with rfl|rfl|rfl|rfl|rfl|rfl|rfl|rfl|rfl|rfl|rfl|rfl|rfl|rfl|rfl|rfl<;>assumption
     have lX:=mA el15
     obtain⟨Wt,hT,ml,hown'⟩:=ab (hw3 el13)
     have hpt:Wt.ownsRow B 52 9 pv qs.length (bs qs):=dl (ab HPn) hT.2 (af (ab HPn) (ab HBx) (by decide))
     have k12:W'.cell? ⟨Bo,12,none⟩=some pv:=cA bO 12
     have f12:=cF bO 12
     rw[lX]
     obtain⟨v6,mK⟩:∃v6,V 13=v6:=⟨_,rfl⟩
     rw[mK]at hown' ⊢
     obtain⟨g6,c6,rfl⟩:=ownsRow_succ hown'
     go_simp
     refine hK.out _ _ ?_
     have hkp:gi W (W'.setCell ⟨Bo,12,none⟩ (.slice (some ⟨g6,0,none⟩) (qs.length+1) c6)):=(((gi.bel (ap (ap (Below.refl _ W)))).trans (gi.grown hT.2 (fun r9 e9=>⟨_,_,(by cases e9;exact ab HBx),by decide⟩))).trans ((gi.bel (aq Wt (.cells #[.int .i64 pky,.int .i64 pst,.int .i64 pen,.int .i64 ptd,.int .i64 pkd,.int .i64 pn,.int .i64 psu,.int .i64 ple,.int .i64 pmo] 52))).trans (gi.grown ml (fun r9 e9=>own_cellsP (World.ownsRow.alloc hpt _) r9 e9)))).trans (gi.set _ bO (by decide))
     have hbF:Below B w (W'.setCell ⟨Bo,12,none⟩ (.slice (some ⟨g6,0,none⟩) (qs.length+1) c6)):=by
      have q1:Below B w Wt:=(hB.drew.drew).grown hT.2 (by have:=hB.size;show B≤W.heap.size;omega) (fun k9 e9=>by cases e9;exact hge _ (dG x))
      have q2:Below B w (Wt.alloc (.cells #[.int .i64 pky,.int .i64 pst,.int .i64 pen,.int .i64 ptd,.int .i64 pkd,.int .i64 pn,.int .i64 psu,.int .i64 ple,.int .i64 pmo] 52)):=q1.alloc (by have:=q1.size;omega) _
      have q3:Below B w W':=q2.grown ml (by have:=q2.size;omega) (fun k9 e9=>aE (ab HPn) k9 e9)
      exact q3.setCell hBo _
     have hbox:∀e9 ∈ es,ew (W'.setCell ⟨Bo,12,none⟩ (.slice (some ⟨g6,0,none⟩) (qs.length+1) c6)) e9.1 (lH m b (pre++[x]) e9):=by
      intro e9 he9
      by_cases hg9:e9.1=(ak x).1
      ·have hee:e9=ak x:=nd_inj hnd he9 (dG x) hg9
       subst hee
       rw[gBx_hit (ab Htel)]
       have b9:=hT.1
       rw[ab Hy]at b9
       have b8:ew W' (ak x).1 (cT (ak x).2):=(ml.block _ (by have:=b9.lt;simp;omega) (fun e7=>af (World.ownsRow.alloc hpt (.cells #[.int .i64 pky,.int .i64 pst,.int .i64 pen,.int .i64 ptd,.int .i64 pkd,.int .i64 pn,.int .i64 psu,.int .i64 ple,.int .i64 pmo] 52)) ((Below.heap_alloc _ _ _ b9.lt).trans b9) (by decide) e7.symm)).trans ((Below.heap_alloc _ _ _ b9.lt).trans b9)
       exact(Below.heap_setCell _ _ _ _ (fun e7=>by have b7:=b8;unfold ew at b7;rw[show(ak x).1=Bo from e7,bO]at b7;simp at b7)).trans b8
      ·rw[gBx_miss hg9]
       have b0:=ab HBox e9 he9
       have b1:ew Wt e9.1 (lH m b pre e9):=(hT.2.block _ b0.lt (fun e7=>hg9 (Option.some.inj e7))).trans b0
       have b8:ew W' e9.1 (lH m b pre e9):=(ml.block _ (by have:=b1.lt;simp;omega) (fun e7=>af (World.ownsRow.alloc hpt (.cells #[.int .i64 pky,.int .i64 pst,.int .i64 pen,.int .i64 ptd,.int .i64 pkd,.int .i64 pn,.int .i64 psu,.int .i64 ple,.int .i64 pmo] 52)) ((Below.heap_alloc _ _ _ b1.lt).trans b1) (by decide) e7.symm)).trans ((Below.heap_alloc _ _ _ b1.lt).trans b1)
       exact(Below.heap_setCell _ _ _ _ (fun e7=>by have b7:=b8;unfold ew at b7;rw[show e9.1=Bo from e7,bO]at b7;simp at b7)).trans b8
     refine Or.inr ⟨fun j9 hj9=>by have:=hallL j9 hj9;simp[more,this],by simp[more],hkp.from _,hkp.kpo,⟨.slice (some ⟨g6,0,none⟩) (qs.length+1) c6,Joins.block_setCell bO _,?_,hbox,(Below.heap_setCell _ _ _ _ (fun e7=>hnPO e7.symm)).trans bP,hbF,hK0.trans hkp,by rw[List.length_append];simp;omega⟩⟩
     rw[gS_hit (ab Htel),←List.append_assoc,ab Hqs]
     have h9:=al (u:= .slice (some ⟨g6,0,none⟩) (qs.length+1) c6) (p:=⟨Bo,12,none⟩) hown' (af hown' bO (by decide))
     have h8:=fw (ys:=qs) (x:=⟨pky,pst,pen,ptd,pkd,pn,psu,ple,pmo⟩) h9
     rw[show(⟨pky,pst,pen,ptd,pkd,pn,psu,ple,pmo⟩:cY)=dJ b (ak x).2 from by rw[←ab Hy];exact(ab Hpan).symm]at h8
     exact h8
   intro L a' W' hI hall
   rcases hI with⟨h16,_⟩|⟨_,_,hF⟩
   ·rw[hall 16 (by decide)]at h16
    cases h16
   gi_wp2
   exact hF
 case done=>
  rintro D ys W hD hys ⟨pv,bO,hPn,hbox,bP,hB,hK0,hpn⟩ hK
  have hyE:=inO hrise hok hys
  obtain⟨ga1,ga2⟩:=gS_all m b hnd
  rw[hyE,ga1]at hPn
  have hKD:D≠Bo:=by rintro rfl;rw[bO]at hK;cases hK
  gi_wp2
  refine⟨D,_,rfl,run_takeDeferred hK,.tuple #[],results_none rfl _ _ _,rfl,pv,(World.putObj_heap_other (fun e9=>hKD e9.symm)).trans bO,?_,ownsRow_putObj hPn _ hK rfl,hB.trans (belowK_b (w:=w) hBw W D _ _ (by simp at hD;omega) hK rfl rfl),?_⟩
  ·have hkm:b6 (W.putObj D (.deferred none)) mb nn (fun q=>(cP (gEs m es) q).map Value.pointer):=by
    have h9:=hR.map.kp (hK0.kpo.1)
    have h8:cP (gEs m es)=cP es:=ki cT plO_told (fun e=>cy m e.2) es
    rw[h8]
    exact h9.kp (KeepsWalks.putObj _ hK rfl)
   refine⟨hkm,?_,?_,?_⟩
   ·intro e9 he9
    unfold gEs at he9
    obtain⟨e8,he8,rfl⟩:=List.mem_map.1 he9
    have b8:=hbox e8 he8
    unfold lH at b8
    rw[hyE]at b8
    have b9:ew W e8.1 (if cy m e8.2=true then cT e8.2 else e8.2):=by
     cases ht:cy m e8.2 with
     |true=>rw[if_pos ((ga2 e8 he8).2 ht)]at b8;simpa using b8
     |false=>rw[if_neg (fun h9=>by rw[(ga2 e8 he8).1 h9]at ht;cases ht)]at b8;simpa using b8
    exact(World.putObj_heap_other (fun e9=>by have b7:=b9;unfold ew at b7;rw[show e8.1=D from e9,hK]at b7;cases b7)).trans b9
   ·intro e9 he9
    unfold gEs at he9
    obtain⟨e8,he8,rfl⟩:=List.mem_map.1 he9
    exact hge e8 he8
   ·have h9:(gEs m es).map (fun e=>e.1)=es.map (fun e=>e.1):=by unfold gEs;rw[List.map_map];rfl
    rw[h9]
    exact hnd
  ·refine⟨by have:=hK0.1;simpa using this,fun k9 o hk ho=>?_⟩
   have hlt:=(Array.getElem?_eq_some_iff.1 hk).1
   exact(World.putObj_heap_other (by simp at hD;omega)).trans (hK0.2 k9 o hk ho)
 case stop=>
  rintro D c pre W _ _ hx _
  exact hx.elim
end Go.Proofs.YtdmhihcipkhecaaGreat
