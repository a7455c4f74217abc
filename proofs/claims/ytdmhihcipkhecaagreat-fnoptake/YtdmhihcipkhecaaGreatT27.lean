/- Laid together: what the claim needs of the texts that were built one by one. -/
import Derived.Test.YtdmhihcipkhecaaGreatT25
import Derived.Test.YtdmhihcipkhecaaGreatT26
import Derived.Test.YtdmhihcipkhecaaGreatT15
import Derived.Test.YtdmhihcipkhecaaGreatT11
import Derived.Test.YtdmhihcipkhecaaGreatT0
set_option linter.unusedVariables false
namespace Go.Proofs.YtdmhihcipkhecaaGreat
open Go.ChangeShapes Go.WideShapes Go.ChangeAt Go.RowKit Go.Shelf Go.Maps
set_option linter.unusedSimpArgs false
def turnY(ty:TypeId):Bool:=ty==57||ty==52||ty==75
def ik(tt:TypeId→Bool)(W W':World):Prop:=W.heap.size≤W'.heap.size∧∀(k:Nat) (cs:Array Value) (ty:TypeId),tt ty=false→W.heap[k]? =some (.cells cs ty (0,0))→W'.heap[k]? =some (.cells cs ty (0,0))
theorem ik.trans{tt:TypeId→Bool}{A B C:World}(h:ik tt A B)(k:ik tt B C):ik tt A C:=⟨Nat.le_trans h.1 k.1,fun i cs ty ht hi=>k.2 i cs ty ht (h.2 i cs ty ht hi)⟩
theorem ik.bel{tt:TypeId→Bool}{W W':World}(hb:Below W.heap.size W W'):ik tt W W':=⟨hb.size,fun k cs ty _ hk=>(hb.block k (Array.getElem?_eq_some_iff.1 hk).1).trans hk⟩
theorem ik.grown{tt:TypeId→Bool}{W W':World}{row:Option Nat}(hg:W.grownBy W' row)(hr:∀r cs ty,row=some r→W.heap[r]? =some (.cells cs ty (0,0))→tt ty=true):ik tt W W':=
 ⟨hg.size,fun k cs ty ht hk=>(hg.block k (Array.getElem?_eq_some_iff.1 hk).1 (fun e9=>by have h9:=hr k cs ty e9.symm hk;rw[ht]at h9;cases h9)).trans hk⟩
theorem ik.mono{tt tu:TypeId→Bool}{W W':World}(h:ik tt W W')(hm:∀ty,tu ty=false→tt ty=false):ik tu W W':=⟨h.1,fun k cs ty ht hk=>h.2 k cs ty (hm ty ht) hk⟩
theorem ik.own{tt:TypeId→Bool}{W W':World}{B size n:Nat}{e:TypeId}{v:Value}{ys:List Value}(h:W.ownsRow B e size v n ys)(hk:ik tt W W')(he:tt e=false):W'.ownsRow B e size v n ys:=by
 rcases h with⟨hl,h|⟨q,cap,cur,rfl,hB,hblk,r⟩⟩
 ·exact⟨hl,Or.inl h⟩
 ·exact⟨hl,Or.inr ⟨q,cap,cur,rfl,hB,hk.2 q _ _ he hblk,r⟩⟩
theorem gb_one(W:World)(k o:Nat)(u:Value):W.grownBy (W.setCell ⟨k,o,none⟩ u) (some k):=aK (iw (Below.refl _ _)) (.inl rfl) u
theorem bD.gcell{W W':World}{B mb nn k:Nat}{es:List bz}{cs:Array Value}{ty:TypeId}(h:bD W B mb nn es)(hg:W.grownBy W' (some k))(hk:W.heap[k]? =some (.cells cs ty (0,0)))(hty:ty≠57):bD W' B mb nn es:=by
 refine⟨bp.grown h.map hg (fun e9=>h.map.ne_cells hk (Option.some.inj e9).symm),fun e he=>?_,h.ge,h.nd⟩
 have b9:=h.box e he
 exact(hg.block e.1 b9.lt (fun e9=>by have b7:=b9;unfold ew at b7;rw[Option.some.inj e9,hk]at b7;simp only[Option.some.injEq,Obj.cells.injEq]at b7;exact hty b7.2.1)).trans b9
theorem fo{W:World}{B size n mb nn:Nat}{e:TypeId}{v:Value}{ys:List Value}{f:P3→Option Value}(h:W.ownsRow B e size v n ys)(hm:b6 W mb nn f):v.ownBlock≠some mb:=by
 rcases h.2 with⟨rfl,_⟩|⟨g,cap,cur,rfl,_,hgb,_⟩
 ·simp[Value.ownBlock]
 ·intro e9
  simp[Value.ownBlock]at e9
  exact hm.ne_cells hgb e9
theorem bD.gown{W W':World}{B B' mb nn size n:Nat}{es:List bz}{ty:TypeId}{v:Value}{ys:List Value}(h:bD W B mb nn es)(ho:W.ownsRow B' ty size v n ys)(hg:W.grownBy W' v.ownBlock)(hty:ty≠57):bD W' B mb nn es:=by
 refine⟨bp.grown h.map hg (fun e9=>fo ho h.map e9.symm),fun e he=>?_,h.ge,h.nd⟩
 have b9:=h.box e he
 exact(hg.block e.1 b9.lt (fun e9=>af ho b9 (fun e8=>hty e8.symm) e9.symm)).trans b9
/-- What an operator is while one row takes the place of others. -/
structure ii(w:World)(B Bo mb gk:Nat)(s t k z q l e:Int)(b:Bool)(v r m:Int)(lv vM:Value)(ls:List gv)(gs:List Nat)(ky st en:Int)(W:World)(g1 g2 g3 g4:Int)(nn:Nat)(pv:Value)(qs:List cY)(es:List bz):Prop where
 bO:W.heap[Bo]? =some (.cells #[.int .i64 s,.int .i64 t,.int .i64 k,.int .i64 z,.int .i64 q,.int .i64 l,.int .i64 e,.bool b,.int .i64 v,.int .i64 r,.int .i64 m,.map (some (mb)),pv,lv] 75 (0,0))
 bK:W.heap[gk]? =some (.cells #[.int .i64 g1,.int .i64 g2,.int .i64 g3,.int .i64 g4] 50 (0,0))
 bA:W.heap[w.heap.size]? =some (.cells #[.int .i64 ky,.int .i64 st,.int .i64 en] 87 (0,0))
 rows:bD W B mb nn es
 pan:aR W B pv qs
 lat:bT W B lv ls
 pts:fc W B vM gs
 bel:Below B w W
 kp:ik turnY w W
 gt:w.heap.size<gk
 hBo:B≤Bo
 hBw:B≤w.heap.size
 hmb:B≤mb
theorem ii.belw{w:World}{B Bo mb gk:Nat}{s t k z q l e:Int}{b:Bool}{v r m:Int}{lv vM:Value}{ls:List gv}{gs:List Nat}{ky st en:Int}{W W':World}{g1 g2 g3 g4:Int}{nn:Nat}{pv:Value}{qs:List cY}{es:List bz}(h:ii w B Bo mb gk s t k z q l e b v r m lv vM ls gs ky st en W g1 g2 g3 g4 nn pv qs es)(hb:Below W.heap.size W W'):ii w B Bo mb gk s t k z q l e b v r m lv vM ls gs ky st en W' g1 g2 g3 g4 nn pv qs es:=
 have c:=fun(k:Nat) (o:Obj) (hk:W.heap[k]? =some o)=>(hb.block k (Array.getElem?_eq_some_iff.1 hk).1).trans hk
 ⟨c _ _ h.bO,c _ _ h.bK,c _ _ h.bA,h.rows.bel hb,aJ h.pan (aB hb) (fun _ e9=>by cases e9),aJ h.lat (aB hb) (fun _ e9=>by cases e9),aJ h.pts (aB hb) (fun _ e9=>by cases e9),h.bel.trans (hb.mono (by have:=h.bel.size;have:=h.hBw;omega)),h.kp.trans (ik.bel hb),h.gt,h.hBo,h.hBw,h.hmb⟩
theorem ii.gk_set{w:World}{B Bo mb gk:Nat}{s t k z q l e:Int}{b:Bool}{v r m:Int}{lv vM:Value}{ls:List gv}{gs:List Nat}{ky st en:Int}{W:World}{g1 g2 g3 g4 e1 e2 e3 e4:Int}{nn:Nat}{pv:Value}{qs:List cY}{es:List bz}(h:ii w B Bo mb gk s t k z q l e b v r m lv vM ls gs ky st en W g1 g2 g3 g4 nn pv qs es):ii w B Bo mb gk s t k z q l e b v r m lv vM ls gs ky st en ((((W.setCell ⟨gk,0,none⟩ (.int .i64 e1)).setCell ⟨gk,1,none⟩ (.int .i64 e2)).setCell ⟨gk,2,none⟩ (.int .i64 e3)).setCell ⟨gk,3,none⟩ (.int .i64 e4)) e1 e2 e3 e4 nn pv qs es:=by
 have hb:Below W.heap.size W W:=Below.refl _ _
 have bk4:((((W.setCell ⟨gk,0,none⟩ (.int .i64 e1)).setCell ⟨gk,1,none⟩ (.int .i64 e2)).setCell ⟨gk,2,none⟩ (.int .i64 e3)).setCell ⟨gk,3,none⟩ (.int .i64 e4)).heap[gk]? =some (.cells #[.int .i64 e1,.int .i64 e2,.int .i64 e3,.int .i64 e4] 50 (0,0)):=Joins.block_setCell (Joins.block_setCell (Joins.block_setCell (Joins.block_setCell h.bK _) _) _) _
 have hg4:W.grownBy ((((W.setCell ⟨gk,0,none⟩ (.int .i64 e1)).setCell ⟨gk,1,none⟩ (.int .i64 e2)).setCell ⟨gk,2,none⟩ (.int .i64 e3)).setCell ⟨gk,3,none⟩ (.int .i64 e4)) (some gk):=aK (aK (aK (gb_one W gk 0 _) (.inl rfl) _) (.inl rfl) _) (.inl rfl) _
 generalize ((((W.setCell ⟨gk,0,none⟩ (.int .i64 e1)).setCell ⟨gk,1,none⟩ (.int .i64 e2)).setCell ⟨gk,2,none⟩ (.int .i64 e3)).setCell ⟨gk,3,none⟩ (.int .i64 e4))=W' at bk4 hg4 ⊢
 have ne:∀(k:Nat) (cs:Array Value) (ty:TypeId),W.heap[k]? =some (.cells cs ty (0,0))→ty≠50→W'.heap[k]? =some (.cells cs ty (0,0)):=fun k cs ty hk ht=>(hg4.block k (Array.getElem?_eq_some_iff.1 hk).1 (fun e9=>by rw[Option.some.inj e9,h.bK]at hk;simp only[Option.some.injEq,Obj.cells.injEq]at hk;exact ht hk.2.1.symm)).trans hk
 refine⟨ne _ _ _ h.bO (by decide),bk4,ne _ _ _ h.bA (by decide),h.rows.gcell hg4 h.bK (by decide),dl h.pan hg4 (af h.pan h.bK (by decide)),dl h.lat hg4 (af h.lat h.bK (by decide)),dl h.pts hg4 (af h.pts h.bK (by decide)),h.bel.grown hg4 (by have:=h.bel.size;have:=h.hBw;omega) (fun k9 e9=>by cases e9;have:=h.gt;have:=h.hBw;omega),⟨Nat.le_trans h.kp.1 hg4.size,fun k cs ty ht hk=>?_⟩,h.gt,h.hBo,h.hBw,h.hmb⟩
 have h8:=h.kp.2 k cs ty ht hk
 exact(hg4.block k (Array.getElem?_eq_some_iff.1 h8).1 (fun e9=>by have h7:=(Array.getElem?_eq_some_iff.1 hk).1;have:=h.gt;have:=Option.some.inj e9;omega)).trans h8
theorem ii.del{w:World}{B Bo mb gk:Nat}{s t k z q l e:Int}{b:Bool}{v r m:Int}{lv vM:Value}{ls:List gv}{gs:List Nat}{ky st en:Int}{W W':World}{g1 g2 g3 g4:Int}{nn:Nat}{pv:Value}{qs:List cY}{es:List bz}(h:ii w B Bo mb gk s t k z q l e b v r m lv vM ls gs ky st en W g1 g2 g3 g4 nn pv qs es)(p:P3)(hm:b6 W' mb nn (fun x=>if x=p then none else(cP es x).map Value.pointer))(hg:W.grownBy W' (some mb)):ii w B Bo mb gk s t k z q l e b v r m lv vM ls gs ky st en W' g1 g2 g3 g4 nn pv qs (kg p es):=by
 have ne:∀(k:Nat) (cs:Array Value) (ty:TypeId),W.heap[k]? =some (.cells cs ty (0,0))→W'.heap[k]? =some (.cells cs ty (0,0)):=fun k cs ty hk=>(hg.block k (Array.getElem?_eq_some_iff.1 hk).1 (fun e9=>h.rows.map.ne_cells hk (Option.some.inj e9))).trans hk
 exact⟨ne _ _ _ h.bO,ne _ _ _ h.bK,ne _ _ _ h.bA,h.rows.off p hm hg,dl h.pan hg (fo h.pan h.rows.map),dl h.lat hg (fo h.lat h.rows.map),dl h.pts hg (fo h.pts h.rows.map),h.bel.grown hg (by have:=h.bel.size;have:=h.hBw;omega) (fun k9 e9=>by cases e9;exact h.hmb),h.kp.trans ⟨hg.size,fun k cs ty _ hk=>ne k cs ty hk⟩,h.gt,h.hBo,h.hBw,h.hmb⟩
theorem ii.app{w:World}{B Bo mb gk:Nat}{s t k z q l e:Int}{b:Bool}{v r m:Int}{lv vM:Value}{ls:List gv}{gs:List Nat}{ky st en:Int}{W W':World}{g1 g2 g3 g4:Int}{nn:Nat}{pv u:Value}{qs:List cY}{es:List bz}{x:cY}(h:ii w B Bo mb gk s t k z q l e b v r m lv vM ls gs ky st en W g1 g2 g3 g4 nn pv qs es)(hg:W.grownBy W' pv.ownBlock)(ho:W'.ownsRow B 52 9 u (qs.length+1) (bs qs++x.cells)):ii w B Bo mb gk s t k z q l e b v r m lv vM ls gs ky st en (W'.setCell ⟨Bo,12,none⟩ u) g1 g2 g3 g4 nn u (qs++[x]) es:=by
 have ne:∀(k:Nat) (cs:Array Value) (ty:TypeId),W.heap[k]? =some (.cells cs ty (0,0))→ty≠52→W'.heap[k]? =some (.cells cs ty (0,0)):=fun k cs ty hk ht=>(hg.block k (Array.getElem?_eq_some_iff.1 hk).1 (fun e9=>af h.pan hk ht e9.symm)).trans hk
 have bO:=ne _ _ _ h.bO (by decide)
 have hs:=gb_one W' Bo 12 u
 have ne2:∀(k:Nat) (cs:Array Value) (ty:TypeId),W.heap[k]? =some (.cells cs ty (0,0))→ty≠52→ty≠75→(W'.setCell ⟨Bo,12,none⟩ u).heap[k]? =some (.cells cs ty (0,0)):=fun k cs ty hk h1 h2=>(hs.block k (Array.getElem?_eq_some_iff.1 (ne k cs ty hk h1)).1 (fun e9=>by have h9:=ne k cs ty hk h1;rw[Option.some.inj e9,bO]at h9;simp only[Option.some.injEq,Obj.cells.injEq]at h9;exact h2 h9.2.1.symm)).trans (ne k cs ty hk h1)
 have hbw:Below B w W':=h.bel.grown hg (by have:=h.bel.size;have:=h.hBw;omega) (fun k9 e9=>aE h.pan k9 e9)
 refine⟨Joins.block_setCell bO _,ne2 _ _ _ h.bK (by decide) (by decide),ne2 _ _ _ h.bA (by decide) (by decide),(h.rows.gown h.pan hg (by decide)).gcell hs bO (by decide),fw (dl ho hs (af ho bO (by decide))),dl (cU h.lat hg (fun k9 e8 e9=>cf h.lat h.pan (by decide) e9 e8)) hs (af (cU h.lat hg (fun k9 e8 e9=>cf h.lat h.pan (by decide) e9 e8)) bO (by decide)),dl (cU h.pts hg (fun k9 e8 e9=>cf h.pts h.pan (by decide) e9 e8)) hs (af (cU h.pts hg (fun k9 e8 e9=>cf h.pts h.pan (by decide) e9 e8)) bO (by decide)),hbw.setCell h.hBo _,h.kp.trans ⟨Nat.le_trans hg.size hs.size,fun k cs ty ht hk=>ne2 k cs ty hk ?_ ?_⟩,h.gt,h.hBo,h.hBw,h.hmb⟩
 ·rintro rfl;simp[turnY]at ht
 ·rintro rfl;simp[turnY]at ht
def fy(ms es:List bz):List bz:=es.filter (fun e=> !ms.any (fun y=>decide (aU y.2=aU e.2)))
theorem offM_snoc(ms es:List bz)(x:bz):fy (ms++[x]) es=kg (aU x.2) (fy ms es):=by
 unfold fy kg
 rw[List.filter_filter]
 refine List.filter_congr (fun e _=>?_)
 rw[List.any_append]
 simp only[List.any_cons,List.any_nil,Bool.or_false,Bool.not_or]
 rw[Bool.and_comm]
 congr 2
 exact decide_eq_decide.2 ⟨fun h=>h.symm,fun h=>h.symm⟩
theorem offM_mem{ms es:List bz}{e:bz}(h:e ∈ fy ms es):e ∈ es:=(List.mem_filter.1 h).1
theorem fV{W:World}{B g' c n i2:Nat}{gs:List Nat}{g:Nat}(h:fc W B (.slice (some ⟨g',0,none⟩) n c) gs)(hn:n=gs.length)(hi:gs[i2]? =some g):W.cell? ⟨g',i2,none⟩=some (.pointer (some ⟨g,0,none⟩)):=by
 subst hn
 have h9:=gW h i2 (ptG g) (by rw[List.getElem?_map,hi];rfl)
 rw[show(⟨g',0,none⟩:Addr).add i2=⟨g',i2,none⟩from(by simp[Addr.add];intro h8;exact h8.symm)]at h9
 exact h9
set_option maxRecDepth 100000 in
set_option maxHeartbeats 8000000 in
theorem opopen_any(Bo B mb nn:Nat)(s t k z q l e:Int)(b:Bool)(v r m:Int)(pv lv vM:Value)(ps:List cY)(ls:List gv)(es ms:List bz)(ky st en vv:Int)(w:World)(hO:w.heap[Bo]? =some (.cells #[.int .i64 s,.int .i64 t,.int .i64 k,.int .i64 z,.int .i64 q,.int .i64 l,.int .i64 e,.bool b,.int .i64 v,.int .i64 r,.int .i64 m,.map (some (mb)),pv,lv] 75 (0,0)))(hBo:B≤Bo)(hBw:B≤w.heap.size)(hmb:B≤mb)(hR:bD w B mb nn es)(hP:aR w B pv ps)(hL:bT w B lv ls)(hM:fc w B vM (ms.map (fun e=>e.1)))(hsub:ms.Sublist es)(hrise:eb es)(hok:∀e ∈ es,gx (aU e.2))(hky:gx (ky,st,en))(hfree:∀e ∈ fy ms es,¬ aU e.2=(ky,st,en))(hnn:nn≤1000)(hps:ps.length≤10000)(hml:ms.length≤1000):
  Calls Tryz.prog 82 #[.pointer (some ⟨Bo,0,none⟩),.agg #[.int .i64 ky,.int .i64 st,.int .i64 en],vM,.int .i64 vv] w fun e' w'=>e'= .returned (.tuple #[])∧∃pv' g',w'.heap[Bo]? =some (.cells #[.int .i64 s,.int .i64 t,.int .i64 k,.int .i64 z,.int .i64 q,.int .i64 l,.int .i64 e,.bool b,.int .i64 v,.int .i64 r,.int .i64 m,.map (some (mb)),pv',lv] 75 (0,0))∧bD w' B mb (nn+1) (go (g',ff (ky,st,en) (dK vv (aH ms))) (fy ms es))∧aR w' B pv' (ps++dj (aH ms))∧bT w' B lv ls∧Below B w w'∧ik turnY w w':=by
 obtain⟨i1,hi1,hy0,hy1,hy2⟩:=info_parts Tryz.infoPn
 have zBo:Bo<w.heap.size:=(Array.getElem?_eq_some_iff.1 hO).1
 obtain⟨⟨n1,n2,n3,n4⟩,hg⟩:∃r9,dU (0,0,0,0) vv=r9:=⟨_,rfl⟩
 have HG:=ae hg
 clear hg
 have hB1:Below w.heap.size w (w.alloc (.cells #[.int .i64 ky,.int .i64 st,.int .i64 en] 87)):=aq _ _
 have bA1:(w.alloc (.cells #[.int .i64 ky,.int .i64 st,.int .i64 en] 87)).heap[w.heap.size]? =some (.cells #[.int .i64 ky,.int .i64 st,.int .i64 en] 87 (0,0)):=World.alloc_heap_new w _
 go_enter Tryz.func82,Tryz.ntmps82
 go_wp2_with fail
 refine(gM 0 0 0 0 vv _ HG).mono ?_
 rintro e9 w1 ⟨rfl,hb1⟩
 have hB2:Below w.heap.size w w1:=am hB1 hb1
 have z1:w.heap.size<w1.heap.size:=by have:=hb1.size;simp at this;omega
 have bA2:w1.heap[w.heap.size]? =some (.cells #[.int .i64 ky,.int .i64 st,.int .i64 en] 87 (0,0)):=(hb1.block _ (by simp)).trans bA1
 go_upto_region 2 with fail
 have WK:Hid True:=ae trivial
 have hI0:∃W,W=w1.alloc (.cells #[.int .i64 n1,.int .i64 n2,.int .i64 n3,.int .i64 n4] 50)∧ii w B Bo mb w1.heap.size s t k z q l e b v r m lv vM ls (ms.map (fun e=>e.1)) ky st en W n1 n2 n3 n4 nn pv (ps++dj ((aH ms).take 0)) (fy (ms.take 0) es):=by
  refine⟨_,rfl,?_⟩
  have hbA:Below w.heap.size w (w1.alloc (.cells #[.int .i64 n1,.int .i64 n2,.int .i64 n3,.int .i64 n4] 50)):=ag hB2 _
  have e1:fy (ms.take 0) es=es:=List.filter_eq_self.2 (fun _ _=>by simp)
  have e2:ps++dj ((aH ms).take 0)=ps:=by simp[dj]
  rw[e1,e2]
  exact⟨(hbA.block Bo zBo).trans hO,World.alloc_heap_new w1 _,(Below.heap_alloc _ _ _ z1).trans bA2,hR.bel hbA,aJ hP (aB hbA) (fun _ e9=>by cases e9),aJ hL (aB hbA) (fun _ e9=>by cases e9),aJ hM (aB hbA) (fun _ e9=>by cases e9),hbA.mono hBw,ik.bel hbA,z1,hBo,hBw,hmb⟩
 obtain⟨W0,hW0,hI⟩:=hI0
 rw[←hW0]
 clear hW0 hB1 hB2 bA1 bA2 WK
 obtain⟨gk,hgk⟩:∃gk,w1.heap.size=gk:=⟨_,rfl⟩
 rw[hgk]at hI ⊢
 clear hgk z1 hb1
 obtain⟨aM,cM,hvM⟩:=dr hM
 obtain⟨nM,hnM⟩:∃nM,ms.length=nM:=⟨_,rfl⟩
 rw[List.length_map,hnM]at hvM
 subst hvM
 have HNM:=ae hnM
 rw[hnM]at hml
 clear hnM hM hO hR hP hL zBo
 go_wp2
 go_loopw [16] (fun iv wr=>∃(i2:Nat) (g1 g2 g3 g4:Int) (pv':Value),i2≤nM∧iv= .int .i64 i2∧Hid (dK vv ((aH ms).take i2)=(g1,g2,g3,g4))∧ii w B Bo mb gk s t k z q l e b v r m lv (.slice aM nM cM) ls (ms.map (fun e=>e.1)) ky st en wr g1 g2 g3 g4 nn pv' (ps++dj ((aH ms).take i2)) (fy (ms.take i2) es)) (fun iv _=>nM - (intOf iv).toNat)
 case atStart=>exact⟨0,n1,n2,n3,n4,pv,Nat.zero_le _,rfl,ae (ab HG),hI⟩
 case round=>
  clear hI
  obtain⟨i2,g1,g2,g3,g4,pv',hi2,rfl,HAl,hI⟩:=hrel
  by_cases hlt:i2<nM
  ·have hgl:(ms.map (fun e=>e.1)).length=nM:=by rw[List.length_map];exact ab HNM
   obtain⟨e0,he0⟩:∃e0,ms[i2]? =some e0:=⟨_,List.getElem?_eq_getElem (by rw[ab HNM];omega)⟩
   have hmem:e0 ∈ es:=hsub.subset (List.mem_of_getElem? he0)
   have hrm:eb ms:=hrise.sublist hsub
   have hoff:e0 ∈ fy (ms.take i2) es:=by
    refine List.mem_filter.2 ⟨hmem,?_⟩
    simp only[Bool.not_eq_true',List.any_eq_false,decide_eq_true_eq]
    intro y hy e9
    obtain⟨j,hj⟩:=List.getElem?_of_mem hy
    rw[List.getElem?_take]at hj
    split at hj
    ·rename_i hjl
     obtain⟨h1,h1'⟩:=List.getElem?_eq_some_iff.1 hj
     obtain⟨h2,h2'⟩:=List.getElem?_eq_some_iff.1 he0
     have h3:=List.pairwise_iff_getElem.1 hrm j i2 h1 h2 hjl
     rw[h1',h2',e9]at h3
     exact bL _ h3
    ·cases hj
   have hbx:=hI.rows.box e0 hoff
   have HE0:=ae he0
   have hy3:=hok e0 hmem
   have hrs:(aH ms)[i2]? =some e0.2:=by unfold aH;rw[List.getElem?_map,he0];rfl
   have HRS:=ae hrs
   have hoff2:fy (ms.take (i2+1)) es=kg (aU e0.2) (fy (ms.take i2) es):=by rw[List.take_add_one,he0,Option.toList,offM_snoc]
   have HOF:=ae hoff2
   obtain⟨gm,em⟩:∃gm,aM=some ⟨gm,0,none⟩:=by
    rcases hI.pts.2 with⟨h9,h8⟩|⟨g9,c9,_,h9,_⟩
    ·omega
    ·simp only[Value.slice.injEq]at h9
     exact⟨g9,h9.1⟩
   subst em
   have hcell:=fV (i2:=i2) (g:=e0.1) hI.pts hgl.symm (by rw[List.getElem?_map,he0];rfl)
   obtain⟨ge,y⟩:=e0
   obtain⟨yky,yst,yen,yan,yasu,yale,yamo,yfn,yfsu,yfle,yfmo,ytd,ytm⟩:=y
   dsimp only at hcell hbx hy3 HRS HOF
   obtain⟨⟨e1,e2,e3,e4⟩,he⟩:∃r9,eN (g1,g2,g3,g4) (yan,yasu,yale,yamo)=r9:=⟨_,rfl⟩
   have HB:=ae he
   have HA2:Hid (dK vv ((aH ms).take (i2+1))=(e1,e2,e3,e4)):=ae (by rw[List.take_add_one,hrs];unfold dK at *;rw[Option.toList,List.foldl_append,ab HAl];exact he)
   have hrow:wr.heap[ge]? =some (.cells #[.int .i64 yky,.int .i64 yst,.int .i64 yen,.int .i64 yan,.int .i64 yasu,.int .i64 yale,.int .i64 yamo,.int .i64 yfn,.int .i64 yfsu,.int .i64 yfle,.int .i64 yfmo,.int .i64 ytd,.bool ytm] 57 (0,0)):=hbx
   have HI:=ae hI
   have Hoff:=ae hoff
   clear hbx he0 hrs hoff hoff2 he hI hgl
   go_wp2_with fail
   clear hcell
   refine wp_region_held_drew (S:=(fun W=>W.heap[ge]? =some (.cells #[.int .i64 yky,.int .i64 yst,.int .i64 yen,.int .i64 yan,.int .i64 yasu,.int .i64 yale,.int .i64 yamo,.int .i64 yfn,.int .i64 yfsu,.int .i64 yfle,.int .i64 yfmo,.int .i64 ytd,.bool ytm] 57 (0,0)))) (oc) ?_ (fun hHeld=>?_)
   ·((try dsimp only);exact hrow)
   refine kV 1 ?_
   refine kV 2 ?_
   refine kV 3 ?_
   refine kT 4 ?_ ?_ ?_
   rotate_left
   ·(intro w9 hSw;(try dsimp only at hSw);have q0:=hSw;obtain⟨ax0,ax1,ax2,ax3,ax4,ax5,ax6,ax7,ax8,ax9,ax10,ax11,ax12⟩:=eu q0;go_simp<;>with_reducible rfl)
   try simp only[Act.put,tA,tZ,tS]
   refine rD 0 (fun K hK=>?_)
   obtain⟨u0,u1,u2,u3⟩:=c4 (ab HI).bK
   go_simp
   clear u0 u1 u2 u3
   clear hHeld
   refine hK.out _ _ ?_ (fun hHeld=>?_)
   ·((try dsimp only);exact hrow)
   clear hK K
   try simp only[Act.put,tA,tZ,tS]
   refine rD 5 (fun K hK=>?_)
   go_simp
   (go_at_call 96;refine(implboth_is _ _ _ _ _ _ _ _ _ HB).mono ?_;rintro e9 w6 ⟨rfl,hb6⟩)
   (try go_wp2_with fail)
   replace hb6:Below wr.heap.size wr w6:=am (ap (Below.refl _ _)) hb6
   have HI6:=ae ((ab HI).belw hb6)
   replace hrow:=(hb6.block ge (Array.getElem?_eq_some_iff.1 hrow).1).trans hrow
   clear hb6
   clear hHeld
   refine hK.out _ _ ?_ (fun hHeld=>?_)
   ·((try dsimp only);exact hrow)
   clear hK K
   try simp only[Act.put,tA,tZ,tS]
   refine rD 6 (fun K hK=>?_)
   obtain⟨u0,u1,u2,u3⟩:=c4 (ab HI6).bK
   have uf0:w6.frozen? ⟨gk,0,none⟩=false:=by have h9:=(ab HI6).bK;simp[World.frozen?,h9]
   have uf1:w6.frozen? ⟨gk,1,none⟩=false:=by have h9:=(ab HI6).bK;simp[World.frozen?,h9]
   have uf2:w6.frozen? ⟨gk,2,none⟩=false:=by have h9:=(ab HI6).bK;simp[World.frozen?,h9]
   have uf3:w6.frozen? ⟨gk,3,none⟩=false:=by have h9:=(ab HI6).bK;simp[World.frozen?,h9]
   have zk6:gk<w6.heap.size:=(Array.getElem?_eq_some_iff.1 (ab HI6).bK).1
   go_simp
   clear u0 u1 u2 u3 uf0 uf1 uf2 uf3 zk6
   have HI7:=ae ((ab HI6).gk_set (e1:=e1) (e2:=e2) (e3:=e3) (e4:=e4))
   have hrow7:((((w6.setCell ⟨gk,0,none⟩ (.int .i64 e1)).setCell ⟨gk,1,none⟩ (.int .i64 e2)).setCell ⟨gk,2,none⟩ (.int .i64 e3)).setCell ⟨gk,3,none⟩ (.int .i64 e4)).heap[ge]? =some (.cells #[.int .i64 yky,.int .i64 yst,.int .i64 yen,.int .i64 yan,.int .i64 yasu,.int .i64 yale,.int .i64 yamo,.int .i64 yfn,.int .i64 yfsu,.int .i64 yfle,.int .i64 yfmo,.int .i64 ytd,.bool ytm] 57 (0,0)):=(ab HI7).rows.box _ (ab Hoff)
   clear hHeld
   refine hK.out _ _ ?_ (fun hHeld=>?_)
   ·((try dsimp only);exact hrow7)
   clear hK K
   try simp only[Act.put,tA,tZ,tS]
   refine wpAnyH_done (oc) ?_ _
   clear hHeld hrow HI6 HI
   generalize ((((w6.setCell ⟨gk,0,none⟩ (.int .i64 e1)).setCell ⟨gk,1,none⟩ (.int .i64 e2)).setCell ⟨gk,2,none⟩ (.int .i64 e3)).setCell ⟨gk,3,none⟩ (.int .i64 e4))=w7 at HI7 hrow7 ⊢
   go_wp2_with fail
   have bO7:=(ab HI7).bO
   refine wp_region_held_drew (S:=(fun W=>W.heap[Bo]? =some (.cells #[.int .i64 s,.int .i64 t,.int .i64 k,.int .i64 z,.int .i64 q,.int .i64 l,.int .i64 e,.bool b,.int .i64 v,.int .i64 r,.int .i64 m,.map (some (mb)),pv',lv] 75 (0,0))∧W.heap[ge]? =some (.cells #[.int .i64 yky,.int .i64 yst,.int .i64 yen,.int .i64 yan,.int .i64 yasu,.int .i64 yale,.int .i64 yamo,.int .i64 yfn,.int .i64 yfsu,.int .i64 yfle,.int .i64 yfmo,.int .i64 ytd,.bool ytm] 57 (0,0)))) (oc) ?_ (fun hHeld=>?_)
   ·((try dsimp only);exact⟨bO7,hrow7⟩)
   refine kV 0 ?_
   refine kV 1 ?_
   refine kV 2 ?_
   refine kT 3 ?_ ?_ ?_
   rotate_left
   ·(intro w9 hSw;(try dsimp only at hSw);obtain⟨q1,q0⟩:=hSw;have bx0:=cA q1 0;have bx1:=cA q1 1;have bx2:=cA q1 2;have bx3:=cA q1 3;have bx4:=cA q1 4;have bx5:=cA q1 5;have bx6:=cA q1 6;have bx7:=cA q1 7;have bx8:=cA q1 8;have bx9:=cA q1 9;have bx10:=cA q1 10;simp only[gA,gZ,gS]at bx0 bx1 bx2 bx3 bx4 bx5 bx6 bx7 bx8 bx9 bx10;have bx11:w9.cell? ⟨Bo,11,none⟩=some (.map (some (mb))):=(by simp[World.cell?,q1,go_sem]);have bx12:=cA q1 12;have bx13:=cA q1 13;simp only[gA,gZ,gS]at bx12 bx13;go_simp<;>with_reducible rfl)
   try simp only[Act.put,tA,tZ,tS]
   refine kV 4 ?_
   refine kV 5 ?_
   refine kT 6 ?_ ?_ ?_
   rotate_left
   ·(intro w9 hSw;(try dsimp only at hSw);obtain⟨q1,q0⟩:=hSw;obtain⟨ax0,ax1,ax2,ax3,ax4,ax5,ax6,ax7,ax8,ax9,ax10,ax11,ax12⟩:=eu q0;go_simp<;>with_reducible rfl)
   try simp only[Act.put,tA,tZ,tS]
   refine rD 7 (fun K hK=>?_)
   go_simp
   (go_at_call 58;refine(aT _ _ _ _ _ _ _ _ _ _ _ _ _ _).mono ?_;rintro e9 w8 ⟨rfl,hb8⟩)
   (try go_wp2_with fail)
   replace hb8:Below w7.heap.size w7 w8:=am (ap (Below.refl _ _)) hb8
   have HI8:=ae ((ab HI7).belw hb8)
   have hrow8:=(hb8.block ge (Array.getElem?_eq_some_iff.1 hrow7).1).trans hrow7
   have bO8:=(ab HI8).bO
   clear hb8
   clear hHeld
   refine hK.out _ _ ?_ (fun hHeld=>?_)
   ·((try dsimp only);exact⟨bO8,hrow8⟩)
   clear hK K
   try simp only[Act.put,tA,tZ,tS]
   refine rD 8 (fun K hK=>?_)
   obtain⟨w9,hdel,hm9,hg9⟩:=(ab HI8).rows.map.drop (yky,yst,yen) hy3 0
   have hdl:=hdel
   dsimp only[v3]at hdl
   go_simp
   clear hdl hdel
   have HI9:=ae ((ab HI8).del _ hm9 hg9)
   rw[←show aU (⟨yky,yst,yen,yan,yasu,yale,yamo,yfn,yfsu,yfle,yfmo,ytd,ytm⟩:aC)=(yky,yst,yen)from rfl,←ab HOF]at HI9
   have hrow9:=(hg9.block ge (Array.getElem?_eq_some_iff.1 hrow8).1 (fun e9=>(ab HI8).rows.map.ne_cells hrow8 (Option.some.inj e9))).trans hrow8
   have bO9:=(ab HI9).bO
   clear hm9 hg9
   clear hHeld
   refine hK.out _ _ ?_ (fun hHeld=>?_)
   ·((try dsimp only);exact⟨bO9,hrow9⟩)
   clear hK K
   try simp only[Act.put,tA,tZ,tS]
   refine wpAnyH_done (oc) ?_ _
   clear hHeld HI7 HI8 hrow7 hrow8 bO7 bO8
   have hlp:(ps++dj ((aH ms).take i2)).length≤11000:=by
    rw[List.length_append]
    have:=gY ((aH ms).take i2)
    rw[List.length_take]at this
    omega
   obtain⟨qs,hqs⟩:∃qs,ps++dj ((aH ms).take i2)=qs:=⟨_,rfl⟩
   rw[hqs]at HI9 hlp
   have Hqs:=ae hqs
   clear hqs
   have d11:w9.cell? ⟨ge,11,none⟩=some (.int .i64 ytd):=cA hrow9 11
   by_cases htp:0<ytd
   ·have hdp:decide (0<ytd)=true:=decide_eq_true htp
    have HGo:Hid (ps++dj ((aH ms).take (i2+1))=qs++[⟨yky,yst,yen,ytd,3,0,0,0,0⟩]):=ae (by rw[gon_yes (ab HRS) htp,←List.append_assoc,ab Hqs];rfl)
    clear htp
    go_wp2_with fail
    clear d11 hdp
    refine eh [22] (fun W=>W.heap[Bo]? =some (.cells #[.int .i64 s,.int .i64 t,.int .i64 k,.int .i64 z,.int .i64 q,.int .i64 l,.int .i64 e,.bool b,.int .i64 v,.int .i64 r,.int .i64 m,.map (some (mb)),pv',lv] 75 (0,0))∧W.heap[ge]? =some (.cells #[.int .i64 yky,.int .i64 yst,.int .i64 yen,.int .i64 yan,.int .i64 yasu,.int .i64 yale,.int .i64 yamo,.int .i64 yfn,.int .i64 yfsu,.int .i64 yfle,.int .i64 yfmo,.int .i64 ytd,.bool ytm] 57 (0,0))) (oc) ?_ (fun hHeld=>?_)
    ·(try dsimp only);exact⟨bO9,hrow9⟩
    refine aF (i:=0) (v:=?_) (nP) (oc) (oc) (oc) (oc) (nQ) (Or.inl ⟨by rfl,?_⟩) (fun _=>by assumption) ?_
    rotate_left
    ·(intro w9 hSw;(try dsimp only at hSw);go_simp<;>with_reducible rfl)
    try simp only[Act.put,tA,tZ,tS]
    refine aF (i:=1) (v:=?_) (nP) (oc) (oc) (oc) (oc) (nQ) (Or.inl ⟨by rfl,?_⟩) (fun _=>by assumption) ?_
    rotate_left
    ·(intro w9 hSw;(try dsimp only at hSw);go_simp<;>with_reducible rfl)
    try simp only[Act.put,tA,tZ,tS]
    refine aF (i:=2) (v:=?_) (nP) (oc) (oc) (oc) (oc) (nQ) (Or.inl ⟨by rfl,?_⟩) (fun _=>by assumption) ?_
    rotate_left
    ·(intro w9 hSw;(try dsimp only at hSw);go_simp<;>with_reducible rfl)
    try simp only[Act.put,tA,tZ,tS]
    refine aF (i:=3) (v:=?_) (nP) (oc) (oc) (oc) (oc) (nQ) (Or.inl ⟨by rfl,?_⟩) (fun _=>by assumption) ?_
    rotate_left
    ·(intro w9 hSw;(try dsimp only at hSw);go_simp<;>with_reducible rfl)
    try simp only[Act.put,tA,tZ,tS]
    refine aZ (i:=4) (v:=?_) (nP) (oc) (oc) (oc) (oc) (nQ) (Or.inl ⟨by rfl,?_⟩) (nZ) ?_
    rotate_left
    ·(intro w9 hSw;(try dsimp only at hSw);obtain⟨q1,q0⟩:=hSw;have bx0:=cA q1 0;have bx1:=cA q1 1;have bx2:=cA q1 2;have bx3:=cA q1 3;have bx4:=cA q1 4;have bx5:=cA q1 5;have bx6:=cA q1 6;have bx7:=cA q1 7;have bx8:=cA q1 8;have bx9:=cA q1 9;have bx10:=cA q1 10;simp only[gA,gZ,gS]at bx0 bx1 bx2 bx3 bx4 bx5 bx6 bx7 bx8 bx9 bx10;have bx11:w9.cell? ⟨Bo,11,none⟩=some (.map (some (mb))):=(by simp[World.cell?,q1,go_sem]);have bx12:=cA q1 12;have bx13:=cA q1 13;simp only[gA,gZ,gS]at bx12 bx13;go_simp<;>with_reducible rfl)
    try simp only[Act.put,tA,tZ,tS]
    refine aF (i:=5) (v:=?_) (nP) (oc) (oc) (oc) (oc) (nQ) (Or.inl ⟨by rfl,?_⟩) (fun _=>by assumption) ?_
    rotate_left
    ·(intro w9 hSw;(try dsimp only at hSw);go_simp<;>with_reducible rfl)
    try simp only[Act.put,tA,tZ,tS]
    refine aF (i:=6) (v:=?_) (nP) (oc) (oc) (oc) (oc) (nQ) (Or.inl ⟨by rfl,?_⟩) (fun _=>by assumption) ?_
    rotate_left
    ·(intro w9 hSw;(try dsimp only at hSw);go_simp<;>with_reducible rfl)
    try simp only[Act.put,tA,tZ,tS]
    refine aF (i:=7) (v:=?_) (nP) (oc) (oc) (oc) (oc) (nQ) (Or.inl ⟨by rfl,?_⟩) (fun _=>by assumption) ?_
    rotate_left
    ·(intro w9 hSw;(try dsimp only at hSw);go_simp<;>with_reducible rfl)
    try simp only[Act.put,tA,tZ,tS]
    refine aZ (i:=8) (v:=?_) (nP) (oc) (oc) (oc) (oc) (nQ) (Or.inl ⟨by rfl,?_⟩) (nZ) ?_
    rotate_left
    ·(intro w9 hSw;(try dsimp only at hSw);obtain⟨q1,q0⟩:=hSw;obtain⟨ax0,ax1,ax2,ax3,ax4,ax5,ax6,ax7,ax8,ax9,ax10,ax11,ax12⟩:=eu q0;go_simp<;>with_reducible rfl)
    try simp only[Act.put,tA,tZ,tS]
    refine aF (i:=9) (v:=?_) (nP) (oc) (oc) (oc) (oc) (nQ) (Or.inl ⟨by rfl,?_⟩) (fun _=>by assumption) ?_
    rotate_left
    ·(intro w9 hSw;(try dsimp only at hSw);go_simp<;>with_reducible rfl)
    try simp only[Act.put,tA,tZ,tS]
    refine aF (i:=10) (v:=?_) (nP) (oc) (oc) (oc) (oc) (nQ) (Or.inl ⟨by rfl,?_⟩) (fun _=>by assumption) ?_
    rotate_left
    ·(intro w9 hSw;(try dsimp only at hSw);go_simp<;>with_reducible rfl)
    try simp only[Act.put,tA,tZ,tS]
    refine aF (i:=11) (v:=?_) (nP) (oc) (oc) (oc) (oc) (nQ) (Or.inl ⟨by rfl,?_⟩) (fun _=>by assumption) ?_
    rotate_left
    ·(intro w9 hSw;(try dsimp only at hSw);go_simp<;>with_reducible rfl)
    try simp only[Act.put,tA,tZ,tS]
    refine aZ (i:=12) (v:=?_) (nP) (oc) (oc) (oc) (oc) (nQ) (Or.inl ⟨by rfl,?_⟩) (nZ) ?_
    rotate_left
    ·(intro w9 hSw;(try dsimp only at hSw);obtain⟨q1,q0⟩:=hSw;obtain⟨ax0,ax1,ax2,ax3,ax4,ax5,ax6,ax7,ax8,ax9,ax10,ax11,ax12⟩:=eu q0;go_simp<;>with_reducible rfl)
    try simp only[Act.put,tA,tZ,tS]
    refine aF (i:=13) (v:=?_) (nP) (oc) (oc) (oc) (oc) (nQ) (Or.inl ⟨by rfl,?_⟩) (fun _=>by assumption) ?_
    rotate_left
    ·(intro w9 hSw;(try dsimp only at hSw);go_simp<;>with_reducible rfl)
    try simp only[Act.put,tA,tZ,tS]
    refine aF (i:=14) (v:=?_) (nP) (oc) (oc) (oc) (oc) (nQ) (Or.inl ⟨by rfl,?_⟩) (fun _=>by assumption) ?_
    rotate_left
    ·(intro w9 hSw;(try dsimp only at hSw);go_simp<;>with_reducible rfl)
    try simp only[Act.put,tA,tZ,tS]
    refine aF (i:=15) (v:=?_) (nP) (oc) (oc) (oc) (oc) (nQ) (Or.inl ⟨by rfl,?_⟩) (fun _=>by assumption) ?_
    rotate_left
    ·(intro w9 hSw;(try dsimp only at hSw);go_simp<;>with_reducible rfl)
    try simp only[Act.put,tA,tZ,tS]
    refine aZ (i:=16) (v:=?_) (nP) (oc) (oc) (oc) (oc) (nQ) (Or.inl ⟨by rfl,?_⟩) (nZ) ?_
    rotate_left
    ·(intro w9 hSw;(try dsimp only at hSw);obtain⟨q1,q0⟩:=hSw;obtain⟨ax0,ax1,ax2,ax3,ax4,ax5,ax6,ax7,ax8,ax9,ax10,ax11,ax12⟩:=eu q0;go_simp<;>with_reducible rfl)
    try simp only[Act.put,tA,tZ,tS]
    refine aF (i:=17) (v:=?_) (nP) (oc) (oc) (oc) (oc) (nQ) (Or.inl ⟨by rfl,?_⟩) (fun _=>by assumption) ?_
    rotate_left
    ·(intro w9 hSw;(try dsimp only at hSw);go_simp<;>with_reducible rfl)
    try simp only[Act.put,tA,tZ,tS]
    refine bf (rs:=[18]) (oc) (by simp) ?_
    refine aL.cons (nP) (fun K hK=>?_) aL.nil
    go_simp
    have hbA:Below w9.heap.size w9 (w9.drew.alloc (.cells #[.int .i64 yky,.int .i64 yst,.int .i64 yen,.int .i64 ytd,.int .i64 3,.int .i64 0,.int .i64 0,.int .i64 0,.int .i64 0] 52)):=ag (ap (Below.refl _ _)) _
    have HIa:=ae ((ab HI9).belw hbA)
    have hrowa:=(hbA.block ge (Array.getElem?_eq_some_iff.1 hrow9).1).trans hrow9
    have bOa:=(ab HIa).bO
    clear hHeld
    refine hK.out _ _ ?_ (fun hHeld=>?_)
    ·(try dsimp only);exact⟨bOa,hrowa⟩
    clear hK K
    try simp only[Act.put,tA,tZ,tS]
    refine bf (rs:=[19]) (oc) (by simp) ?_
    refine aL.cons (nP) (fun K hK=>?_) aL.nil
    refine ct rfl _ _ 32 rfl B 52 i1 _ 9 72 Tryz.underlying32 hi1 hy0 hy1 hy2 rfl (by decide) pv' qs.length (bs qs) rfl (ab HIa).pan ⟨w9.heap.size,0,none⟩ 1 1 [.int .i64 yky,.int .i64 yst,.int .i64 yen,.int .i64 ytd,.int .i64 3,.int .i64 0,.int .i64 0,.int .i64 0,.int .i64 0] rfl rfl (eM w9.drew _ _ _ _ _ _ _ _ _ _) (nT) (by unfold maxLen;omega) (by omega) (by have h9:=(ab HIa).bel.size;have h8:=(ab HIa).hBw;exact Nat.le_trans h8 h9) ?_
    intro v5 w5 hown ml hat
    obtain⟨g6,c6,rfl⟩:=ownsRow_succ hown
    have HI5:=ae ((ab HIa).app (x:=⟨yky,yst,yen,ytd,3,0,0,0,0⟩) ml hown)
    have bO5:=(ml.block Bo (Array.getElem?_eq_some_iff.1 bOa).1 (fun e9=>af (ab HIa).pan bOa (by decide) e9.symm)).trans bOa
    have hrow5:=(ml.block ge (Array.getElem?_eq_some_iff.1 hrowa).1 (fun e9=>af (ab HIa).pan hrowa (by decide) e9.symm)).trans hrowa
    clear hHeld
    refine hK.out _ _ ?_ (fun hHeld=>?_)
    ·(try dsimp only);exact⟨bO5,hrow5⟩
    clear hK K
    try simp only[Act.put,tA,tZ,tS]
    refine aF (i:=20) (v:=?_) (nP) (oc) (oc) (oc) (oc) (nQ) (Or.inl ⟨by rfl,?_⟩) (fun _=>by assumption) ?_
    rotate_left
    ·(intro w9 hSw;(try dsimp only at hSw);go_simp<;>with_reducible rfl)
    try simp only[Act.put,tA,tZ,tS]
    refine aF (i:=21) (v:=?_) (nP) (oc) (oc) (oc) (oc) (nQ) (Or.inl ⟨by rfl,?_⟩) (fun _=>by assumption) ?_
    rotate_left
    ·(intro w9 hSw;(try dsimp only at hSw);go_simp<;>with_reducible rfl)
    try simp only[Act.put,tA,tZ,tS]
    have k12:w5.cell? ⟨Bo,12,none⟩=some pv':=cA bO5 12
    have f12:=cF bO5 12
    refine bf (rs:=[22]) (oc) (by simp) ?_
    refine aL.consS (nP) (oc) (fun K hK=>?_) aL.nil
    go_simp
    refine hK.out _ _ ?_
    clear hK K
    try simp only[Act.put,tA,tZ,tS]
    refine ef (oc) ?_ _
    clear k12 f12 bO5 hrow5 hrowa bOa ml hown hat HIa hbA hrow9 bO9 HI9 hHeld
    rw[←ab HGo]at HI5
    generalize (w5.setCell ⟨Bo,12,none⟩ (.slice (some ⟨g6,0,none⟩) (qs.length+1) c6))=wz at HI5 ⊢
    go_wp2
    exact⟨⟨i2+1,e1,e2,e3,e4,_,by omega,by go_num,HA2,ab HI5⟩,by simp[intOf];omega⟩
   ·have hdp:decide (0<ytd)=false:=decide_eq_false htp
    have HGo:Hid (ps++dj ((aH ms).take (i2+1))=qs):=ae (by rw[gon_no (ab HRS) htp];exact ab Hqs)
    clear htp
    go_wp2
    rw[←ab HGo]at HI9
    exact⟨⟨i2+1,e1,e2,e3,e4,_,by omega,by go_num,HA2,ab HI9⟩,by simp[intOf];omega⟩
  ·skip
   obtain rfl:i2=nM:=by omega
   have e7:ms.take i2=ms:=List.take_of_length_le (by rw[ab HNM];exact Nat.le_refl _)
   have e8:(aH ms).take i2=aH ms:=List.take_of_length_le (by unfold aH;rw[List.length_map,ab HNM];exact Nat.le_refl _)
   rw[e7,e8]at hI
   rw[e8]at HAl
   clear e7 e8
   have HI:=ae hI
   have bO:=hI.bO
   have bK:=hI.bK
   have bA:=hI.bA
   clear hI
   go_wp2_with fail
   refine wp_region_held_drew (S:=(fun W=>W.heap[Bo]? =some (.cells #[.int .i64 s,.int .i64 t,.int .i64 k,.int .i64 z,.int .i64 q,.int .i64 l,.int .i64 e,.bool b,.int .i64 v,.int .i64 r,.int .i64 m,.map (some (mb)),pv',lv] 75 (0,0))∧W.heap[w.heap.size]? =some (.cells #[.int .i64 ky,.int .i64 st,.int .i64 en] 87 (0,0))∧W.heap[gk]? =some (.cells #[.int .i64 g1,.int .i64 g2,.int .i64 g3,.int .i64 g4] 50 (0,0)))) (oc) ?_ (fun hHeld=>?_)
   ·((try dsimp only);exact⟨bO,bA,bK⟩)
   refine kV 0 ?_
   refine kV 1 ?_
   refine kV 2 ?_
   refine kT 3 ?_ ?_ ?_
   rotate_left
   ·(intro w9 hSw;(try dsimp only at hSw);obtain⟨q0,q1,q2⟩:=hSw;have ax0:=cA q0 0;have ax1:=cA q0 1;have ax2:=cA q0 2;have ax3:=cA q0 3;have ax4:=cA q0 4;have ax5:=cA q0 5;have ax6:=cA q0 6;have ax7:=cA q0 7;have ax8:=cA q0 8;have ax9:=cA q0 9;have ax10:=cA q0 10;simp only[gA,gZ,gS]at ax0 ax1 ax2 ax3 ax4 ax5 ax6 ax7 ax8 ax9 ax10;have ax11:w9.cell? ⟨Bo,11,none⟩=some (.map (some (mb))):=(by simp[World.cell?,q0,go_sem]);have ax12:=cA q0 12;have ax13:=cA q0 13;simp only[gA,gZ,gS]at ax12 ax13;go_simp<;>with_reducible rfl)
   try simp only[Act.put,tA,tZ,tS]
   refine kT 4 ?_ ?_ ?_
   rotate_left
   ·(intro w9 hSw;(try dsimp only at hSw);obtain⟨q0,q1,q2⟩:=hSw;have bx0:=cA q1 0;have bx1:=cA q1 1;have bx2:=cA q1 2;simp only[gA,gZ,gS]at bx0 bx1 bx2;go_simp<;>with_reducible rfl)
   try simp only[Act.put,tA,tZ,tS]
   refine kV 5 ?_
   refine kT 6 ?_ ?_ ?_
   rotate_left
   ·(intro w9 hSw;(try dsimp only at hSw);obtain⟨q0,q1,q2⟩:=hSw;have bx0:=cA q1 0;have bx1:=cA q1 1;have bx2:=cA q1 2;simp only[gA,gZ,gS]at bx0 bx1 bx2;go_simp<;>with_reducible rfl)
   try simp only[Act.put,tA,tZ,tS]
   refine kV 7 ?_
   refine kT 8 ?_ ?_ ?_
   rotate_left
   ·(intro w9 hSw;(try dsimp only at hSw);obtain⟨q0,q1,q2⟩:=hSw;have bx0:=cA q1 0;have bx1:=cA q1 1;have bx2:=cA q1 2;simp only[gA,gZ,gS]at bx0 bx1 bx2;go_simp<;>with_reducible rfl)
   try simp only[Act.put,tA,tZ,tS]
   refine kT 9 ?_ ?_ ?_
   rotate_left
   ·(intro w9 hSw;(try dsimp only at hSw);obtain⟨q0,q1,q2⟩:=hSw;obtain⟨cx0,cx1,cx2,cx3⟩:=c4 q2;go_simp<;>with_reducible rfl)
   try simp only[Act.put,tA,tZ,tS]
   refine kT 10 ?_ ?_ ?_
   rotate_left
   ·(intro w9 hSw;(try dsimp only at hSw);obtain⟨q0,q1,q2⟩:=hSw;obtain⟨cx0,cx1,cx2,cx3⟩:=c4 q2;go_simp<;>with_reducible rfl)
   try simp only[Act.put,tA,tZ,tS]
   refine kV 11 ?_
   refine rD 12 (fun K hK=>?_)
   go_simp
   have hbA:Below wr.heap.size wr (wr.alloc (.cells #[.int .i64 ky,.int .i64 st,.int .i64 en,.int .i64 g1,.int .i64 g2,.int .i64 g3,.int .i64 g4,.int .i64 g1,.int .i64 g2,.int .i64 g3,.int .i64 g4,.int .i64 0,.bool false] 57)).drew:=ap (ag (Below.refl _ _) _)
   have HIb:=ae ((ab HI).belw hbA)
   have bOb:=(ab HIb).bO
   have bKb:=(ab HIb).bK
   have bAb:=(ab HIb).bA
   have hnw:ew (wr.alloc (.cells #[.int .i64 ky,.int .i64 st,.int .i64 en,.int .i64 g1,.int .i64 g2,.int .i64 g3,.int .i64 g4,.int .i64 g1,.int .i64 g2,.int .i64 g3,.int .i64 g4,.int .i64 0,.bool false] 57)).drew wr.heap.size (ff (ky,st,en) (dK vv (aH ms))):=by rw[ab HAl];exact World.alloc_heap_new wr _
   clear hHeld
   refine hK.out _ _ ?_ (fun hHeld=>?_)
   ·((try dsimp only);exact⟨bOb,bAb,bKb⟩)
   clear hK K
   try simp only[Act.put,tA,tZ,tS]
   refine rD 13 (fun K hK=>?_)
   obtain⟨wu,hst,hmu,hgu⟩:=(ab HIb).rows.map.store (by unfold maxLen;omega) (ky,st,en) hky (.pointer (some ⟨wr.heap.size,0,none⟩))
   dsimp only at hst
   go_simp
   clear hst
   have neu:∀(k:Nat) (cs:Array Value) (ty:TypeId),(wr.alloc (.cells #[.int .i64 ky,.int .i64 st,.int .i64 en,.int .i64 g1,.int .i64 g2,.int .i64 g3,.int .i64 g4,.int .i64 g1,.int .i64 g2,.int .i64 g3,.int .i64 g4,.int .i64 0,.bool false] 57)).drew.heap[k]? =some (.cells cs ty (0,0))→wu.heap[k]? =some (.cells cs ty (0,0)):=fun k cs ty hk=>(hgu.block k (Array.getElem?_eq_some_iff.1 hk).1 (fun e9=>(ab HIb).rows.map.ne_cells hk (Option.some.inj e9))).trans hk
   have HRu:=ae ((ab HIb).rows.put wr.heap.size _ hnw (by have h9:=(ab HI).bel.size;have h8:=(ab HI).hBw;omega) (fun e9 he9 h8=>by have h7:=((ab HI).rows.box e9 he9).lt;omega) (fun e9 he9=>by show ¬ aU e9.2=aU (ff (ky,st,en) (dK vv (aH ms)));exact hfree e9 he9) hmu hgu)
   have bOu:=neu _ _ _ bOb
   have HPu:=ae (dl (ab HIb).pan hgu (fo (ab HIb).pan (ab HIb).rows.map))
   have HLu:=ae (dl (ab HIb).lat hgu (fo (ab HIb).lat (ab HIb).rows.map))
   have HBu:=ae ((ab HIb).bel.grown hgu (Nat.le_trans (ab HIb).hBw (ab HIb).bel.size) (fun k9 e9=>by cases e9;exact(ab HIb).hmb))
   have HKu:=ae ((ab HIb).kp.trans ⟨hgu.size,fun k cs ty _ hk=>neu k cs ty hk⟩)
   have bAu:=neu _ _ _ bAb
   have bKu:=neu _ _ _ bKb
   clear hHeld
   refine hK.out _ _ ?_ (fun hHeld=>?_)
   ·((try dsimp only);exact⟨bOu,bAu,bKu⟩)
   clear hK K
   try simp only[Act.put,tA,tZ,tS]
   refine wpAnyH_done (oc) ?_ _
   clear hHeld hmu hgu neu bAu bKu bOb bKb bAb HIb HI hbA hnw bO bK bA
   go_wp2
   exact⟨rfl,.tuple #[],results_none rfl _ _ _,rfl,_,_,bOu,ab HRu,ab HPu,ab HLu,ab HBu,ab HKu⟩
end Go.Proofs.YtdmhihcipkhecaaGreat
