/- Laid together: what the claim needs of the texts that were built one by one. -/
import Derived.Test.YtdmhihcipkhecaaGreatR15
import Derived.Maps.RangeWalk
import Derived.Test.YtdmhihcipkhecaaGreatR0
import Derived.DefersIn
import Derived.Test.YtdmhihcipkhecaaGreatR3
import Derived.Test.YtdmhihcipkhecaaGreatR14
set_option linter.unusedVariables false
namespace Go.Proofs.YtdmhihcipkhecaaGreat
open Go.ChangeShapes Go.WideShapes Go.ChangeAt Go.RowKit Go.Shelf Go.Maps
set_option linter.unusedSimpArgs false
set_option maxRecDepth 20000 in
set_option maxHeartbeats 2000000 in
theorem shut1_is(Bo Q:Nat)(s t k z q l e:Int)(b:Bool)(v r m:Int)(mb:Nat)(pv lv:Value)(ky st en:Int)(c:Value)(w:World)(hO:w.heap[Bo]? =some (.cells #[.int .i64 s,.int .i64 t,.int .i64 k,.int .i64 z,.int .i64 q,.int .i64 l,.int .i64 e,.bool b,.int .i64 v,.int .i64 r,.int .i64 m,.map (some (mb)),pv,lv] 75 (0,0)))(hQ:w.heap[Q]? =some (.cells #[.pointer (some ⟨Bo,0,none⟩)] 69 (0,0)))(hb: -1000≤en∧en≤1000∧0≤l∧l≤20){o:Bool}(ho:Hid (fj l m en=o)):Calls Tryz.prog 92 #[.agg #[.int .i64 ky,.int .i64 st,.int .i64 en],c,.pointer (some ⟨Q,0,none⟩)] w fun e' w'=>e'= .returned (.bool o)∧Below w.heap.size w w':=by
 have hQs:Q<w.heap.size:=(Array.getElem?_eq_some_iff.1 hQ).1
 have cQ:w.cell? ⟨Q,0,none⟩=some (.pointer (some ⟨Bo,0,none⟩)):=cA hQ 0
 have hOa:=(Below.heap_alloc w (.cells #[.int .i64 ky,.int .i64 st,.int .i64 en] 87) Bo (Array.getElem?_eq_some_iff.1 hO).1).trans hO
 have hi:=ae (jn Bo s t k z q l e b v r m mb pv lv st en _ hOa hb)
 rw[ab ho]at hi
 clear hOa hO hQ
 go_enter Tryz.func92,Tryz.ntmps92
 go_wp2_with fail
 refine(ab hi).mono ?_
 rintro e' w2 ⟨rfl,hb2⟩
 go_wp2
 go_ret
 exact⟨rfl,am (ax _ _) hb2⟩
theorem OpD.congr{D:DataW Value}{m m':P3→Option Value}(h:OpD Tryz.prog 87 v3 fe DataW.held D m)(he:∀q,fe q→m q=m' q):OpD Tryz.prog 87 v3 fe DataW.held D m':=fun q hq kl hkl=>by
 have h9:=h q hq kl hkl
 rw[he q hq]at h9
 exact h9
theorem OpD.del{D:DataW Value}{m:P3→Option Value}(h:OpD Tryz.prog 87 v3 fe DataW.held D m)(x:P3){kl:Lit}(hkl:keyOf Tryz.prog 87 (v3 x)=some kl):OpD Tryz.prog 87 v3 fe DataW.held (D.del kl) (fun q=>if q=x then none else m q):=fun q hq kq hkq=>by
 by_cases e:q=x
 ·subst e
  rw[hkl]at hkq
  cases hkq
  simp only[if_true]
  exact⟨fun a' ha'=>(by cases ha'),fun _=>has_del_same⟩
 ·have hne:kq≠kl:=fun e'=>e (inj3 _ _ (ik.inj (by rw[←e'];exact hkq) hkl))
  simp only[if_neg e]
  obtain⟨f1,f2⟩:=h q hq kq hkq
  exact⟨fun a' ha' zd=>by rw[atKey_del_other hne];exact f1 a' ha' zd,fun h9=>by rw[has_del_other hne];exact f2 h9⟩
theorem same_of{q x:P3}{kq kl:Lit}(hkq:keyOf Tryz.prog 87 (v3 q)=some kq)(hkl:keyOf Tryz.prog 87 (v3 x)=some kl):kq.sameKey kl=decide (q=x):=by
 by_cases e:q=x
 ·subst e
  rw[hkl]at hkq
  cases hkq
  simp[WideAt.sameKey_self (ik.key hkl)]
 ·have hne:kq≠kl:=fun e'=>e (inj3 _ _ (ik.inj (by rw[←e'];exact hkq) hkl))
  cases h9:kq.sameKey kl with
  |false=>simp[e]
  |true=>exact absurd (WideAt.sameKey_eq h9) hne
set_option maxRecDepth 100000 in
set_option maxHeartbeats 4000000 in
theorem deletef_any(Bo Q nn:Nat)(s t k z q l e:Int)(b:Bool)(v r m:Int)(mb:Nat)(pv lv:Value)(m0:P3→Option Value)(w:World)(hO:w.heap[Bo]? =some (.cells #[.int .i64 s,.int .i64 t,.int .i64 k,.int .i64 z,.int .i64 q,.int .i64 l,.int .i64 e,.bool b,.int .i64 v,.int .i64 r,.int .i64 m,.map (some (mb)),pv,lv] 75 (0,0)))(hQ:w.heap[Q]? =some (.cells #[.pointer (some ⟨Bo,0,none⟩)] 69 (0,0)))(hl:0≤l∧l≤20)(hown:bL w mb nn m0)(hbd:∀q,fe q→m0 q≠none→ -1000≤q.2.2∧q.2.2≤1000):
  Calls Tryz.prog 91 #[.map (some mb),.func (.func 92) #[] #[.pointer (some ⟨Q,0,none⟩)]] w fun e' w'=>e'= .returned (.tuple #[])∧bL w' mb nn (fun q=>if fj l m q.2.2=true then none else m0 q)∧w.grownBy w' (some mb):=by
 have hneO:Bo≠mb:=hown.ne_cells hO
 have hneQ:Q≠mb:=hown.ne_cells hQ
 have zO:Bo<w.heap.size:=(Array.getElem?_eq_some_iff.1 hO).1
 have zQ:Q<w.heap.size:=(Array.getElem?_eq_some_iff.1 hQ).1
 obtain⟨D0,hD0,hD1⟩:=hown
 have hst0:∀q,fe q→∀kl,keyOf Tryz.prog 87 (v3 q)=some kl→has D0 kl=false→m0 q=none:=by
  intro q hq kl hkl hh
  cases hm:m0 q with
  |none=>rfl
  |some a=>rw[has_true_of_atKey ((hD1 q hq kl hkl).1 a hm)]at hh;cases hh
 go_enter Tryz.func91,Tryz.ntmps91
 go_wp2_with (first
  |(at_range;refine wpList_range_own _ rfl _ 73 rfl 87 102 ik Tryz.underlying73 _ mb nn _ rfl hD0 ?_;intro w0 hrg0 hg0 hs0)
  |go_in)
 go_frame
 go_loopw [4] (fun _ wr=>∃(left:Lit→Bool) (cnt:Nat) (D:DataW Value) (mc:P3→Option Value),wr.ranges Tryz.prog 87 rdV mb w.heap.size nn D left cnt∧OpD Tryz.prog 87 v3 fe DataW.held D mc∧(∀q,fe q→∀kl,keyOf Tryz.prog 87 (v3 q)=some kl→mc q=if left kl=true then m0 q else if fj l m q.2.2=true then none else m0 q)∧w.grownBy wr (some mb))
  (fun _ wr=>wr.rangeLeft mb w.heap.size)
 case atStart=>
  refine⟨_,_,D0,m0,hrg0,hD1,fun q hq kl hkl=>?_,hg0.but _⟩
  cases hh:has D0 kl with
  |true=>simp
  |false=>
   rw[hst0 q hq kl hkl hh]
   simp
 case round=>
  obtain⟨left,cnt,D,mc,hrg,hD,hmc,hgw⟩:=hrel
  go_wp2_with (first
   |(at_next;refine wpList_next_ranges _ rfl _ rfl 87 ik rdV v3 id (fun key kl hk=>by obtain⟨x,hx,_⟩:=inv3 key kl hk;exact⟨x,hx⟩) (fun v _ _=>⟨v,rfl⟩) mb w.heap.size nn _ _ _ rfl hrg ?_ ?_)
   |go_in)
  ·intro hc0 hl0
   go_wp2
   go_end0
   refine⟨rfl,⟨D,hrg.owns,hD.congr (fun q hq=>?_)⟩,hgw⟩
   obtain⟨kl,hkl⟩:=ks q hq
   rw[hmc q hq kl hkl,hl0 kl]
   simp
  ·intro xa xb xc c kl yd yp w2 cnt2 hkey hlk hv hat hrg2 hlt hg2 hs2 hen
   obtain⟨x',ex,hx⟩:=inv3 _ kl hkey
   obtain rfl:(xa,xb,xc)=x':=inj3 _ _ ex
   have hmx:mc (xa,xb,xc)=m0 (xa,xb,xc):=by rw[hmc _ hx kl hkey,hlk];simp
   have hm0x:m0 (xa,xb,xc)≠none:=by
    intro h9
    have h8:=(hD _ hx kl hkey).2 (by rw[hmx];exact h9)
    rw[has_true_of_atKey hat]at h8
    cases h8
   have hbx:=hbd _ hx hm0x
   dsimp only at hbx
   have hgw2:=hgw.andThen hg2 (fun j hj=>by cases hj;exact Or.inl (Nat.le_refl _))
   have hO2:=(hgw2.block Bo zO (fun e9=>hneO (Option.some.inj e9))).trans hO
   have hQ2:=(hgw2.block Q zQ (fun e9=>hneQ (Option.some.inj e9))).trans hQ
   have hOa:=(Below.heap_alloc w2 (.cells #[.int .i64 xa,.int .i64 xb,.int .i64 xc] 87) Bo (Array.getElem?_eq_some_iff.1 hO2).1).trans hO2
   have hQa:=(Below.heap_alloc w2 (.cells #[.int .i64 xa,.int .i64 xb,.int .i64 xc] 87) Q (Array.getElem?_eq_some_iff.1 hQ2).1).trans hQ2
   have hgwa:w.grownBy (w2.alloc (.cells #[.int .i64 xa,.int .i64 xb,.int .i64 xc] 87)) (some mb):=hgw2.andThen (World.grownBy_alloc w2 _ none) (fun j hj=>by cases hj)
   have hrga:=hrg2.alloc (.cells #[.int .i64 xa,.int .i64 xb,.int .i64 xc] 87)
   have hkk:w2.heap.size<(w2.alloc (.cells #[.int .i64 xa,.int .i64 xb,.int .i64 xc] 87)).heap.size:=by simp
   obtain⟨o,ho⟩:∃o,fj l m xc=o:=⟨_,rfl⟩
   have HO:=ae ho
   have hcl:=ae (shut1_is Bo Q s t k z q l e b v r m mb pv lv xa xb xc c _ hOa hQa ⟨hbx.1,hbx.2,hl.1,hl.2⟩ HO)
   clear hO2 hQ2 hOa hQa hs2 hv
   simp only[v3,id]at hen
   go_wp2_with fail
   refine(ab hcl).mono ?_
   rintro e9 w3 ⟨rfl,hb3⟩
   have hrg3:=hrga.kept (aB hb3) (by simp) (by simp)
   have hgw3:w.grownBy w3 (some mb):=hgwa.andThen (aB hb3) (fun j hj=>by cases hj)
   have kc0:w3.cell? ⟨w2.heap.size,0,none⟩=some (.int .i64 xa):=(hb3.cell (p:=⟨w2.heap.size,0,none⟩) hkk).trans (om)
   have kc1:w3.cell? ⟨w2.heap.size,1,none⟩=some (.int .i64 xb):=(hb3.cell (p:=⟨w2.heap.size,1,none⟩) hkk).trans (om)
   have kc2:w3.cell? ⟨w2.heap.size,2,none⟩=some (.int .i64 xc):=(hb3.cell (p:=⟨w2.heap.size,2,none⟩) hkk).trans (om)
   clear hcl hen hrga hgwa
   cases o with
   |false=>
    go_wp2
    go_roundw
    case rel=>
     refine⟨_,cnt2,D,mc,hrg3,hD,fun q9 hq9 k9 hk9=>?_,hgw3⟩
     rw[hmc q9 hq9 k9 hk9,same_of hk9 hkey]
     by_cases e9:q9=(xa,xb,xc)
     ·subst e9
      rw[hkey]at hk9
      cases hk9
      simp[hlk,ab HO]
     ·simp[e9]
    case measure=>rw[hrg3.left_eq,hrg.left_eq];exact hlt
   |true=>
    go_wp2_with (first
     |(at_delete;refine wpList_delete_ranges _ rfl _ _ 73 87 rfl 102 ik Tryz.underlying73 _ mb w.heap.size nn _ _ _ rfl hrg3 _ kl rfl hkey ?_;intro w4 cnt4 hrg4 hle hturn;go_frame)
     |go_in)
    rw[strike_twice]at hrg4
    go_roundw
    case rel=>
     refine⟨_,cnt4,_,_,hrg4,hD.del (xa,xb,xc) hkey,fun q9 hq9 k9 hk9=>?_,hgw3.andThen hturn.grown (fun j hj=>by cases hj;exact Or.inr rfl)⟩
     rw[same_of hk9 hkey]
     by_cases e9:q9=(xa,xb,xc)
     ·subst e9
      simp[ab HO]
     ·rw[if_neg e9,hmc q9 hq9 k9 hk9]
      simp[e9]
    case measure=>rw[hrg4.left_eq,hrg.left_eq];omega
/-- The rows that stay. -/
def kj(l m:Int)(es:List bs):List bs:=es.filter (fun e=> !fj l m e.2.en)
theorem mapE_shut(l m:Int){es:List bs}(hr:cP es):(fun q:P3=>if fj l m q.2.2=true then none else(cf es q).map Value.pointer)=fun q=>(cf (kj l m es) q).map Value.pointer:=by
 have hr2:cP (kj l m es):=List.Pairwise.sublist List.filter_sublist hr
 funext q
 cases hm:cf es q with
 |none=>
  have h1:cf (kj l m es) q=none:=ku (fun e he e9=>by
   have h2:=mapE_mem hr (List.mem_filter.1 he).1
   rw[e9,hm]at h2
   cases h2)
  rw[h1]
  simp
 |some a=>
  obtain⟨e,he,rfl,rfl⟩:=kz hm
  have e1:(aT e.2).2.2=e.2.en:=rfl
  rw[e1]
  cases hs:fj l m e.2.en with
  |true=>
   have h1:cf (kj l m es) (aT e.2)=none:=ku (fun e8 he8 e9=>by
    have h2:=List.mem_filter.1 he8
    rw[hr.inj h2.1 he e9,hs]at h2
    simp at h2)
   rw[h1]
   simp
  |false=>
   rw[mapE_mem hr2 (List.mem_filter.2 ⟨he,by simp[hs]⟩)]
   simp
set_option maxRecDepth 100000 in
set_option maxHeartbeats 4000000 in
theorem shut_any(u:FrameMode)(Bo B nn:Nat)(s t k z q l e:Int)(b:Bool)(v r m:Int)(mb:Nat)(pv lv:Value)(es:List bs)(w:World)(hO:w.heap[Bo]? =some (.cells #[.int .i64 s,.int .i64 t,.int .i64 k,.int .i64 z,.int .i64 q,.int .i64 l,.int .i64 e,.bool b,.int .i64 v,.int .i64 r,.int .i64 m,.map (some (mb)),pv,lv] 75 (0,0)))(hR:bu w B mb nn es)(hl:0≤l∧l≤20)(hrise:cP es)(hen:∀e ∈ es,-1000≤e.2.en∧e.2.en≤1000):
  CallsDIn Fence.wide 25 Tryz.prog 65 #[.pointer (some ⟨Bo,0,none⟩)] u w fun e' u' w'=>u'=u∧(e'= .returned (.tuple #[])∧bu w' B mb nn (kj l m es)∧w.grownBy w' (some mb)):=by
 have zO:Bo<w.heap.size:=(Array.getElem?_eq_some_iff.1 hO).1
 have c11:w.cell? ⟨Bo,11,none⟩=some (.map (some mb)):=cA hO 11
 have hmf:∀(fn:Fn) (first cap:Array Value) (w:World),(Instr.makeFunc fn first cap).run Tryz.prog w= .ok (.func fn first cap) w:=fun _ _ _ _=>rfl
 have hOa:=(Below.heap_alloc w (.cells #[.pointer (some ⟨Bo,0,none⟩)] 69) Bo zO).trans hO
 have hQa:(w.alloc (.cells #[.pointer (some ⟨Bo,0,none⟩)] 69)).heap[w.heap.size]? =some (.cells #[.pointer (some ⟨Bo,0,none⟩)] 69 (0,0)):=World.alloc_heap_new w _
 have hd:=ae (deletef_any Bo w.heap.size nn s t k z q l e b v r m mb pv lv _ _ hOa hQa hl (hR.map.bel (ax w _)) (fun q9 hq9 h9=>by
  cases hm:cf es q9 with
  |none=>rw[hm]at h9;exact absurd rfl h9
  |some a=>
   obtain⟨e9,he9,rfl,_⟩:=kz hm
   exact hen e9 he9))
 clear hOa hQa
 refine callsDIn_of_wp Tryz.func65 rfl trivial ?_ rfl
 simp only[Tryz.ntmps65,List.size_toArray,List.length_cons,List.length_nil,Nat.reduceAdd,Nat.reduceSub,Array.replicate_succ,Array.replicate_zero,List.push_toArray,List.append_toArray,List.nil_append,List.cons_append]
 gi_wp2_with (refine⟨trivial,?_⟩;gi_at_call 91;refine(callsIn_wide.2 (ab hd)).mono ?_;rintro e' w2 ⟨rfl,hO2,hg2⟩)
 go_end0
 have hg3:w.grownBy w2 (some mb):=(World.grownBy_alloc w _ (some mb)).andThen hg2 (fun j hj=>by cases hj;exact Or.inr rfl)
 rw[mapE_shut l m hrise]at hO2
 refine⟨rfl,⟨hO2,fun e9 he9=>?_,fun e9 he9=>hR.ge e9 (List.mem_filter.1 he9).1,?_⟩,hg3⟩
 ·have b9:=hR.box e9 (List.mem_filter.1 he9).1
  exact(hg3.block _ b9.lt (fun e8=>hR.map.ne_cells b9 (Option.some.inj e8))).trans b9
 ·exact List.Nodup.sublist (List.Sublist.map _ List.filter_sublist) hR.nd
set_option linter.unusedSimpArgs false
theorem own_ne_map{W:World}{B size n mb nn:Nat}{e:TypeId}{v:Value}{ys:List Value}{f:P3→Option Value}(h:W.ownsRow B e size v n ys)(hm:bL W mb nn f):v.ownBlock≠some mb:=by
 rcases h.2 with⟨rfl,_⟩|⟨g,cap,cur,rfl,_,hgb,_⟩
 ·simp[Value.ownBlock]
 ·intro e9
  simp[Value.ownBlock]at e9
  exact hm.ne_cells hgb e9
theorem gEs_rise{m:Int}{es:List bs}(h:cP es):cP (gu m es):=by
 unfold cP gu
 rw[List.pairwise_map]
 refine List.Pairwise.imp ?_ h
 intro a c hac
 have e1:∀x:bs,aT (if bQ m x.2=true then cy x.2 else x.2)=aT x.2:=fun x=>by split<;>rfl
 show bN (aT (if bQ m a.2=true then cy a.2 else a.2)) (aT (if bQ m c.2=true then cy c.2 else c.2))
 rw[e1,e1]
 exact hac
theorem gEs_mem{m:Int}{es:List bs}{e:bs}(h:e ∈ gu m es):∃x ∈ es,e.1=x.1∧aT e.2=aT x.2∧e.2.en=x.2.en:=by
 unfold gu at h
 obtain⟨x,hx,rfl⟩:=List.mem_map.1 h
 refine⟨x,hx,rfl,?_,?_⟩<;>dsimp only<;>split<;>rfl
theorem bu.set{W:World}{B mb nn Bo o:Nat}{es:List bs}{cs:Array Value}(h:bu W B mb nn es)(hO:W.heap[Bo]? =some (.cells cs 75 (0,0)))(u:Value):bu (W.setCell ⟨Bo,o,none⟩ u) B mb nn es:=by
 refine⟨bp.keep h.map (Below.heap_setCell _ _ _ _ (fun e=>h.map.ne_cells hO e.symm)),fun e he=>?_,h.ge,h.nd⟩
 have b9:=h.box e he
 exact(Below.heap_setCell _ _ _ _ (fun e9=>by have b7:=b9;unfold et at b7;rw[show e.1=Bo from e9,hO]at b7;simp at b7)).trans b9
set_option maxRecDepth 100000 in
set_option maxHeartbeats 4000000 in
theorem pass_any(Bo B nn:Nat)(s t k z q l e:Int)(b:Bool)(v r m:Int)(mb:Nat)(pv lv:Value)(ps:List cY)(es:List bs)(mark:Int)(w:World)(hO:w.heap[Bo]? =some (.cells #[.int .i64 s,.int .i64 t,.int .i64 k,.int .i64 z,.int .i64 q,.int .i64 l,.int .i64 e,.bool b,.int .i64 v,.int .i64 r,.int .i64 m,.map (some (mb)),pv,lv] 75 (0,0)))(hBo:B≤Bo)(hBw:B≤w.heap.size)(hmb:B≤mb)(hR:bu w B mb nn es)(hP:aQ w B pv ps)(hl:0≤l∧l≤20)(hrise:cP es)(hok:∀e ∈ es,fe (aT e.2))(hen:∀e ∈ es,-1000≤e.2.en∧e.2.en≤1000)(htds:∀e ∈ es,0≤e.2.td∧e.2.td≤100000)(hnn:nn≤1000)(hps:ps.length≤1000)(hesl:es.length≤nn):
  Calls Tryz.prog 35 #[.pointer (some ⟨Bo,0,none⟩),.int .i64 mark] w fun e' w'=>e'= .returned (.tuple #[])∧∃pv',w'.heap[Bo]? =some (.cells #[.int .i64 s,.int .i64 t,.int .i64 k,.int .i64 z,.int .i64 q,.int .i64 l,.int .i64 e,.bool b,.int .i64 v,.int .i64 r,.int .i64 (max m mark),.map (some (mb)),pv',lv] 75 (0,0))∧bu w' B mb nn (kj l (max m mark) (gu (max m mark) es))∧aQ w' B pv' (ps++(es.filter (fun e=>bQ (max m mark) e.2)).map (fun e=>dz b e.2))∧Below B w w':=by
 have zO:Bo<w.heap.size:=(Array.getElem?_eq_some_iff.1 hO).1
 have cT:w.cell? ⟨Bo,10,none⟩=some (.int .i64 m):=cA hO 10
 have f10:=cF hO 10
 have hcl:∀e ∈ es,True:=fun _ _=>trivial
 refine(callsIn_wide (n:=26)).1 ?_
 refine callsIn_of_wp_defers Tryz.func35 rfl trivial ?_ rfl
 simp only[Tryz.ntmps35,List.size_toArray,List.length_cons,List.length_nil,Nat.reduceAdd,Nat.reduceSub,Array.replicate_succ,Array.replicate_zero,List.push_toArray,List.append_toArray,List.nil_append,List.cons_append]
 gi_wp2
 generalize max m mark=mm
 have bO1:(w.setCell ⟨Bo,10,none⟩ (.int .i64 mm)).heap[Bo]? =some (.cells #[.int .i64 s,.int .i64 t,.int .i64 k,.int .i64 z,.int .i64 q,.int .i64 l,.int .i64 e,.bool b,.int .i64 v,.int .i64 r,.int .i64 mm,.map (some (mb)),pv,lv] 75 (0,0)):=Joins.block_setCell hO _
 have hR1:=hR.set (o:=10) hO (.int .i64 mm)
 have hP1:aQ (w.setCell ⟨Bo,10,none⟩ (.int .i64 mm)) B pv ps:=ak hP (af hP hO (by decide))
 have hB1:Below B w (w.setCell ⟨Bo,10,none⟩ (.int .i64 mm)):=(Below.refl B w).setCell hBo _
 have hz1:B≤(w.setCell ⟨Bo,10,none⟩ (.int .i64 mm)).heap.size:=by have:=hB1.size;omega
 generalize w.setCell ⟨Bo,10,none⟩ (.int .i64 mm)=w1 at bO1 hR1 hP1 hB1 hz1 ⊢
 refine leavesIn_cons (f:=59) (args:=#[.pointer (some ⟨Bo,0,none⟩)]) (by simp) (fun _=>by omega) (om) (fun _ _=>trivial) ?_
 refine(jP .returning Bo B mb nn s t k z q l e b v r mm pv lv ps es w1 bO1 hBo hz1 hR1 hP1 hrise hok htds hnn hps hesl).mono ?_
 rintro e9 u9 w2 ⟨rfl,rfl,pv2,bO2,hR2,hP2,hB2,hK2⟩
 refine leavesIn_cons (f:=65) (args:=#[.pointer (some ⟨Bo,0,none⟩)]) (by simp[settle]) (fun _=>by omega) (om) (fun _ _=>trivial) ?_
 refine(shut_any _ Bo B nn s t k z q l e b v r mm mb pv2 lv (gu mm es) w2 bO2 hR2 hl (gEs_rise hrise) (fun e9 he9=>by
  obtain⟨x,hx,_,_,h9⟩:=gEs_mem he9
  rw[h9]
  exact hen x hx)).mono ?_
 rintro e8 u8 w3 ⟨rfl,rfl,hR3,hg3⟩
 have bO3:=(hg3.block Bo (Array.getElem?_eq_some_iff.1 bO2).1 (fun e9=>hR2.map.ne_cells bO2 (Option.some.inj e9))).trans bO2
 have hb3:Below B w w3:=(hB1.trans hB2).grown hg3 (by have:=(hB1.trans hB2).size;omega) (fun k9 e9=>by cases e9;exact hmb)
 exact⟨.tuple #[],results_none rfl _ _ _,rfl,pv2,bO3,hR3,di hP2 hg3 (own_ne_map hP2 hR2.map),hb3⟩
end Go.Proofs.YtdmhihcipkhecaaGreat
namespace Go.Proofs.YtdmhihcipkhecaaGreat
open Go.ChangeShapes Go.WideShapes Go.ChangeAt Go.RowKit
set_option linter.unusedSimpArgs false
/-- A row is told by a mark, in time; the rows and the panes behind it. -/
def dV(mark:Int)(x:aD):Bool:= !x.tm&&decide (x.en≤mark)
def dW(mark:Int)(x:aD):aD:=if dV mark x=true then cy x else x
def mkPan(pc:Bool)(x:aD):cY:=⟨x.ky,x.st,x.en,x.td,1,if pc=true then x.fn else x.an,if pc=true then x.fsu else x.asu,if pc=true then x.fle else x.ale,if pc=true then x.fmo else x.amo⟩
def bj(l mark:Int)(xs:List aD):List aD:=(xs.map (dW mark)).filter (fun x=>decide (mark<x.en+l))
def br(pc:Bool)(mark:Int)(xs:List aD):List cY:=(xs.filter (dV mark)).map (mkPan pc)
def bM(s t k z q l e:Int)(b:Bool)(v r m:Int)(xs:List aD)(mark:Int):Int×List aD×List cY:=if (b6 s t k z q l e v r m xs&&bD mark 0 1000)=true then(if m<mark then(mark,bj l mark xs,br b mark xs)else(m,xs,[]))else(0,[],[])
theorem tel_of{l m mark:Int}{x:aD}(h:x.okB l m=true)(hm:m<mark):bQ mark x=dV mark x:=by
 obtain⟨_,_,h3,_,_,h6,h7⟩:=cK h
 unfold bQ dV
 rw[h6]
 by_cases hc:x.en≤m
 ·have:x.fn=0:=h7.2 hc
  simp[hc,this]
 ·have:0<x.fn:=by
   have:=fun h9=>hc (h7.1 h9)
   omega
  simp[hc,this]
theorem pan_of{l m mark:Int}{x:aD}(pc:Bool)(h:x.okB l m=true)(ht:dV mark x=true):dz pc x=mkPan pc x:=by
 unfold dV at ht
 simp at ht
 unfold dz mkPan
 simp[ht.1]
theorem impl_mark(s t k z q l e:Int)(b:Bool)(v r m:Int){xs:List aD}{mark:Int}(h:b6 s t k z q l e v r m xs=true)(hi:bD mark 0 1000=true){es:List bs}(hE:es.map (fun e=>e.2)=xs):bM s t k z q l e b v r m xs mark=(max m mark,(kj l (max m mark) (gu (max m mark) es)).map (fun e=>e.2),(es.filter (fun e=>bQ (max m mark) e.2)).map (fun e=>dz b e.2)):=by
 obtain⟨_,_,_,hok,_⟩:=dS h
 have hes:∀e ∈ es,e.2.okB l m=true:=fun e he=>hok _ (by rw[←hE];exact List.mem_map.2 ⟨e,he,rfl⟩)
 unfold bM
 rw[h,hi]
 simp only[Bool.and_self,if_true]
 by_cases hm:m<mark
 ·rw[if_pos hm,Int.max_eq_right (by omega)]
  congr 1
  congr 1
  ·unfold bj kj gu
   rw[←hE,List.map_map,List.filter_map,List.filter_map,List.map_map]
   have e1:(es.filter ((fun x:aD=>decide (mark<x.en+l))∘(dW mark∘fun e:bs=>e.2)))=es.filter ((fun e:bs=> !fj l mark e.2.en)∘fun e:bs=>(e.1,if bQ mark e.2=true then cy e.2 else e.2)):=by
    refine List.filter_congr (fun e he=>?_)
    show decide (mark<(dW mark e.2).en+l)= !fj l mark (if bQ mark e.2=true then cy e.2 else e.2).en
    have e2:(dW mark e.2).en=e.2.en:=by unfold dW;split<;>rfl
    have e3:(if bQ mark e.2=true then cy e.2 else e.2).en=e.2.en:=by split<;>rfl
    simp only[e2,e3]
    unfold fj
    by_cases hc:e.2.en+l≤mark
    ·have:¬ mark<e.2.en+l:=by omega
     simp[hc,this]
    ·have:mark<e.2.en+l:=by omega
     simp[hc,this]
   rw[e1]
   refine List.map_congr_left (fun e he=>?_)
   simp only[Function.comp]
   unfold dW
   rw[tel_of (hes e (List.mem_filter.1 he).1) hm]
  ·unfold br
   rw[←hE,List.filter_map,List.map_map]
   have e1:es.filter (dV mark∘fun e:bs=>e.2)=es.filter (fun e=>bQ mark e.2):=List.filter_congr (fun e he=>by simp only[Function.comp];rw[tel_of (hes e he) hm])
   rw[e1]
   refine List.map_congr_left (fun e he=>?_)
   have h9:=List.mem_filter.1 he
   simp only[Function.comp]
   exact(pan_of b (hes e h9.1) (by rw[←tel_of (hes e h9.1) hm];simpa using h9.2)).symm
 ·rw[if_neg hm,Int.max_eq_left (by omega)]
  have g1:gu m es=es:=by
   unfold gu
   have:es.map (fun e:bs=>(e.1,if bQ m e.2=true then cy e.2 else e.2))=es.map id:=List.map_congr_left (fun e he=>by rw[tel_no (hes e he)];rfl)
   rw[this,List.map_id]
  have g2:kj l m es=es:=by
   unfold kj
   rw[List.filter_eq_self]
   intro e he
   have:=(cK (hes e he)).2.2.2.2.1
   unfold fj
   simp
   omega
  have g3:es.filter (fun e=>bQ m e.2)=[]:=List.filter_eq_nil_iff.2 (fun e he=>by rw[tel_no (hes e he)];simp)
  rw[g1,g2,g3,hE]
  rfl
end Go.Proofs.YtdmhihcipkhecaaGreat
namespace Go.Proofs.YtdmhihcipkhecaaGreat
open Go.ChangeShapes Go.WideShapes Go.ChangeAt Go.RowKit Go.Shelf Go.Maps
set_option linter.unusedSimpArgs false
theorem dM{W:World}{B B' size n:Nat}{e:TypeId}{v:Value}{ys:List Value}(h:W.ownsRow B e size v n ys)(hB:B'≤B):W.ownsRow B' e size v n ys:=by
 rcases h with⟨hl,h|⟨g,cap,cur,rfl,hg,r⟩⟩
 ·exact⟨hl,Or.inl h⟩
 ·exact⟨hl,Or.inr ⟨g,cap,cur,rfl,by omega,r⟩⟩
set_option maxRecDepth 100000 in
set_option maxHeartbeats 8000000 in
theorem lQ(s t k z q l e:Int)(b:Bool)(v r m:Int)(a:Option Addr)(len cap:Nat)(xs:List aD)(mark:Int)(w:World)(h:bV w a len xs):Calls Tryz.prog 14 #[.agg #[.int .i64 s,.int .i64 t,.int .i64 k,.int .i64 z,.int .i64 q,.int .i64 l,.int .i64 e,.bool b,.int .i64 v,.int .i64 r],.agg #[.int .i64 m,.slice a len cap],.int .i64 mark] w fun e' w'=>∃v1 v2,e'= .returned (.tuple #[.agg #[.int .i64 (bM s t k z q l e b v r m xs mark).1,v1],v2])∧aR w' w.heap.size v1 (bM s t k z q l e b v r m xs mark).2.1∧aQ w' w.heap.size v2 (bM s t k z q l e b v r m xs mark).2.2∧Below w.heap.size w w':=by
 have hxl:=h.1
 have hbE:Below w.heap.size w (((w.alloc (.cells #[.int .i64 s,.int .i64 t,.int .i64 k,.int .i64 z,.int .i64 q,.int .i64 l,.int .i64 e,.bool b,.int .i64 v,.int .i64 r] 24)).alloc (.cells #[.int .i64 m,.slice a len cap] 27)).alloc (.cells #[.int .i64 0,.slice none 0 0] 27)):=ag (ag (ax _ _) _) _
 have HE:=ae (h.below hbE)
 have bRE:(((w.alloc (.cells #[.int .i64 s,.int .i64 t,.int .i64 k,.int .i64 z,.int .i64 q,.int .i64 l,.int .i64 e,.bool b,.int .i64 v,.int .i64 r] 24)).alloc (.cells #[.int .i64 m,.slice a len cap] 27)).alloc (.cells #[.int .i64 0,.slice none 0 0] 27)).heap[w.heap.size+1+1]? =some (.cells #[.int .i64 0,.slice none 0 0] 27 (0,0)):=by
  have h9:=World.alloc_heap_new ((w.alloc (.cells #[.int .i64 s,.int .i64 t,.int .i64 k,.int .i64 z,.int .i64 q,.int .i64 l,.int .i64 e,.bool b,.int .i64 v,.int .i64 r] 24)).alloc (.cells #[.int .i64 m,.slice a len cap] 27)) (.cells #[.int .i64 0,.slice none 0 0] 27)
  rw[World.size_alloc,World.size_alloc]at h9
  exact h9
 obtain⟨ob,hob⟩:∃ob,b6 s t k z q l e v r m xs=ob:=⟨_,rfl⟩
 have HOB:=ae hob
 go_enter Tryz.func14,Tryz.ntmps14
 go_wp2_with fail
 refine(iV s t k z q l e b v r m _ _ _ xs _ (ab HE) HOB).mono ?_
 rintro e' w1 ⟨rfl,hb1⟩
 have hz1:w.heap.size+1+1<w1.heap.size:=by have:=hb1.size;simp at this;omega
 have bR1:=(hb1.block (w.heap.size+1+1) (by simp)).trans bRE
 have hbw1:Below w.heap.size w w1:=am hbE hb1
 have H1:=ae ((ab HE).below hb1)
 have j0:w1.heap[w.heap.size]? =some (.cells #[.int .i64 s,.int .i64 t,.int .i64 k,.int .i64 z,.int .i64 q,.int .i64 l,.int .i64 e,.bool b,.int .i64 v,.int .i64 r] 24 (0,0)):=(hb1.block w.heap.size (ou)).trans ((Below.heap_alloc _ _ _ (ou)).trans ((Below.heap_alloc _ _ _ (by simp)).trans (World.alloc_heap_new w _)))
 have j1:w1.heap[w.heap.size+1]? =some (.cells #[.int .i64 m,.slice a len cap] 27 (0,0)):=(hb1.block (w.heap.size+1) (by simp)).trans ((Below.heap_alloc _ _ _ (by simp)).trans (by
  have h9:=World.alloc_heap_new (w.alloc (.cells #[.int .i64 s,.int .i64 t,.int .i64 k,.int .i64 z,.int .i64 q,.int .i64 l,.int .i64 e,.bool b,.int .i64 v,.int .i64 r] 24)) (.cells #[.int .i64 m,.slice a len cap] 27)
  rw[World.size_alloc]at h9
  exact h9))
 have rc0:w1.cell? ⟨w.heap.size+1+1,0,none⟩=some (.int .i64 0):=cA bR1 0
 have rc1:w1.cell? ⟨w.heap.size+1+1,1,none⟩=some (.slice none 0 0):=cA bR1 1
 obtain⟨rf0,rf1⟩:=f2 bR1
 clear HE hbE hb1 hob
 have hnone:(b6 s t k z q l e v r m xs&&bD mark 0 1000)=false→∀W:World,Below w.heap.size w W→∃v1 v2,(Ending.returned (.tuple #[.agg #[.int .i64 0,.slice none 0 0],.slice none 0 0]))= .returned (.tuple #[.agg #[.int .i64 (bM s t k z q l e b v r m xs mark).1,v1],v2])∧aR W w.heap.size v1 (bM s t k z q l e b v r m xs mark).2.1∧aQ W w.heap.size v2 (bM s t k z q l e b v r m xs mark).2.2∧Below w.heap.size w W:=by
  intro h9 W hW
  have e9:bM s t k z q l e b v r m xs mark=(0,[],[]):=by unfold bM;rw[h9];rfl
  rw[e9]
  exact⟨_,_,rfl,World.ownsRow_nil _ _ _ _,World.ownsRow_nil _ _ _ _,hW⟩
 cases ob with
 |false=>
  have hno:=ae (hnone (by rw[ab HOB];rfl))
  clear hnone
  go_wp2
  refine bodyPost_ret (v:= .tuple #[.agg #[.int .i64 0,.slice none 0 0],.slice none 0 0]) (nx) rfl (ab hno _ ?_)
  exact aq (aq hbw1 (ou) _) (ou) _
 |true=>
  obtain⟨ib,hib⟩:∃ib,bD mark 0 1000=ib:=⟨_,rfl⟩
  have HIB:=ae hib
  have hwi:=aC mark 0 1000 w1
  rw[hib]at hwi
  have Hwi:=ae hwi
  clear hib hwi
  go_wp2_with fail
  refine(ab Hwi).mono ?_
  rintro e' w1x ⟨rfl,h1x⟩
  have h1y:=h1x.symm
  clear h1x
  subst h1y
  cases ib with
  |false=>
   have hno:=ae (hnone (by rw[ab HOB,ab HIB];rfl))
   clear hnone
   go_wp2
   refine bodyPost_ret (v:= .tuple #[.agg #[.int .i64 0,.slice none 0 0],.slice none 0 0]) (nx) rfl (ab hno _ ?_)
   exact aq (aq hbw1 (ou) _) (ou) _
  |true=>
   clear hnone Hwi
   obtain⟨hx3,hl,hmb,hokx,hrs⟩:=dS (ab HOB)
   obtain⟨p0,p1,p2,p3,p4,p5,p6,p7,p8,p9⟩:=cT j0
   obtain⟨s0,s1⟩:=c2 j1
   go_wp2_with fail
   refine(jo s t k z q l e b v r m _ _ _ xs _ (ab H1) (by omega) (fun x hx=>lp (hokx x hx)) hrs).mono ?_
   rintro e' w2 ⟨es,rfl,hE,hR2,bO2,hb2⟩
   have hesl:es.length=len:=by have:=congrArg List.length hE;rw[List.length_map]at this;omega
   have hex:∀e9 ∈ es,e9.2.okB l m=true:=fun e9 he=>hokx _ (by rw[←hE];exact List.mem_map.2 ⟨e9,he,rfl⟩)
   have hrise:cP es:=by unfold cP;rw[←hE]at hrs;exact(List.pairwise_map (f:=fun e:bs=>e.2) (R:=fun x y=>bN (aT x) (aT y))).1 hrs
   have hMF:=impl_mark s t k z q l e b v r m (ab HOB) (ab HIB) hE
   clear p0 p1 p2 p3 p4 p5 p6 p7 p8 p9 s0 s1 j0 j1
   unfold opV at bO2
   obtain⟨Bo,hBo⟩:∃Bo,w1.heap.size+1+1+1=Bo:=⟨_,rfl⟩
   obtain⟨mb,hmbe⟩:∃mb,w1.heap.size+1+1=mb:=⟨_,rfl⟩
   rw[hBo,hmbe]at bO2
   rw[hmbe]at hR2
   rw[hBo]
   have hP2:aQ w2 w1.heap.size (.slice none 0 0) []:=World.ownsRow_nil _ _ _ _
   go_wp2_with fail
   refine(pass_any Bo w1.heap.size len s t k z q l e b v r m mb _ _ [] es mark w2 bO2 (by omega) hb2.size (by omega) hR2 hP2 hl hrise (fun e9 he=>lp (hex e9 he)) (fun e9 he=>by have:=(cK (hex e9 he)).2.1;omega) (fun e9 he=>by have:=(cK (hex e9 he)).2.2.2.1;omega) (by omega) (by simp) (by omega)).mono ?_
   rintro e' w3 ⟨rfl,pv',bO3,hR3,hP3,hb3⟩
   rw[List.nil_append]at hP3
   obtain⟨mm,hmm⟩:∃mm,max m mark=mm:=⟨_,rfl⟩
   rw[hmm]at bO3 hR3 hP3 hMF
   have hri3:cP (kj l mm (gu mm es)):=List.Pairwise.sublist List.filter_sublist (gEs_rise hrise)
   have hok3':∀e9 ∈ kj l mm (gu mm es),fe (aT e9.2):=fun e9 he=>by
    obtain⟨x,hx,_,h9,_⟩:=gEs_mem (List.mem_filter.1 he).1
    rw[h9]
    exact lp (hex x hx)
   have hbw3:Below w1.heap.size w1 w3:=hb2.trans hb3
   have bR3:=(hbw3.block (w.heap.size+1+1) hz1).trans bR1
   have zO3:Bo<w3.heap.size:=(Array.getElem?_eq_some_iff.1 bO3).1
   have bO:w3.drew.heap[Bo]? =some (.cells #[.int .i64 s,.int .i64 t,.int .i64 k,.int .i64 z,.int .i64 q,.int .i64 l,.int .i64 e,.bool b,.int .i64 v,.int .i64 r,.int .i64 mm,.map (some (mb)),pv',.slice none 0 0] 75 (0,0)):=bO3
   have hO3d:w3.drew.heap[Bo]? =some (.cells (opV s t k z q l e b v r mm mb pv' (.slice none 0 0)) 75 (0,0)):=bO3
   have HR3d:Hid (bu w3.drew w1.heap.size mb len (kj l mm (gu mm es))):=ae (hR3.bel (ap (Below.refl _ _)))
   have HP3:=ae hP3
   have HMF:=ae hMF
   have bRd:w3.drew.heap[w.heap.size+1+1]? =some (.cells #[.int .i64 0,.slice none 0 0] 27 (0,0)):=bR3
   clear hP3 hMF hR3 hR2 bO2 hb2 hb3 bO3 rc0 rc1 rf0 rf1 hP2
   go_wp2_with fail
   refine wp_region_held_drew (S:=(fun W=>W.heap[Bo]? =some (.cells #[.int .i64 s,.int .i64 t,.int .i64 k,.int .i64 z,.int .i64 q,.int .i64 l,.int .i64 e,.bool b,.int .i64 v,.int .i64 r,.int .i64 mm,.map (some (mb)),pv',.slice none 0 0] 75 (0,0)))) (ox) ?_ (fun hHeld=>?_)
   ·(try dsimp only);exact bO
   refine kV 0 ?_
   refine kV 2 ?_
   refine kV 3 ?_
   refine kV 4 ?_
   refine kT 5 ?_ ?_ ?_
   rotate_left
   ·(intro w9 hSw;(try dsimp only at hSw);have q0:=hSw;have g0x0:=cA q0 0;have g0x1:=cA q0 1;have g0x2:=cA q0 2;have g0x3:=cA q0 3;have g0x4:=cA q0 4;have g0x5:=cA q0 5;have g0x6:=cA q0 6;have g0x7:=cA q0 7;have g0x8:=cA q0 8;have g0x9:=cA q0 9;have g0x10:=cA q0 10;simp only[gA,gZ,gS]at g0x0 g0x1 g0x2 g0x3 g0x4 g0x5 g0x6 g0x7 g0x8 g0x9 g0x10;have g0x11:w9.cell? ⟨Bo,11,none⟩=some (.map (some (mb))):=(by simp[World.cell?,q0,go_sem]);have g0x12:=cA q0 12;have g0x13:=cA q0 13;simp only[gA,gZ,gS]at g0x12 g0x13;go_simp<;>with_reducible rfl)
   try simp only[Act.put,tA,tZ,tS]
   refine rD 1 (fun K hK=>?_)
   go_simp
   (go_at_call 31;refine(kK Bo w1.heap.size mb len s t k z q l e b v r mm pv' (.slice none 0 0) _ _ (show _ from hO3d) (ab HR3d) hri3 hok3' (by omega)).mono ?_;rintro e9 wv ⟨av,cv,rfl,hOv,hbwv⟩)
   (try go_wp2_with fail)
   have zwv:=hbwv.size
   (try simp at zwv)
   have bO:=(hbwv.block (Bo) (sB)).trans bO
   clear hHeld
   refine hK.out _ _ ?_ (fun hHeld=>?_)
   ·(try dsimp only);exact bO
   clear hK K
   try simp only[Act.put,tA,tZ,tS]
   replace bRd:=(hbwv.block (w.heap.size+1+1) (by show w.heap.size+1+1<w3.heap.size;have:=hbw3.size;omega)).trans bRd
   have q0:wv.cell? ⟨w.heap.size+1+1,0,none⟩=some (.int .i64 0):=cA bRd 0
   have q1:wv.cell? ⟨w.heap.size+1+1,1,none⟩=some (.slice none 0 0):=cA bRd 1
   obtain⟨f0,f1⟩:=f2 bRd
   have hneB:Bo≠w.heap.size+1+1:=by omega
   have bRf:((wv.setCell ⟨w.heap.size+1+1,0,none⟩ (.int .i64 mm)).setCell ⟨w.heap.size+1+1,1,none⟩ (.slice av (kj l mm (gu mm es)).length cv)).heap[w.heap.size+1+1]? =some (.cells #[.int .i64 mm,.slice av (kj l mm (gu mm es)).length cv] 27 (0,0)):=Joins.block_setCell (Joins.block_setCell bRd _) _
   have hOf:=ak (u:= .slice av (kj l mm (gu mm es)).length cv) (p:=⟨w.heap.size+1+1,1,none⟩) (ak (u:= .int .i64 mm) (p:=⟨w.heap.size+1+1,0,none⟩) hOv (af hOv bRd (by decide))) (af hOv bRd (by decide))
   have hPv:wv.ownsRow w1.heap.size 52 9 pv' _ _:=aK (ab HP3) (aB (am (ap (Below.refl _ _)) hbwv)) (fun _ e9=>by cases e9)
   have hPf:=ak (u:= .slice av (kj l mm (gu mm es)).length cv) (p:=⟨w.heap.size+1+1,1,none⟩) (ak (u:= .int .i64 mm) (p:=⟨w.heap.size+1+1,0,none⟩) hPv (af hPv bRd (by decide))) (af hPv bRd (by decide))
   have hbf:Below w.heap.size w ((wv.setCell ⟨w.heap.size+1+1,0,none⟩ (.int .i64 mm)).setCell ⟨w.heap.size+1+1,1,none⟩ (.slice av (kj l mm (gu mm es)).length cv)):=aq (aq (am (ap (hbw1.trans (hbw3.mono hbw1.size))) hbwv) (ou) _) (ou) _
   refine rD 6 (fun K hK=>?_)
   go_simp
   clear hHeld
   refine hK.out _ _ ?_ (fun hHeld=>?_)
   ·(try dsimp only);exact(Below.heap_setCell _ _ _ _ hneB).trans ((Below.heap_setCell _ _ _ _ hneB).trans bO)
   clear hK K
   try simp only[Act.put,tA,tZ,tS]
   refine kV 7 ?_
   refine wpAnyH_done (ox) ?_ _
   clear hHeld q0 q1 f0 f1 bO bRd hOv hPv hbwv HR3d hO3d
   generalize (wv.setCell ⟨w.heap.size+1+1,0,none⟩ (.int .i64 mm)).setCell ⟨w.heap.size+1+1,1,none⟩ (.slice av (kj l mm (gu mm es)).length cv)=wF at bRf hOf hPf hbf ⊢
   have g0:wF.cell? ⟨w.heap.size+1+1,0,none⟩=some (.int .i64 mm):=cA bRf 0
   have g1:wF.cell? ⟨w.heap.size+1+1,1,none⟩=some (.slice av (kj l mm (gu mm es)).length cv):=cA bRf 1
   go_wp2
   refine bodyPost_ret (v:= .tuple #[.agg #[.int .i64 mm,.slice av (kj l mm (gu mm es)).length cv],pv']) (nx) rfl ?_
   refine⟨_,_,by rw[ab HMF],?_,?_,hbf⟩
   ·rw[ab HMF]
    exact dM hOf (by show w.heap.size≤w3.heap.size;have:=hbw1.size;have:=hbw3.size;omega)
   ·rw[ab HMF]
    exact dM hPf hbw1.size
end Go.Proofs.YtdmhihcipkhecaaGreat
