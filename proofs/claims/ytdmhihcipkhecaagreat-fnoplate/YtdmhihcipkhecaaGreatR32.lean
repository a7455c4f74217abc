/- Laid together: what the claim needs of the texts that were built one by one. -/
import Derived.Test.YtdmhihcipkhecaaGreatR17
import Derived.Test.YtdmhihcipkhecaaGreatR31
import Derived.Test.YtdmhihcipkhecaaGreatR0
import Derived.Test.YtdmhihcipkhecaaGreatR18
import Derived.Test.YtdmhihcipkhecaaGreatR13
import Derived.DefersIn
import Derived.Test.YtdmhihcipkhecaaGreatR1
import Derived.Test.YtdmhihcipkhecaaGreatR14
import Derived.BigQuiet
import Derived.Test.YtdmhihcipkhecaaGreatR2
import Derived.Test.YtdmhihcipkhecaaGreatR27
set_option linter.unusedVariables false
namespace Go.Proofs.YtdmhihcipkhecaaGreat
open Go.ChangeShapes Go.WideShapes Go.ChangeAt Go.RowKit Go.Shelf Go.Maps
set_option linter.unusedSimpArgs false
theorem i9{z p t:Int}:∀(n:Nat) (s:Int),∀x ∈ bL z p t n s,t<x.b
 |0,_,x,hx=>by cases hx
 |n+1,s,x,hx=>by
  unfold bL at hx
  split at hx
  ·split at hx
   ·rename_i h2
    rcases List.mem_cons.1 hx with rfl|hx
    ·exact h2
    ·exact i9 n (s+p) x hx
   ·exact i9 n (s+p) x hx
  ·cases hx
theorem wins_has{s t k z p l e v r T:Int}(hj:aY s t k z p l e v r=true):∀x ∈ ba k z p T,T<x.b:=by
 obtain⟨hk,hz,hp⟩:=cK hj
 intro x hx
 unfold ba at hx
 split at hx
 ·rw[List.mem_singleton]at hx
  subst hx
  have:=Int.emod_lt_of_pos T (show 0<z by omega)
  show T<T - T % z+z
  omega
 ·split at hx
  ·rw[List.mem_singleton]at hx
   subst hx
   show T<T+z
   omega
  ·exact i9 61 0 x hx
theorem st_ok(ses pc:Bool)(l m:Int)(xs:List aD)(ky v st en:Int)(h:m<en+l):(stF ses pc l m xs ky v st en).2.2=true:=by
 have hi:∀a c,m<c+l→(iz pc l m xs ky v a c).2.2=true:=fun a c h9=>by unfold iz;rw[if_neg (by omega)]
 unfold stF
 split
 ·unfold seF
  dsimp only
  have hw:=(kJ (xs.filter (di ky st en)) st en).2
  rw[if_neg (by omega)]
  split
  ·exact hi _ _ (by omega)
  ·rfl
 ·exact hi _ _ h
theorem sp_none(ses pc:Bool)(l m ky v:Int):∀(ws:List dm) (ys:List aD) (ps:List cO) (ls:List dm),(∀x ∈ ws,m<x.b+l)→(ws.foldl (de ses pc l m ky v) (ys,ps,ls)).2.2=ls
 | [],_,_,_,_=>rfl
 |x :: ws,ys,ps,ls,h=>by
  obtain⟨⟨ys2,ps2,ok⟩,hs⟩:∃r9,stF ses pc l m ys ky v x.a x.b=r9:=⟨_,rfl⟩
  have ho:=st_ok ses pc l m ys ky v x.a x.b (h x (by simp))
  rw[hs]at ho
  dsimp only at ho
  rw[List.foldl_cons,jx ses pc l m ky v ys ps ls x hs,ho]
  exact sp_none ses pc l m ky v ws ys2 (ps++ps2) ls (fun y hy=>h y (List.mem_cons_of_mem _ hy))
theorem late_none{s t k z q l e v r m:Int}{b:Bool}{xs:List aD}{x1 x2 x3 x4 x5:Int}{M:Int}{R:List aD}{P:List cO}{L:List fa}(hok:cX s t k z q l e v r m xs=true)(hx:¬ x2<m - l)(h:dw s t k z q l e b v r m xs x1 x2 x3 x4 x5=(M,R,P,L)):L.length=0:=by
 cases hb:gM s t k z q l e v r m xs x1 x2 x3 x4 x5 with
 |false=>
  rw[jA hb]at h
  cases h
  rfl
 |true=>
  have h9:L=(cY (decide (k=3)) b l m x3 x4 xs (ba k z q x2)).2.2.map (fu x1 x2 x3 x4 x5):=by
   unfold dw at h
   rw[if_pos hb]at h
   exact(congrArg (fun p=>p.2.2.2) h).symm
  have hn:(cY (decide (k=3)) b l m x3 x4 xs (ba k z q x2)).2.2=[]:=sp_none _ _ _ _ _ _ _ _ _ _ (fun x hx9=>by have:=wins_has (kC hok) x hx9;omega)
  rw[h9,hn]
  rfl
set_option linter.unusedSimpArgs false
attribute [local go_sem] Oper.semAt_some
def InvO(T:Int)(xs:List aD):Prop:=ea xs∧∀x ∈ xs,(0≤x.en∧x.en≤1000)∧(-1000≤x.st∧x.st≤1000)∧(-1000≤x.ky∧x.ky≤1000)∧0≤x.td∧x.td≤T
theorem spn_bd1:∀(old:List aD) (st en:Int),-1000≤st∧st≤1000→(∀x ∈ old,-1000≤x.st∧x.st≤1000)→ -1000≤(eT st en old).1∧(eT st en old).1≤1000
 | [],_,_,h,_=>h
 |x :: old,st,en,h,hx=>by
  have h1:=hx x (by simp)
  exact spn_bd1 old (fF st x.st) (fE en x.en) (by unfold fF;split<;>omega) (fun y hy=>hx y (List.mem_cons_of_mem _ hy))
theorem met_mem{ses:Bool}{ky st en:Int}{xs:List aD}{x:aD}(h:x ∈ ic ses ky st en xs):x ∈ xs:=by
 unfold ic at h
 split at h
 ·exact(List.mem_filter.1 h).1
 ·cases hf:gb (ky,st,en) xs with
  |none=>rw[hf]at h;cases h
  |some y=>
   rw[hf]at h
   simp only[Option.toList,List.mem_singleton]at h
   subst h
   exact(fM hf).2
theorem put_inv{T:Int}{xs:List aD}{r:aD}(h:InvO T xs)(hr:(0≤r.en∧r.en≤1000)∧(-1000≤r.st∧r.st≤1000)∧(-1000≤r.ky∧r.ky≤1000)∧0≤r.td∧r.td≤T):InvO T (cD r xs):=by
 refine⟨iU h.1,fun x hx=>?_⟩
 rcases gp.1 hx with rfl|⟨hx,_⟩
 ·exact hr
 ·exact h.2 x hx
theorem im_inv{ses:Bool}{l m ky v T:Int}{xs:List aD}{ps:List cO}{lw:List dm}{w:dm}(h:InvO T xs)(hT:0≤T)(hk: -1000≤ky∧ky≤1000)(ha: -1000≤w.a∧w.a≤1000)(hb:0≤w.b∧w.b≤1000):InvO T (cd ses l m ky v (xs,ps,lw) w).1∧(cd ses l m ky v (xs,ps,lw) w).1.length≤xs.length+1∧(cd ses l m ky v (xs,ps,lw) w).2.1.length≤ps.length+(if ses=true then xs.length else 0)∧(cd ses l m ky v (xs,ps,lw) w).2.2.length≤lw.length+1:=by
 have h2:=spn_bd (ic ses ky w.a w.b xs) w.a w.b hb (fun x hx=>(h.2 x (met_mem hx)).1)
 have h1:=spn_bd1 (ic ses ky w.a w.b xs) w.a w.b ha (fun x hx=>(h.2 x (met_mem hx)).2.1)
 refine⟨?_,?_,?_,?_⟩
 ·unfold cd
  dsimp only
  split
  ·exact h
  ·split
   ·refine put_inv h ?_
    unfold dC
    cases hf:gb (ky,(eT w.a w.b (ic ses ky w.a w.b xs)).1,(eT w.a w.b (ic ses ky w.a w.b xs)).2) xs with
    |none=>exact⟨h2,h1,hk,Int.le_refl _,hT⟩
    |some y=>exact h.2 y (fM hf).2
   ·exact put_inv (xs:=xs.filter _) ⟨h.1.sublist List.filter_sublist,fun x hx=>h.2 x (List.mem_filter.1 hx).1⟩ ⟨h2,h1,hk,Int.le_refl _,hT⟩
 ·unfold cd
  dsimp only
  split
  ·simp
  ·split
   ·exact jR _ _
   ·exact Nat.le_trans (jR _ _) (Nat.succ_le_succ (List.length_filter_le _ _))
 ·cases ses with
  |false=>
   rw[jT]
   split<;>simp
  |true=>
   unfold cd
   dsimp only
   split
   ·simp
   ·split
    ·simp
    ·rw[List.length_append,if_pos rfl]
     have h3:=iE (ic true ky w.a w.b xs)
     have h4:(ic true ky w.a w.b xs).length≤xs.length:=by unfold ic;rw[if_pos rfl];exact List.length_filter_le _ _
     omega
 ·unfold cd
  dsimp only
  split
  ·simp
  ·split<;>simp
theorem slide_a{z p t:Int}(hp:0≤p):∀(n:Nat) (s:Int),0≤s→∀x ∈ bL z p t n s,0≤x.a∧x.a≤t∧x.b=x.a+z
 |0,_,_,x,hx=>by cases hx
 |n+1,s,hs,x,hx=>by
  have ih:=slide_a (z:=z) (t:=t) hp n (s+p) (by omega)
  unfold bL at hx
  split at hx
  ·rename_i h1
   split at hx
   ·rcases List.mem_cons.1 hx with rfl|hx
    ·exact⟨hs,h1,rfl⟩
    ·exact ih x hx
   ·exact ih x hx
  ·cases hx
theorem wins_a{s t k z p l e v r T:Int}(hj:aY s t k z p l e v r=true)(hT:0≤T∧T≤60):∀x ∈ ba k z p T,0≤x.a∧x.a≤T∧x.b=x.a+z:=by
 obtain⟨hk,hz,hp⟩:=cK hj
 unfold ba
 split
 ·intro x hx
  simp only[List.mem_singleton]at hx
  subst hx
  have h1:=Int.emod_nonneg T (show z≠0 by omega)
  have h3:0≤z*(T / z):=Int.mul_nonneg (by omega) (Int.ediv_nonneg hT.1 (by omega))
  have h4:T % z+z*(T / z)=T:=by first|exact Int.emod_add_ediv T z|exact Int.emod_add_mul_ediv T z
  exact⟨by show 0≤T - T % z;omega,by show T - T % z≤T;omega,rfl⟩
 ·split
  ·intro x hx
   simp only[List.mem_singleton]at hx
   subst hx
   exact⟨hT.1,Int.le_refl _,rfl⟩
  ·refine slide_a ?_ 61 0 (by omega)
   unfold fU at hp
   split at hp
   ·simp only[Bool.and_eq_true]at hp
    have:=bQ.1 hp.1
    omega
   ·simp at hp
    omega
theorem wins_one{k z q T:Int}(hk:k=3):(ba k z q T).length≤1:=by
 unfold ba
 rw[if_neg (by omega),if_pos hk]
 simp
theorem gn.own{W W':World}{B size n:Nat}{e:TypeId}{v:Value}{ys:List Value}(h:W.ownsRow B e size v n ys)(hk:gn W W')(he:lr e=false):W'.ownsRow B e size v n ys:=by
 rcases h with⟨hl,h|⟨q,cap,cur,rfl,hB,hblk,r⟩⟩
 ·exact⟨hl,Or.inl h⟩
 ·exact⟨hl,Or.inr ⟨q,cap,cur,rfl,hB,hk.2 q _ hblk (.inr ⟨_,_,he,rfl⟩),r⟩⟩
theorem gEs_rows(m:Int)(es:List bV):aJ (gEs m es)=(aJ es).map (gTx m):=by
 unfold aJ gEs
 rw[List.map_map,List.map_map]
 rfl
theorem gEs_pans(m:Int)(pc:Bool)(es:List bV):(es.filter (fun e=>cP m e.2)).map (fun e=>dU pc e.2)=((aJ es).filter (cP m)).map (dU pc):=by
 unfold aJ
 rw[List.filter_map,List.map_map]
 rfl
set_option maxRecDepth 100000 in
set_option maxHeartbeats 8000000 in
theorem take_any(Bo B mb nn:Nat)(s t k z q l e:Int)(b:Bool)(v r m:Int)(pv lv:Value)(es:List bV)(x1 x2 x3 x4 x5:Int)(w:World)(hO:w.heap[Bo]? =some (.cells #[.int .i64 s,.int .i64 t,.int .i64 k,.int .i64 z,.int .i64 q,.int .i64 l,.int .i64 e,.bool b,.int .i64 v,.int .i64 r,.int .i64 m,.map (some (mb)),pv,lv] 75 (0,0)))(hBo:B≤Bo)(hBw:B≤w.heap.size)(hmb:B≤mb)(hR:bU w B mb nn es)(hP:aU w B pv [])(hL:ci w B lv [])(hj:aY s t k z q l e v r=true)(hT:0≤x2∧x2≤60)(hx3: -1000≤x3∧x3≤1000)(hI0:InvO 1500 (aJ es))(hnn:nn≤800)(hesl:es.length≤300)(hen:es.length≤nn):Calls Tryz.prog 30 #[.pointer (some ⟨Bo,0,none⟩),.agg #[.int .i64 x1,.int .i64 x2,.int .i64 x3,.int .i64 x4,.int .i64 x5]] w fun e' w'=>e'= .returned (.tuple #[])∧∃pv' lv' es',w'.heap[Bo]? =some (.cells #[.int .i64 s,.int .i64 t,.int .i64 k,.int .i64 z,.int .i64 q,.int .i64 l,.int .i64 e,.bool b,.int .i64 v,.int .i64 r,.int .i64 m,.map (some (mb)),pv',lv'] 75 (0,0))∧bU w' B mb (nn+61) es'∧aU w' B pv' (gaF b m (eU (decide (k=3)) l m x3 x4 (aJ es) (ba k z q x2))).2.1∧ci w' B lv' ((gaF b m (eU (decide (k=3)) l m x3 x4 (aJ es) (ba k z q x2))).2.2.map (fu x1 x2 x3 x4 x5))∧aJ es'=(gaF b m (eU (decide (k=3)) l m x3 x4 (aJ es) (ba k z q x2))).1∧eo es'∧(∀e ∈ es',gI (aX e.2))∧es'.length≤nn+61∧(gaF b m (eU (decide (k=3)) l m x3 x4 (aJ es) (ba k z q x2))).2.1.length≤2000∧(gaF b m (eU (decide (k=3)) l m x3 x4 (aJ es) (ba k z q x2))).2.2.length≤61∧Below B w w':=by
 have zBo:Bo<w.heap.size:=(Array.getElem?_eq_some_iff.1 hO).1
 have hl:=iw hj
 have hwf:∀a:Int,-1000≤a→a≤1000→(Lit.int .i64 a).wf=true:=fun a h1 h2=>WalkArith.wf_i64 (show _ from⟨by omega,by omega⟩)
 have HWa:=ae (wins_a hj hT)
 have HWb:=ae (wins_bd hj hT)
 have hz20:=(cK hj).2.1
 obtain⟨ws,hws⟩:∃ws,ba k z q x2=ws:=⟨_,rfl⟩
 have hwl:ws.length≤61:=by rw[←hws];exact kz k z q x2
 have HW1:Hid (decide (k=3)=true→ws.length≤1):=ae (fun h9=>by rw[←hws];exact wins_one (by simpa using h9))
 rw[hws]at HWa HWb
 have HIM:Hid (eU (decide (k=3)) l m x3 x4 (aJ es) (ba k z q x2)=ws.foldl (cd (decide (k=3)) l m x3 x4) (aJ es,[],[])):=ae (by unfold eU;rw[hws])
 have HC:Hid (∀W:World,Calls Tryz.prog 21 #[.agg #[.int .i64 s,.int .i64 t,.int .i64 k,.int .i64 z,.int .i64 q,.int .i64 l,.int .i64 e,.bool b,.int .i64 v,.int .i64 r],.int .i64 x2] W fun e' w'=>∃v',e'= .returned v'∧dj w' W.heap.size v' ws∧Below W.heap.size W w'):=ae (fun W=>by
  have h9:=kY s t k z q l e b v r x2 W
  rw[kj hj (bQ.2 hT),hws]at h9
  exact h9)
 obtain⟨nw,hnw⟩:∃nw,ws.length=nw:=⟨_,rfl⟩
 rw[hnw]at hwl
 have HNw:=ae hnw
 have HIV:=ae hI0
 clear hws hnw hI0
 refine(callsIn_wide (n:=26)).1 ?_
 refine callsIn_of_wp_defers Tryz.func30 rfl trivial ?_ rfl
 simp only[Tryz.ntmps30,List.size_toArray,List.length_cons,List.length_nil,Nat.reduceAdd,Nat.reduceSub,Array.replicate_succ,Array.replicate_zero,List.push_toArray,List.append_toArray,List.nil_append,List.cons_append]
 gi_wp2
 refine cf (oW) (oW) (fun L a' W'=>∃V:Nat→Value,a'=({tmps:=#[.pointer (some ⟨Bo,0,none⟩),.agg #[.int .i64 x1,.int .i64 x2,.int .i64 x3,.int .i64 x4,.int .i64 x5],undef,.pointer (some ⟨w.heap.size,0,none⟩),undef,undef,.pointer (some ⟨Bo,0,none⟩),V 0,V 1,V 2,V 3,V 4,V 5,V 6,V 7,V 8,undef,undef,undef,undef,undef,undef,undef,undef],defers:=[{target:=Target.fn (Fn.func 59) #[],args:=#[.pointer (some ⟨Bo,0,none⟩)]}]}:Act)∧((L 0=true→V 0= .pointer (some ⟨Bo,0,none⟩))∧(L 1=true→V 1= .pointer (some ⟨Bo,0,none⟩))∧(L 2=true→V 2= .pointer (some ⟨Bo,0,none⟩))∧(L 3=true→V 3= .agg #[.int .i64 s,.int .i64 t,.int .i64 k,.int .i64 z,.int .i64 q,.int .i64 l,.int .i64 e,.bool b,.int .i64 v,.int .i64 r])∧(L 4=true→V 4= .pointer (some ⟨w.heap.size,1,none⟩))∧(L 5=true→V 5= .int .i64 x2)∧(L 7=true→V 7= .int .i64 nw)∧(L 8=true→V 8= .int .i64 0))∧(L 6=true→Hid (∃aw cw,V 6= .slice aw nw cw∧dj W' B (.slice aw nw cw) ws))∧Below w.heap.size w W'∧W'.heap[w.heap.size]? =some (.cells #[.int .i64 x1,.int .i64 x2,.int .i64 x3,.int .i64 x4,.int .i64 x5] 29 (0,0))∧w.heap.size<W'.heap.size) ?_ ?_ ?_
 ·exact⟨fun _=>undef,rfl,⟨(fun h9=>(by cases h9)),(fun h9=>(by cases h9)),(fun h9=>(by cases h9)),(fun h9=>(by cases h9)),(fun h9=>(by cases h9)),(fun h9=>(by cases h9)),(fun h9=>(by cases h9)),(fun h9=>(by cases h9))⟩,(fun h9=>(by cases h9)),aq (ay _ _),World.alloc_heap_new w _,by simp⟩
 ·refine⟨?_,?_,?_,?_,?_,?_,?_,?_,?_,trivial⟩
  ·intro L a' W' hI hLj hE K' hK
   obtain⟨V,rfl,⟨nq,ns,nE,nF,nH,nK,nN,nO⟩,hT6,hbW,bIW,hzW⟩:=hI
   go_simp
   exact hK.out _ _ ⟨fun m9=>if m9=0 then .pointer (some ⟨Bo,0,none⟩)else V m9,rfl,⟨fun _=>rfl,mO ns,mO nE,mO nF,mO nH,mO nK,mO nN,mO nO⟩,mO hT6,hbW,bIW,hzW⟩
  ·intro L a' W' hI hLj hE K' hK
   obtain⟨V,rfl,⟨nq,ns,nE,nF,nH,nK,nN,nO⟩,hT6,hbW,bIW,hzW⟩:=hI
   have mE:=nq (hE ⟨0,.data⟩ (by simp) rfl)
   rw[mE]
   go_simp
   exact hK.out _ _ ⟨fun m9=>if m9=1 then .pointer (some ⟨Bo,0,none⟩)else V m9,(by simp[Act.put,mE]),⟨mO nq,fun _=>rfl,mO nE,mO nF,mO nH,mO nK,mO nN,mO nO⟩,mO hT6,hbW,bIW,hzW⟩
  ·intro L a' W' hI hLj hE K' hK
   obtain⟨V,rfl,⟨nq,ns,nE,nF,nH,nK,nN,nO⟩,hT6,hbW,bIW,hzW⟩:=hI
   have mF:=ns (hE ⟨1,.data⟩ (by simp) rfl)
   rw[mF]
   go_simp
   exact hK.out _ _ ⟨fun m9=>if m9=2 then .pointer (some ⟨Bo,0,none⟩)else V m9,(by simp[Act.put,mF]),⟨mO nq,mO ns,fun _=>rfl,mO nF,mO nH,mO nK,mO nN,mO nO⟩,mO hT6,hbW,bIW,hzW⟩
  ·intro L a' W' hI hLj hE K' hK
   obtain⟨V,rfl,⟨nq,ns,nE,nF,nH,nK,nN,nO⟩,hT6,hbW,bIW,hzW⟩:=hI
   have mY:=nE (hE ⟨2,.data⟩ (by simp) rfl)
   have bOW:=(hbW.block Bo zBo).trans hO
   have k0:W'.cell? ⟨Bo,0,none⟩=some (.int .i64 s):=cA bOW 0
   have k1:W'.cell? ⟨Bo,1,none⟩=some (.int .i64 t):=cA bOW 1
   have k2:W'.cell? ⟨Bo,2,none⟩=some (.int .i64 k):=cA bOW 2
   have k3:W'.cell? ⟨Bo,3,none⟩=some (.int .i64 z):=cA bOW 3
   have k4:W'.cell? ⟨Bo,4,none⟩=some (.int .i64 q):=cA bOW 4
   have k5:W'.cell? ⟨Bo,5,none⟩=some (.int .i64 l):=cA bOW 5
   have k6:W'.cell? ⟨Bo,6,none⟩=some (.int .i64 e):=cA bOW 6
   have k7:W'.cell? ⟨Bo,7,none⟩=some (.bool b):=cA bOW 7
   have k8:W'.cell? ⟨Bo,8,none⟩=some (.int .i64 v):=cA bOW 8
   have k9:W'.cell? ⟨Bo,9,none⟩=some (.int .i64 r):=cA bOW 9
   rw[mY]
   go_simp
   exact hK.out _ _ ⟨fun m9=>if m9=3 then .agg #[.int .i64 s,.int .i64 t,.int .i64 k,.int .i64 z,.int .i64 q,.int .i64 l,.int .i64 e,.bool b,.int .i64 v,.int .i64 r]else V m9,(by simp[Act.put,mY]),⟨mO nq,mO ns,mO nE,fun _=>rfl,mO nH,mO nK,mO nN,mO nO⟩,mO hT6,hbW,bIW,hzW⟩
  ·intro L a' W' hI hLj hE K' hK
   obtain⟨V,rfl,⟨nq,ns,nE,nF,nH,nK,nN,nO⟩,hT6,hbW,bIW,hzW⟩:=hI
   go_simp
   exact hK.out _ _ ⟨fun m9=>if m9=4 then .pointer (some ⟨w.heap.size,1,none⟩)else V m9,rfl,⟨mO nq,mO ns,mO nE,mO nF,fun _=>rfl,mO nK,mO nN,mO nO⟩,mO hT6,hbW,bIW,hzW⟩
  ·intro L a' W' hI hLj hE K' hK
   obtain⟨V,rfl,⟨nq,ns,nE,nF,nH,nK,nN,nO⟩,hT6,hbW,bIW,hzW⟩:=hI
   have na:=nH (hE ⟨4,.data⟩ (by simp) rfl)
   have k1:W'.cell? ⟨w.heap.size,1,none⟩=some (.int .i64 x2):=cA bIW 1
   rw[na]
   go_simp
   exact hK.out _ _ ⟨fun m9=>if m9=5 then .int .i64 x2 else V m9,(by simp[Act.put,na]),⟨mO nq,mO ns,mO nE,mO nF,mO nH,fun _=>rfl,mO nN,mO nO⟩,mO hT6,hbW,bIW,hzW⟩
  ·intro L a' W' hI hLj hE K' hK
   obtain⟨V,rfl,⟨nq,ns,nE,nF,nH,nK,nN,nO⟩,hT6,hbW,bIW,hzW⟩:=hI
   have mZ:=nF (hE ⟨3,.data⟩ (by simp) rfl)
   have nc:=nK (hE ⟨5,.data⟩ (by simp) rfl)
   rw[mZ]
   rw[nc]
   go_simp
   (first|(gi_at_call 21)|(refine⟨trivial,?_⟩;gi_at_call 21)|(refine⟨trivial,fun _=>(by omega),?_⟩;gi_at_call 21))
   refine(callsIn_wide.2 (ab HC W')).mono ?_
   rintro e9 Wt ⟨vt,rfl,hOt,hbt⟩
   (try gi_wp2_with fail)
   obtain⟨aw,cw,hvt⟩:=dy hOt
   rw[ab HNw]at hvt
   subst hvt
   exact hK.out _ _ ⟨fun m9=>if m9=6 then .slice aw nw cw else V m9,(by simp[Act.put,mZ,nc]),⟨mO nq,mO ns,mO nE,mO nF,mO nH,mO nK,mO nN,mO nO⟩,fun _=>ae ⟨aw,cw,rfl,World.ownsRow.mono hOt (by have:=hbW.size;omega)⟩,ap hbW hbt,(hbt.block _ hzW).trans bIW,by have:=hbt.size;omega⟩
  ·intro L a' W' hI hLj hE K' hK
   obtain⟨V,rfl,⟨nq,ns,nE,nF,nH,nK,nN,nO⟩,hT6,hbW,bIW,hzW⟩:=hI
   obtain⟨aw,cw,nf,hOt⟩:=ab (hT6 (hE ⟨6,.data⟩ (by simp) rfl))
   rw[nf]
   go_simp
   exact hK.out _ _ ⟨fun m9=>if m9=7 then .int .i64 nw else V m9,(by simp[nf]),⟨mO nq,mO ns,mO nE,mO nF,mO nH,mO nK,fun _=>rfl,mO nO⟩,mO hT6,hbW,bIW,hzW⟩
  ·intro L a' W' hI hLj hE K' hK
   obtain⟨V,rfl,⟨nq,ns,nE,nF,nH,nK,nN,nO⟩,hT6,hbW,bIW,hzW⟩:=hI
   go_simp
   exact hK.out _ _ ⟨fun m9=>if m9=8 then .int .i64 0 else V m9,rfl,⟨mO nq,mO ns,mO nE,mO nF,mO nH,mO nK,mO nN,fun _=>rfl⟩,mO hT6,hbW,bIW,hzW⟩
 intro L a' W' hI hall
 obtain⟨V,rfl,⟨nq,ns,nE,nF,nH,nK,nN,nO⟩,hT6,hbW,bIW,hzW⟩:=hI
 have mE:=nq (hall 0 (by decide))
 have mF:=ns (hall 1 (by decide))
 have mY:=nE (hall 2 (by decide))
 have mZ:=nF (hall 3 (by decide))
 have na:=nH (hall 4 (by decide))
 have nc:=nK (hall 5 (by decide))
 have ng:=nN (hall 7 (by decide))
 have nh:=nO (hall 8 (by decide))
 obtain⟨aw,cw,nf,hOw⟩:=ab (hT6 (hall 6 (by decide)))
 rw[mE,mF,mY,mZ,na,nc,nf,ng,nh]
 clear mE mF mY mZ na nc nf ng nh nq ns nE nF nH nK nN nO hall hT6
 have HOw:=ae hOw
 have HBw:=ae (hbW.mono hBw)
 have HO1:Hid (W'.heap[Bo]? =some (.cells #[.int .i64 s,.int .i64 t,.int .i64 k,.int .i64 z,.int .i64 q,.int .i64 l,.int .i64 e,.bool b,.int .i64 v,.int .i64 r,.int .i64 m,.map (some (mb)),pv,lv] 75 (0,0))):=ae ((hbW.block Bo zBo).trans hO)
 have HR1:=ae (hR.bel hbW)
 have HP1:Hid (aU W' B pv []):=ae (aO hP (aC hbW) (fun _ e9=>by cases e9))
 have HL1:Hid (ci W' B lv []):=ae (aO hL (aC hbW) (fun _ e9=>by cases e9))
 have HI1:=ae bIW
 clear hOw hbW bIW hO hR hP hL
 gi_wp2
 gi_loopw [15] (fun iv wr=>∃(i2:Nat) (pv' lv':Value) (es':List bV) (ps:List cO) (lw:List dm),i2≤nw∧iv= .int .i64 i2∧Hid ((ws.take i2).foldl (cd (decide (k=3)) l m x3 x4) (aJ es,[],[])=(aJ es',ps,lw))∧Hid (InvO 1500 (aJ es'))∧Hid (es'.length≤es.length+i2)∧Hid (ps.length≤(if decide (k=3)=true then 400*i2 else 0))∧Hid (lw.length≤i2)∧Hid (wr.heap[Bo]? =some (.cells #[.int .i64 s,.int .i64 t,.int .i64 k,.int .i64 z,.int .i64 q,.int .i64 l,.int .i64 e,.bool b,.int .i64 v,.int .i64 r,.int .i64 m,.map (some (mb)),pv',lv'] 75 (0,0)))∧Hid (bU wr B mb (nn+i2) es')∧Hid (aU wr B pv' ps)∧Hid (ci wr B lv' (lw.map (fu x1 x2 x3 x4 x5)))∧Hid (dj wr B (.slice aw nw cw) ws)∧Hid (wr.heap[w.heap.size]? =some (.cells #[.int .i64 x1,.int .i64 x2,.int .i64 x3,.int .i64 x4,.int .i64 x5] 29 (0,0)))∧Hid (Below B w wr)∧w.heap.size<wr.heap.size) (fun iv _=>nw - (intOf iv).toNat)
 case atStart=>
  exact⟨0,pv,lv,es,[],[],Nat.zero_le _,rfl,ae rfl,HIV,ae (Nat.le_refl _),ae (Nat.zero_le _),ae (Nat.zero_le _),HO1,HR1,HP1,HL1,HOw,HI1,HBw,hzW⟩
 case round=>
  clear HO1 HR1 HP1 HL1 HOw HI1 HBw hzW
  obtain⟨i2,pv',lv',es',ps,lw,hi2,rfl,HFo,HIn,HEl,HPl,HLl,HO,HR,HP,HL,HW,HI,HB,hzr⟩:=hrel
  have HPs:Hid (ps.length≤400):=ae (by
   have h9:=ab HPl
   by_cases hk3:decide (k=3)=true
   ·have h8:=ab HW1 hk3
    rw[ab HNw]at h8
    rw[if_pos hk3]at h9
    omega
   ·rw[if_neg hk3]at h9
    omega)
  have hel:=ab HEl
  have HRi:Hid (eo es'):=ae (i8.2 (ab HIn).1)
  have HOk:Hid (∀e ∈ es',gI (aX e.2)):=ae (fun e9 he9=>by
   have h9:=(ab HIn).2 e9.2 (List.mem_map.2 ⟨e9,he9,rfl⟩)
   exact⟨hwf _ h9.2.2.1.1 h9.2.2.1.2,hwf _ h9.2.1.1 h9.2.1.2,hwf _ (by have:=h9.1.1;simp[aX];omega) h9.1.2⟩)
  by_cases hlt:i2<nw
  ·have hWR:=jy (ab HW) (by rw[ab HNw];omega)
   obtain⟨_,_,hy⟩:=hWR
   obtain⟨gw,ow,rfl,hr⟩:=hy.resolve_left (by omega)
   obtain⟨x,hxk⟩:∃x,ws[i2]? =some x:=⟨_,List.getElem?_eq_getElem (by rw[ab HNw];omega)⟩
   have hrow:=hr i2 x hxk
   have hxa:=ab HWa x (List.mem_of_getElem? hxk)
   have hxb:=ab HWb x (List.mem_of_getElem? hxk)
   have HXK:=ae hxk
   obtain⟨xa,xb⟩:=x
   dsimp only at hxa hxb
   have hxlt:xa<xb:=by omega
   have hxa2: -1000≤xa∧xa≤1000:=by omega
   clear hr hy hxk hxa
   obtain⟨d0,d1⟩:=hrow
   have hgw:gw<wr.heap.size:=(dF.lt ⟨d0,d1⟩)
   dsimp only at d0 d1
   have bI:=ab HI
   obtain⟨ic0,ic1,ic2,ic3,ic4⟩:=c5 bI
   have zI:w.heap.size<wr.heap.size:=by omega
   have hbx:Below wr.heap.size wr (wr.alloc (.cells #[.int .i64 xa,.int .i64 xb] 48)):=ay _ _
   have hBx:Below B w (wr.alloc (.cells #[.int .i64 xa,.int .i64 xb] 48)):=(ab HB).trans (hbx.mono (by have:=(ab HB).size;omega))
   have HC2:=ae (takein_any Bo B mb (nn+i2) s t k z q l e b v r m pv' lv' ps lw es' x1 x2 x3 x4 x5 xa xb (wr.alloc (.cells #[.int .i64 xa,.int .i64 xb] 48)) ((hbx.block Bo (Array.getElem?_eq_some_iff.1 (ab HO)).1).trans (ab HO)) hBo (by have:=(ab HB).size;simp;omega) hmb ((ab HR).bel hbx) (aO (ab HP) (aC hbx) (fun _ e9=>by cases e9)) (aO (ab HL) (aC hbx) (fun _ e9=>by cases e9)) hl (ab HRi) (ab HOk) (fun e9 he9=>((ab HIn).2 e9.2 (List.mem_map.2 ⟨e9,he9,rfl⟩)).1) (hwf x3 hx3.1 hx3.2) hwf (fun e9 he9=>((ab HIn).2 e9.2 (List.mem_map.2 ⟨e9,he9,rfl⟩)).2.1) hxa2 hxb hxlt (by omega) (by omega) (by have:=ab HPs;omega) (by have:=ab HLl;omega))
   gi_wp2_with (refine⟨trivial,?_⟩;gi_at_call 60;refine(callsIn_wide.2 (ab HC2)).mono ?_;rintro e9 w6 ⟨rfl,pv2,lv2,es2,bO2,hR2,hP2,hL2,hq2,hB2,hK2⟩)
   have HF2:Hid ((ws.take (i2+1)).foldl (cd (decide (k=3)) l m x3 x4) (aJ es,[],[])=cd (decide (k=3)) l m x3 x4 (aJ es',ps,lw) ⟨xa,xb⟩):=ae (by rw[List.take_add_one,ab HXK,Option.toList,List.foldl_append,ab HFo];rfl)
   have hinv:=im_inv (ses:=decide (k=3)) (l:=l) (m:=m) (ky:=x3) (v:=x4) (ps:=ps) (lw:=lw) (w:=⟨xa,xb⟩) (ab HIn) (by omega) hx3 hxa2 hxb
   obtain⟨⟨ys3,ps3,lw3⟩,h3⟩:∃r9,cd (decide (k=3)) l m x3 x4 (aJ es',ps,lw) ⟨xa,xb⟩=r9:=⟨_,rfl⟩
   rw[h3]at hP2 hL2 hq2 hinv HF2
   dsimp only at hP2 hL2 hq2 hinv
   subst hq2
   have hel2:es2.length≤es'.length+1:=by have h9:=hinv.2.1;unfold aJ at h9;rw[List.length_map,List.length_map]at h9;exact h9
   refine⟨⟨i2+1,pv2,lv2,es2,ps3,lw3,by omega,by go_num,HF2,ae hinv.1,ae (by omega),ae ?_,ae (by have:=hinv.2.2.2;have:=ab HLl;omega),ae bO2,ae hR2,ae hP2,ae hL2,ae (iM.own (aO (ab HW) (aC hbx) (fun _ e9=>by cases e9)) hK2 (by decide)),ae (hK2.2 _ _ _ (by decide) ((hbx.block _ zI).trans (ab HI))),ae (hBx.trans hB2),by have:=hK2.1;simp at this;omega⟩,by simp[intOf];omega⟩
   have h9:=hinv.2.2.1
   have h8:=ab HPl
   have h7:(aJ es').length≤361:=by unfold aJ;rw[List.length_map];omega
   split
   ·rename_i hk3
    rw[if_pos hk3]at h9 h8
    omega
   ·rename_i hk3
    rw[if_neg hk3]at h9 h8
    omega
  ·obtain rfl:i2=nw:=by omega
   rw[List.take_of_length_le (by rw[ab HNw];exact Nat.le_refl _),←ab HIM]at HFo
   gi_wp2
   refine leavesIn_cons (f:=59) (args:=#[.pointer (some ⟨Bo,0,none⟩)]) (by simp) (fun _=>by omega) (oS) (fun _ _=>trivial) ?_
   refine(gather_any .returning Bo B mb (nn+i2) s t k z q l e b v r m pv' lv' ps es' wr (ab HO) hBo (by have:=(ab HB).size;omega) (ab HR) (ab HP) (ab HRi) (ab HOk) (fun e9 he9=>by have h9:=((ab HIn).2 e9.2 (List.mem_map.2 ⟨e9,he9,rfl⟩)).2.2.2;exact⟨h9.1,by omega⟩) (by omega) (by have:=ab HPs;omega) (by omega)).mono ?_
   rintro e9 u9 w2 ⟨rfl,rfl,pv2,bO2,hR2,hP2,hB2,hK2⟩
   have hfl:((aJ es').filter (cP m)).length≤400:=Nat.le_trans (List.length_filter_le _ _) (by unfold aJ;rw[List.length_map];omega)
   refine⟨.tuple #[],results_none rfl _ _ _,rfl,pv2,lv',gEs m es',bO2,hR2.more (by omega),?_,?_,?_,?_,?_,?_,?_,?_,(ab HB).trans hB2⟩
   ·rw[ab HFo]
    rw[gEs_pans]at hP2
    exact hP2
   ·rw[ab HFo]
    exact hK2.own (ab HL) (by decide)
   ·rw[ab HFo,gEs_rows]
    rfl
   ·rw[i8,gEs_rows]
    exact List.pairwise_map.2 ((ab HIn).1.imp (fun{a c} hac=>by rw[jO,jO];exact hac))
   ·intro e8 he8
    unfold gEs at he8
    obtain⟨e7,he7,rfl⟩:=List.mem_map.1 he8
    have h9:=ab HOk e7 he7
    have e6:aX (if cP m e7.2=true then dp e7.2 else e7.2)=aX e7.2:=by split<;>rfl
    show gI (aX (if cP m e7.2=true then dp e7.2 else e7.2))
    rw[e6]
    exact h9
   ·unfold gEs
    rw[List.length_map]
    omega
   ·rw[ab HFo]
    unfold gaF
    dsimp only
    rw[List.length_append,List.length_map]
    have:=ab HPs
    omega
   ·rw[ab HFo]
    have:=ab HLl
    show lw.length≤61
    omega
set_option linter.unusedSimpArgs false
set_option maxRecDepth 100000 in
set_option maxHeartbeats 8000000 in
theorem mD(s t k z q l e:Int)(b:Bool)(v r m:Int)(a:Option Addr)(len cap:Nat)(xs:List aD)(x1 x2 x3 x4 x5:Int)(w:World)(h:cE w a len xs):Calls Tryz.prog 8 #[.agg #[.int .i64 s,.int .i64 t,.int .i64 k,.int .i64 z,.int .i64 q,.int .i64 l,.int .i64 e,.bool b,.int .i64 v,.int .i64 r],.agg #[.int .i64 m,.slice a len cap],.agg #[.int .i64 x1,.int .i64 x2,.int .i64 x3,.int .i64 x4,.int .i64 x5]] w fun e' w'=>∃v1 v2 v3,e'= .returned (.tuple #[.agg #[.int .i64 (dw s t k z q l e b v r m xs x1 x2 x3 x4 x5).1,v1],v2,v3])∧aT w' w.heap.size v1 (dw s t k z q l e b v r m xs x1 x2 x3 x4 x5).2.1∧aU w' w.heap.size v2 (dw s t k z q l e b v r m xs x1 x2 x3 x4 x5).2.2.1∧ci w' w.heap.size v3 (dw s t k z q l e b v r m xs x1 x2 x3 x4 x5).2.2.2∧Below w.heap.size w w':=by
 have hxl:=h.1
 have hbE:Below w.heap.size w ((((w.alloc (.cells #[.int .i64 s,.int .i64 t,.int .i64 k,.int .i64 z,.int .i64 q,.int .i64 l,.int .i64 e,.bool b,.int .i64 v,.int .i64 r] 24)).alloc (.cells #[.int .i64 m,.slice a len cap] 27)).alloc (.cells #[.int .i64 x1,.int .i64 x2,.int .i64 x3,.int .i64 x4,.int .i64 x5] 29)).alloc (.cells #[.int .i64 0,.slice none 0 0] 27)):=ag (ag (ag (ay _ _) _) _) _
 have HE:=ae (h.below hbE)
 have eJ:((((w.alloc (.cells #[.int .i64 s,.int .i64 t,.int .i64 k,.int .i64 z,.int .i64 q,.int .i64 l,.int .i64 e,.bool b,.int .i64 v,.int .i64 r] 24)).alloc (.cells #[.int .i64 m,.slice a len cap] 27)).alloc (.cells #[.int .i64 x1,.int .i64 x2,.int .i64 x3,.int .i64 x4,.int .i64 x5] 29)).alloc (.cells #[.int .i64 0,.slice none 0 0] 27)).heap[w.heap.size]? =some (.cells #[.int .i64 s,.int .i64 t,.int .i64 k,.int .i64 z,.int .i64 q,.int .i64 l,.int .i64 e,.bool b,.int .i64 v,.int .i64 r] 24 (0,0)):=aN<|aN<|aN<|nA
 have eS:((((w.alloc (.cells #[.int .i64 s,.int .i64 t,.int .i64 k,.int .i64 z,.int .i64 q,.int .i64 l,.int .i64 e,.bool b,.int .i64 v,.int .i64 r] 24)).alloc (.cells #[.int .i64 m,.slice a len cap] 27)).alloc (.cells #[.int .i64 x1,.int .i64 x2,.int .i64 x3,.int .i64 x4,.int .i64 x5] 29)).alloc (.cells #[.int .i64 0,.slice none 0 0] 27)).heap[w.heap.size+1]? =some (.cells #[.int .i64 m,.slice a len cap] 27 (0,0)):=aN<|aN<|nA
 have eI:((((w.alloc (.cells #[.int .i64 s,.int .i64 t,.int .i64 k,.int .i64 z,.int .i64 q,.int .i64 l,.int .i64 e,.bool b,.int .i64 v,.int .i64 r] 24)).alloc (.cells #[.int .i64 m,.slice a len cap] 27)).alloc (.cells #[.int .i64 x1,.int .i64 x2,.int .i64 x3,.int .i64 x4,.int .i64 x5] 29)).alloc (.cells #[.int .i64 0,.slice none 0 0] 27)).heap[w.heap.size+1+1]? =some (.cells #[.int .i64 x1,.int .i64 x2,.int .i64 x3,.int .i64 x4,.int .i64 x5] 29 (0,0)):=aN<|nA
 have eR:((((w.alloc (.cells #[.int .i64 s,.int .i64 t,.int .i64 k,.int .i64 z,.int .i64 q,.int .i64 l,.int .i64 e,.bool b,.int .i64 v,.int .i64 r] 24)).alloc (.cells #[.int .i64 m,.slice a len cap] 27)).alloc (.cells #[.int .i64 x1,.int .i64 x2,.int .i64 x3,.int .i64 x4,.int .i64 x5] 29)).alloc (.cells #[.int .i64 0,.slice none 0 0] 27)).heap[w.heap.size+1+1+1]? =some (.cells #[.int .i64 0,.slice none 0 0] 27 (0,0)):=nA
 obtain⟨ob,hob⟩:∃ob,cX s t k z q l e v r m xs=ob:=⟨_,rfl⟩
 have HOB:=ae hob
 clear hob
 go_enter Tryz.func8,Tryz.ntmps8
 go_wp2_with fail
 refine(implopok_eq s t k z q l e b v r m _ _ _ xs _ (ab HE) HOB).mono ?_
 rintro e' w1 ⟨rfl,hb1⟩
 have bJ:=(hb1.block (w.heap.size) (sA)).trans eJ
 have bS:=(hb1.block (w.heap.size+1) (sA)).trans eS
 have bI:=(hb1.block (w.heap.size+1+1) (sA)).trans eI
 have bR:=(hb1.block (w.heap.size+1+1+1) (sA)).trans eR
 have hbw:Below w.heap.size w w1:=ap hbE hb1
 have hz1:w.heap.size+4≤w1.heap.size:=by have:=hb1.size;simp at this;omega
 clear eJ eS eI eR HE hbE hb1
 have hnone:gM s t k z q l e v r m xs x1 x2 x3 x4 x5=false→∀(W:World) (v2 v3:Value),aU W w.heap.size v2 []→ci W w.heap.size v3 []→Below w.heap.size w W→∃v1 v4 v5,(Ending.returned (.tuple #[.agg #[.int .i64 0,.slice none 0 0],v2,v3]))= .returned (.tuple #[.agg #[.int .i64 (dw s t k z q l e b v r m xs x1 x2 x3 x4 x5).1,v1],v4,v5])∧aT W w.heap.size v1 (dw s t k z q l e b v r m xs x1 x2 x3 x4 x5).2.1∧aU W w.heap.size v4 (dw s t k z q l e b v r m xs x1 x2 x3 x4 x5).2.2.1∧ci W w.heap.size v5 (dw s t k z q l e b v r m xs x1 x2 x3 x4 x5).2.2.2∧Below w.heap.size w W:=by
  intro h9 W v2 v3 h2 h3 hW
  rw[jA h9]
  exact⟨_,_,_,rfl,World.ownsRow_nil _ _ _ _,h2,h3,hW⟩
 have zw0:w.heap.size<w1.heap.size:=by omega
 have zw1:w.heap.size+1<w1.heap.size:=by omega
 have zw2:w.heap.size+1+1<w1.heap.size:=by omega
 have zw3:w.heap.size+1+1+1<w1.heap.size:=by omega
 obtain⟨j0,j1,j2,j3,j4,j5,j6,j7,j8,j9⟩:=cV bJ
 obtain⟨ss0,ss1⟩:=c2 bS
 obtain⟨ic0,ic1,ic2,ic3,ic4⟩:=Go.Proofs.YtdmhihcipkhecaaGreat.c5 bI
 obtain⟨rr0,rr1⟩:=c2 bR
 obtain⟨rrf0,rrf1⟩:=f2 bR
 cases ob with
 |false=>
  have hno:=ae (hnone (by unfold gM;rw[ab HOB];rfl))
  have hO4:Hid (Below w.heap.size w ((w1.setCell ⟨w.heap.size+1+1+1,0,none⟩ (.int .i64 0)).setCell ⟨w.heap.size+1+1+1,1,none⟩ (.slice none 0 0))):=ae (av (av hbw (sA) _) (sA) _)
  clear hnone bJ bS bI bR
  go_wp2
  refine bodyPost_ret (v:= .tuple #[.agg #[.int .i64 0,.slice none 0 0],.slice none 0 0,.slice none 0 0]) (oB) rfl ?_
  exact ab hno _ _ _ (World.ownsRow_nil _ _ _ _) (World.ownsRow_nil _ _ _ _) (ab hO4)
 |true=>
  obtain⟨io,hio⟩:∃io,dO x1 x2 x3 x4 x5=io:=⟨_,rfl⟩
  have HIR:=ae hio
  have HCI:=isrec_any x1 x2 x3 x4 x5 w1
  rw[hio]at HCI
  have HCI2:=ae HCI
  clear hio HCI
  go_wp2_with fail
  refine(ab HCI2).mono ?_
  rintro e' w2 ⟨rfl,hb2⟩
  clear j0 j1 j2 j3 j4 j5 j6 j7 j8 j9 ss0 ss1 ic0 ic1 ic2 ic3 ic4 rr0 rr1 rrf0 rrf1 HCI2 zw0 zw1 zw2 zw3
  replace bJ:=(hb2.block (w.heap.size) (by omega)).trans bJ
  replace bS:=(hb2.block (w.heap.size+1) (by omega)).trans bS
  replace bI:=(hb2.block (w.heap.size+1+1) (by omega)).trans bI
  replace bR:=(hb2.block (w.heap.size+1+1+1) (by omega)).trans bR
  replace hbw:Below w.heap.size w w2:=ap hbw hb2
  have zzw2:=hb2.size
  clear hb2
  have zw0:w.heap.size<w2.heap.size:=by omega
  have zw1:w.heap.size+1<w2.heap.size:=by omega
  have zw2:w.heap.size+1+1<w2.heap.size:=by omega
  have zw3:w.heap.size+1+1+1<w2.heap.size:=by omega
  obtain⟨j0,j1,j2,j3,j4,j5,j6,j7,j8,j9⟩:=cV bJ
  obtain⟨ss0,ss1⟩:=c2 bS
  obtain⟨ic0,ic1,ic2,ic3,ic4⟩:=Go.Proofs.YtdmhihcipkhecaaGreat.c5 bI
  obtain⟨rr0,rr1⟩:=c2 bR
  obtain⟨rrf0,rrf1⟩:=f2 bR
  cases io with
  |false=>
   have hno:=ae (hnone (by unfold gM;rw[ab HOB,ab HIR];rfl))
   have hO4:Hid (Below w.heap.size w ((w2.setCell ⟨w.heap.size+1+1+1,0,none⟩ (.int .i64 0)).setCell ⟨w.heap.size+1+1+1,1,none⟩ (.slice none 0 0))):=ae (av (av hbw (sA) _) (sA) _)
   clear hnone bJ bS bI bR
   go_wp2
   refine bodyPost_ret (v:= .tuple #[.agg #[.int .i64 0,.slice none 0 0],.slice none 0 0,.slice none 0 0]) (oB) rfl ?_
   exact ab hno _ _ _ (World.ownsRow_nil _ _ _ _) (World.ownsRow_nil _ _ _ _) (ab hO4)
  |true=>
   by_cases hn:len≤280
   ·have kd:decide ((280:Int)<(len:Int))=false:=by simp;omega
    have kd2:decide (280<len)=false:=by simp;omega
    obtain⟨hx3,hl,hmb,hokx,hrs⟩:=ix (ab HOB)
    have hj:=kC (ab HOB)
    obtain⟨hT,hx33⟩:=isRec_bd (ab HIR)
    have HTF:Hid (dw s t k z q l e b v r m xs x1 x2 x3 x4 x5=(m,(cY (decide (k=3)) b l m x3 x4 xs (ba k z q x2)).1,(cY (decide (k=3)) b l m x3 x4 xs (ba k z q x2)).2.1,(cY (decide (k=3)) b l m x3 x4 xs (ba k z q x2)).2.2.map (fu x1 x2 x3 x4 x5))):=ae (by unfold dw;rw[takB_of (ab HOB) (ab HIR) (by omega)];rfl)
    have HSame:Hid (cY (decide (k=3)) b l m x3 x4 xs (ba k z q x2)=gaF b m (eU (decide (k=3)) l m x3 x4 xs (ba k z q x2))):=ae (take_same hrs hokx (by omega) (fun h9=>wins_one (by simpa using h9)) (wins_pw hj))
    rw[ab HSame]at HTF
    have HInv:Hid (InvO 1500 xs):=ae ⟨hrs,fun x hx=>by have h1:=(ei (hokx x hx)).2.1;have h2:=(ei (hokx x hx)).2.2.2.1;have h3:=(ei (hokx x hx)).1;omega⟩
    have HOk3:Hid (∀x ∈ xs,gI (aX x)):=ae (fun x hx=>ok_ok3 (hokx x hx))
    have HRs:=ae hrs
    clear hnone hokx hrs
    have HX:=ae (h.below hbw)
    go_wp2_with fail
    refine(operof_any s t k z q l e b v r m _ _ _ xs _ (ab HX) (by omega) (ab HOk3) (ab HRs)).mono ?_
    rintro e' w3 ⟨es,rfl,hE,hR3,bO3,hb3⟩
    clear j0 j1 j2 j3 j4 j5 j6 j7 j8 j9 ss0 ss1 ic0 ic1 ic2 ic3 ic4 rr0 rr1 rrf0 rrf1 kd kd2 zw0 zw1 zw2 zw3
    have hbs3:=hb3.size
    replace bJ:=(hb3.block (w.heap.size) (by omega)).trans bJ
    replace bS:=(hb3.block (w.heap.size+1) (by omega)).trans bS
    replace bI:=(hb3.block (w.heap.size+1+1) (by omega)).trans bI
    replace bR:=(hb3.block (w.heap.size+1+1+1) (by omega)).trans bR
    replace hbw:Below w.heap.size w w3:=ap hbw hb3
    have zzw3:=hb3.size
    clear hb3
    have hE2:aJ es=xs:=hE
    have hel:es.length=len:=by have h9:=congrArg List.length hE;rw[List.length_map]at h9;omega
    obtain⟨Bo,hBo⟩:∃Bo,w2.heap.size+1+1+1=Bo:=⟨_,rfl⟩
    obtain⟨mb,hmbe⟩:∃mb,w2.heap.size+1+1=mb:=⟨_,rfl⟩
    rw[hBo,hmbe]at bO3
    rw[hmbe]at hR3
    rw[hBo]
    have hBB:w2.heap.size≤Bo:=by omega
    have hBm:w2.heap.size≤mb:=by omega
    have HTk:=ae (take_any Bo w2.heap.size mb len s t k z q l e b v r m (.slice none 0 0) (.slice none 0 0) es x1 x2 x3 x4 x5 w3 bO3 hBB zzw3 hBm hR3 (World.ownsRow_nil _ _ _ _) (World.ownsRow_nil _ _ _ _) hj hT ⟨by omega,by omega⟩ (by rw[hE2];exact ab HInv) (by omega) (by omega) (by omega))
    rw[hE2]at HTk
    clear hBo hmbe hE hE2 bO3 hR3 HX
    obtain⟨ic0,ic1,ic2,ic3,ic4⟩:=Go.Proofs.YtdmhihcipkhecaaGreat.c5 bI
    go_wp2_with fail
    refine(ab HTk).mono ?_
    rintro e' w4 ⟨rfl,pv4,lv4,es4,bO4,hR4,hP4,hL4,hq4,hri4,hok4,hl4,hpl4,hll4,hb4⟩
    clear ic0 ic1 ic2 ic3 ic4 HTk
    have zz4:=hb4.size
    have bR4:=(hb4.block (w.heap.size+1+1+1) (by omega)).trans bR
    have hbw4:Below w.heap.size w w4:=hbw.trans (hb4.mono (by omega))
    obtain⟨⟨ys,ps,lw⟩,hF⟩:∃r9,gaF b m (eU (decide (k=3)) l m x3 x4 xs (ba k z q x2))=r9:=⟨_,rfl⟩
    rw[hF]at hP4 hL4 hq4 hpl4 hll4 HTF
    dsimp only at hP4 hL4 hq4 hpl4 hll4
    have HSt:=ae (state_any Bo w2.heap.size mb (len+61) s t k z q l e b v r m pv4 lv4 es4 w4.drew bO4 (hR4.bel (aq (Below.refl _ _))) hri4 hok4 (by omega))
    have HP4:=ae hP4
    have HL4:=ae hL4
    have Hq4:=ae hq4
    clear bJ bS bI bR hP4 hL4 hq4 hR4 hri4 hok4 hF hbw hb4
    go_wp2_with fail
    refine wp_region_held_drew (S:=(fun W=>W.heap[Bo]? =some (.cells #[.int .i64 s,.int .i64 t,.int .i64 k,.int .i64 z,.int .i64 q,.int .i64 l,.int .i64 e,.bool b,.int .i64 v,.int .i64 r,.int .i64 m,.map (some (mb)),pv4,lv4] 75 (0,0)))) (oW) ?_ (fun hHeld=>?_)
    ·((try dsimp only);exact bO4)
    refine kV 0 ?_
    refine kV 2 ?_
    refine kV 3 ?_
    refine kV 4 ?_
    refine kT 5 ?_ ?_ ?_
    rotate_left
    ·(intro w9 hSw;(try dsimp only at hSw);have q0:=hSw;have ax0:=cA q0 0;have ax1:=cA q0 1;have ax2:=cA q0 2;have ax3:=cA q0 3;have ax4:=cA q0 4;have ax5:=cA q0 5;have ax6:=cA q0 6;have ax7:=cA q0 7;have ax8:=cA q0 8;have ax9:=cA q0 9;have ax10:=cA q0 10;simp only[gA,gZ,gS]at ax0 ax1 ax2 ax3 ax4 ax5 ax6 ax7 ax8 ax9 ax10;have ax11:w9.cell? ⟨Bo,11,none⟩=some (.map (some (mb))):=(by simp[World.cell?,q0,go_sem]);have ax12:=cA q0 12;have ax13:=cA q0 13;simp only[gA,gZ,gS]at ax12 ax13;go_simp<;>with_reducible rfl)
    try simp only[Act.put,tA,tZ,tS]
    refine kV 6 ?_
    refine kV 7 ?_
    refine kV 8 ?_
    refine kT 9 ?_ ?_ ?_
    rotate_left
    ·(intro w9 hSw;(try dsimp only at hSw);have q0:=hSw;have ax0:=cA q0 0;have ax1:=cA q0 1;have ax2:=cA q0 2;have ax3:=cA q0 3;have ax4:=cA q0 4;have ax5:=cA q0 5;have ax6:=cA q0 6;have ax7:=cA q0 7;have ax8:=cA q0 8;have ax9:=cA q0 9;have ax10:=cA q0 10;simp only[gA,gZ,gS]at ax0 ax1 ax2 ax3 ax4 ax5 ax6 ax7 ax8 ax9 ax10;have ax11:w9.cell? ⟨Bo,11,none⟩=some (.map (some (mb))):=(by simp[World.cell?,q0,go_sem]);have ax12:=cA q0 12;have ax13:=cA q0 13;simp only[gA,gZ,gS]at ax12 ax13;go_simp<;>with_reducible rfl)
    try simp only[Act.put,tA,tZ,tS]
    refine rD 1 (fun K hK=>?_)
    go_simp
    (go_at_call 31;refine(ab HSt).mono ?_;rintro e9 w5 ⟨a5,c5,rfl,hO5,hb5⟩)
    (try go_wp2_with fail)
    replace hb5:Below w4.heap.size w4 w5:=ap (aq (Below.refl _ _)) hb5
    have zz5:=hb5.size
    replace bO4:=(hb5.block Bo (Array.getElem?_eq_some_iff.1 bO4).1).trans bO4
    replace bR4:=(hb5.block (w.heap.size+1+1+1) (Array.getElem?_eq_some_iff.1 bR4).1).trans bR4
    replace hbw4:Below w.heap.size w w5:=ap hbw4 hb5
    have HO5:Hid (aT w5 w.heap.size (.slice a5 es4.length c5) ys):=ae (by rw[←ab Hq4];exact World.ownsRow.mono hO5 (show w.heap.size≤w4.heap.size by omega))
    have HP5:=ae (World.ownsRow.mono (aO (ab HP4) (aC hb5) (fun _ e9=>by cases e9)) (show w.heap.size≤w2.heap.size by omega))
    have HL5:=ae (World.ownsRow.mono (aO (ab HL4) (aC hb5) (fun _ e9=>by cases e9)) (show w.heap.size≤w2.heap.size by omega))
    have hneB:Bo≠w.heap.size+1+1+1:=by omega
    clear hO5 hb5
    clear hHeld
    refine hK.out _ _ ?_ (fun hHeld=>?_)
    ·((try dsimp only);exact bO4)
    clear hK K
    try simp only[Act.put,tA,tZ,tS]
    refine rD 10 (fun K hK=>?_)
    obtain⟨rr0,rr1⟩:=c2 bR4
    obtain⟨rrf0,rrf1⟩:=f2 bR4
    have zr5:w.heap.size+1+1+1<w5.heap.size:=by omega
    go_simp
    clear rr0 rr1 rrf0 rrf1
    have mO:((w5.setCell ⟨w.heap.size+1+1+1,0,none⟩ (.int .i64 m)).setCell ⟨w.heap.size+1+1+1,1,none⟩ (.slice a5 es4.length c5)).heap[Bo]? =some (.cells #[.int .i64 s,.int .i64 t,.int .i64 k,.int .i64 z,.int .i64 q,.int .i64 l,.int .i64 e,.bool b,.int .i64 v,.int .i64 r,.int .i64 m,.map (some (mb)),pv4,lv4] 75 (0,0)):=(Below.heap_setCell _ _ _ _ hneB).trans ((Below.heap_setCell _ _ _ _ hneB).trans bO4)
    have mR:((w5.setCell ⟨w.heap.size+1+1+1,0,none⟩ (.int .i64 m)).setCell ⟨w.heap.size+1+1+1,1,none⟩ (.slice a5 es4.length c5)).heap[w.heap.size+1+1+1]? =some (.cells #[.int .i64 m,(.slice a5 es4.length c5)] 27 (0,0)):=Joins.block_setCell (Joins.block_setCell bR4 _) _
    have hOF:=ae (am (p:=⟨w.heap.size+1+1+1,1,none⟩) (u:=(.slice a5 es4.length c5)) (am (p:=⟨w.heap.size+1+1+1,0,none⟩) (u:= .int .i64 m) (ab HO5) (af (ab HO5) bR4 (by decide))) (af (ab HO5) bR4 (by decide)))
    have hPF:=ae (am (p:=⟨w.heap.size+1+1+1,1,none⟩) (u:=(.slice a5 es4.length c5)) (am (p:=⟨w.heap.size+1+1+1,0,none⟩) (u:= .int .i64 m) (ab HP5) (af (ab HP5) bR4 (by decide))) (af (ab HP5) bR4 (by decide)))
    have hLF:=ae (am (p:=⟨w.heap.size+1+1+1,1,none⟩) (u:=(.slice a5 es4.length c5)) (am (p:=⟨w.heap.size+1+1+1,0,none⟩) (u:= .int .i64 m) (ab HL5) (af (ab HL5) bR4 (by decide))) (af (ab HL5) bR4 (by decide)))
    have hBF:=ae (av (p:=⟨w.heap.size+1+1+1,1,none⟩) (av (p:=⟨w.heap.size+1+1+1,0,none⟩) hbw4 (sA) (.int .i64 m)) (sA) (.slice a5 es4.length c5))
    clear hHeld
    refine hK.out _ _ ?_ (fun hHeld=>?_)
    ·((try dsimp only);exact mO)
    clear hK K
    try simp only[Act.put,tA,tZ,tS]
    refine rD 11 (fun K hK=>?_)
    go_simp
    clear hHeld
    refine hK.out _ _ ?_ (fun hHeld=>?_)
    ·((try dsimp only);exact mO)
    clear hK K
    try simp only[Act.put,tA,tZ,tS]
    refine rD 12 (fun K hK=>?_)
    go_simp
    clear hHeld
    refine hK.out _ _ ?_ (fun hHeld=>?_)
    ·((try dsimp only);exact mO)
    clear hK K
    try simp only[Act.put,tA,tZ,tS]
    refine wpAnyH_done (oW) ?_ _
    clear hHeld mO bO4 bR4
    generalize ((w5.setCell ⟨w.heap.size+1+1+1,0,none⟩ (.int .i64 m)).setCell ⟨w.heap.size+1+1+1,1,none⟩ (.slice a5 es4.length c5))=w6 at mR hOF hPF hLF hBF ⊢
    obtain⟨rr0,rr1⟩:=c2 mR
    clear mR
    go_wp2
    refine bodyPost_ret (v:= .tuple #[.agg #[.int .i64 m,(.slice a5 es4.length c5)],pv4,lv4]) (oB) rfl ?_
    rw[ab HTF]
    exact⟨_,_,_,rfl,ab hOF,ab hPF,ab hLF,ab hBF⟩
   ·have kd:decide ((280:Int)<(len:Int))=true:=by simp;omega
    have kd2:decide (280<len)=true:=by simp;omega
    have hno:=ae (hnone (by unfold gM;rw[ab HOB,ab HIR];simp;omega))
    have hO4:Hid (Below w.heap.size w ((w2.setCell ⟨w.heap.size+1+1+1,0,none⟩ (.int .i64 0)).setCell ⟨w.heap.size+1+1+1,1,none⟩ (.slice none 0 0))):=ae (av (av hbw (sA) _) (sA) _)
    clear hnone bJ bS bI bR
    go_wp2
    refine bodyPost_ret (v:= .tuple #[.agg #[.int .i64 0,.slice none 0 0],.slice none 0 0,.slice none 0 0]) (oB) rfl ?_
    exact ab hno _ _ _ (World.ownsRow_nil _ _ _ _) (World.ownsRow_nil _ _ _ _) (ab hO4)
set_option linter.unusedSimpArgs false
theorem spectake_eq(s t k z q l e:Int)(b:Bool)(v r m:Int)(a:Option Addr)(len cap:Nat)(xs:List aD)(x1 x2 x3 x4 x5:Int)(w:World){M:Int}{R:List aD}{P:List cO}{L:List fa}(h:cE w a len xs)(hl:len≤1048576)(hN:Hid (dw s t k z q l e b v r m xs x1 x2 x3 x4 x5=(M,R,P,L))):Calls Tryz.prog 9 #[.agg #[.int .i64 s,.int .i64 t,.int .i64 k,.int .i64 z,.int .i64 q,.int .i64 l,.int .i64 e,.bool b,.int .i64 v,.int .i64 r],.agg #[.int .i64 m,.slice a len cap],.agg #[.int .i64 x1,.int .i64 x2,.int .i64 x3,.int .i64 x4,.int .i64 x5]] w fun e' w'=>∃a1 c1 pa pc la lc,e'= .returned (.tuple #[.agg #[.int .i64 M,.slice a1 R.length c1],.slice pa P.length pc,.slice la L.length lc])∧aT w' w.heap.size (.slice a1 R.length c1) R∧aU w' w.heap.size (.slice pa P.length pc) P∧ci w' w.heap.size (.slice la L.length lc) L∧Below w.heap.size w w':=by
 refine(iH s t k z q l e b v r m a len cap xs x1 x2 x3 x4 x5 w h).mono ?_
 rintro e' w' ⟨v1,v2,v3,rfl,hO,hP,hL,hb⟩
 have hle:=tk_le s t k z q l e b v r m xs x1 x2 x3 x4 x5
 rw[ab hN]at hO hP hL hle ⊢
 dsimp only at hO hP hL hle ⊢
 obtain⟨a1,c1,rfl,_⟩:=ez hO hle.1
 obtain⟨pa,pc,rfl,_⟩:=holdPn hP hle.2.1
 obtain⟨la,lc,rfl,_⟩:=mp hL hle.2.2
 exact⟨a1,c1,pa,pc,la,lc,rfl,hO,hP,hL,hb⟩
theorem impltake_eq(s t k z q l e:Int)(b:Bool)(v r m:Int)(a:Option Addr)(len cap:Nat)(xs:List aD)(x1 x2 x3 x4 x5:Int)(w:World){M:Int}{R:List aD}{P:List cO}{L:List fa}(h:cE w a len xs)(hl:len≤1048576)(hN:Hid (dw s t k z q l e b v r m xs x1 x2 x3 x4 x5=(M,R,P,L))):Calls Tryz.prog 8 #[.agg #[.int .i64 s,.int .i64 t,.int .i64 k,.int .i64 z,.int .i64 q,.int .i64 l,.int .i64 e,.bool b,.int .i64 v,.int .i64 r],.agg #[.int .i64 m,.slice a len cap],.agg #[.int .i64 x1,.int .i64 x2,.int .i64 x3,.int .i64 x4,.int .i64 x5]] w fun e' w'=>∃a1 c1 pa pc la lc,e'= .returned (.tuple #[.agg #[.int .i64 M,.slice a1 R.length c1],.slice pa P.length pc,.slice la L.length lc])∧aT w' w.heap.size (.slice a1 R.length c1) R∧aU w' w.heap.size (.slice pa P.length pc) P∧ci w' w.heap.size (.slice la L.length lc) L∧Below w.heap.size w w':=by
 refine(mD s t k z q l e b v r m a len cap xs x1 x2 x3 x4 x5 w h).mono ?_
 rintro e' w' ⟨v1,v2,v3,rfl,hO,hP,hL,hb⟩
 have hle:=tk_le s t k z q l e b v r m xs x1 x2 x3 x4 x5
 rw[ab hN]at hO hP hL hle ⊢
 dsimp only at hO hP hL hle ⊢
 obtain⟨a1,c1,rfl,_⟩:=ez hO hle.1
 obtain⟨pa,pc,rfl,_⟩:=holdPn hP hle.2.1
 obtain⟨la,lc,rfl,_⟩:=mp hL hle.2.2
 exact⟨a1,c1,pa,pc,la,lc,rfl,hO,hP,hL,hb⟩
end Go.Proofs.YtdmhihcipkhecaaGreat
namespace Go.Proofs.YtdmhihcipkhecaaGreat
open Go.ChangeShapes Go.WideShapes Go.ChangeAt Go.RowKit
set_option linter.unusedSimpArgs false
set_option maxRecDepth 20000 in
set_option maxHeartbeats 1000000 in
theorem frlates_any(a1 a2:Option Addr)(len cap1 cap2:Nat)(xs:List fa)(w:World)(h1:iZ w a1 len xs)(h2:iZ w a2 len xs):Calls Tryz.prog 12 #[.slice a1 len cap1,.slice a2 len cap2] w fun e w'=>e= .returned (.bool true)∧Below w.heap.size w w':=by
 have hm:=h1.2.1
 unfold maxLen at hm
 go_enter Tryz.func12,Tryz.ntmps12
 go_wp2
 go_loopw [5] (fun i wr=>∃k:Nat,k≤len∧i= .int .i64 k∧Below w.heap.size w wr) (fun i _=>len - (intOf i).toNat)
 case atStart=>exact⟨0,Nat.zero_le _,rfl,Below.refl _ _⟩
 case round=>
  obtain⟨k,hk,rfl,hbw⟩:=hrel
  by_cases hlt:k<len
  ·obtain⟨hl1,_,hx1⟩:=h1
   obtain⟨hl2,_,hx2⟩:=h2
   obtain⟨g1,o1,rfl,hr1⟩:=hx1.resolve_left (by omega)
   obtain⟨g2,o2,rfl,hr2⟩:=hx2.resolve_left (by omega)
   obtain⟨x,hxk⟩:∃x,xs[k]? =some x:=⟨_,List.getElem?_eq_getElem (by omega)⟩
   have hg1:g1<w.heap.size:=hr1.lt (by omega)
   have hg2:g2<w.heap.size:=hr2.lt (by omega)
   have hltI:(k:Int)<(len:Int):=by omega
   obtain⟨c0,c1,c2,c3,c4,c5,c6⟩:=(hr1 k _ hxk).below hbw hg1
   obtain⟨d0,d1,d2,d3,d4,d5,d6⟩:=(hr2 k _ hxk).below hbw hg2
   clear hx1 hx2 hxk hr1 hr2
   go_wp2_with fail
   go_quiet (fail)
   go_wp2
   go_roundw
   case rel=>exact⟨k+1,by omega,by go_num,(eD)⟩
   case measure=>simp[intOf];omega
  ·go_wp2
   go_ret
   exact⟨rfl,hbw⟩
set_option maxRecDepth 20000 in
set_option maxHeartbeats 2000000 in
theorem frop_any(m:Int)(a1 a2:Option Addr)(len cap1 cap2:Nat)(xs:List aD)(w:World)(h1:cE w a1 len xs)(h2:cE w a2 len xs):Calls Tryz.prog 10 #[.agg #[.int .i64 m,.slice a1 len cap1],.agg #[.int .i64 m,.slice a2 len cap2]] w fun e w'=>e= .returned (.bool true)∧Below w.heap.size w w':=by
 have hm:=h1.2.1
 unfold maxLen at hm
 have hb0:Below w.heap.size w ((w.alloc (.cells #[.int .i64 m,.slice a1 len cap1] 27)).alloc (.cells #[.int .i64 m,.slice a2 len cap2] 27)):=ag (ay _ _) _
 replace h1:=h1.below hb0
 replace h2:=h2.below hb0
 have e1:((w.alloc (.cells #[.int .i64 m,.slice a1 len cap1] 27)).alloc (.cells #[.int .i64 m,.slice a2 len cap2] 27)).cell? ⟨w.heap.size,1,none⟩=some (.slice a1 len cap1):=by simp[go_sem]
 have e2:((w.alloc (.cells #[.int .i64 m,.slice a1 len cap1] 27)).alloc (.cells #[.int .i64 m,.slice a2 len cap2] 27)).cell? ⟨w.heap.size+1,1,none⟩=some (.slice a2 len cap2):=by simp[go_sem]
 have hzs:w.heap.size+1<((w.alloc (.cells #[.int .i64 m,.slice a1 len cap1] 27)).alloc (.cells #[.int .i64 m,.slice a2 len cap2] 27)).heap.size:=by simp
 go_enter Tryz.func10,Tryz.ntmps10
 go_wp2
 generalize ((w.alloc (.cells #[.int .i64 m,.slice a1 len cap1] 27)).alloc (.cells #[.int .i64 m,.slice a2 len cap2] 27))=ws at h1 h2 e1 e2 hb0 hzs ⊢
 go_loopw [5] (fun i wr=>∃k:Nat,k≤len∧i= .int .i64 k∧Below ws.heap.size ws wr) (fun i _=>len - (intOf i).toNat)
 case atStart=>exact⟨0,Nat.zero_le _,rfl,Below.refl _ _⟩
 case round=>
  obtain⟨k,hk,rfl,hbw⟩:=hrel
  have f1:=(hbw.cell (p:=⟨w.heap.size,1,none⟩) (by show w.heap.size<_;omega)).trans e1
  have f2:=(hbw.cell (p:=⟨w.heap.size+1,1,none⟩) (by show w.heap.size+1<_;omega)).trans e2
  have z9:=hbw.size
  have z8:w.heap.size+1<wr.heap.size:=by omega
  have z7:w.heap.size<wr.heap.size:=by omega
  by_cases hlt:k<len
  ·obtain⟨hl1,_,hx1⟩:=h1
   obtain⟨hl2,_,hx2⟩:=h2
   obtain⟨g1,o1,rfl,hr1⟩:=hx1.resolve_left (by omega)
   obtain⟨g2,o2,rfl,hr2⟩:=hx2.resolve_left (by omega)
   obtain⟨x,hxk⟩:∃x,xs[k]? =some x:=⟨_,List.getElem?_eq_getElem (by omega)⟩
   have hg1:g1<ws.heap.size:=hr1.lt (by omega)
   have hg2:g2<ws.heap.size:=hr2.lt (by omega)
   have hltI:(k:Int)<(len:Int):=by omega
   obtain⟨c0,c1,c2,c3,c4,c5,c6,c7,c8,c9,cV,c11,c12⟩:=(hr1 k _ hxk).below hbw hg1
   obtain⟨d0,d1,d2,d3,d4,d5,d6,d7,d8,d9,d10,d11,d12⟩:=(hr2 k _ hxk).below hbw hg2
   clear hx1 hx2 hxk hr1 hr2 e1 e2
   go_wp2_with fail
   go_quiet (fail)
   go_wp2
   go_roundw
   case rel=>exact⟨k+1,by omega,by go_num,(by repeat(first|(with_reducible exact Below.refl _ _)|(with_reducible assumption)|(with_reducible refine aq ?_)|(with_reducible refine bz ?_ _)))⟩
   case measure=>simp[intOf];omega
  ·go_wp2
   go_ret
   exact⟨rfl,ap hb0 hbw⟩
theorem kK(w:World):Calls Tryz.prog 19 #[] w fun e w'=>e= .returned (.bool true)∧Below w.heap.size w w':=by
 have ho:dW 0 1=true:=by decide
 go_enter Tryz.func19,Tryz.ntmps19
 go_wp2_with (go_at_call 44;refine(kP _ _ _).mono ?_;rintro e w' ⟨rfl,hb⟩)
 go_ret
 exact⟨by first|rfl|rw[ho],(eD)⟩
end Go.Proofs.YtdmhihcipkhecaaGreat
namespace Go.Proofs.YtdmhihcipkhecaaGreat
open Go.ChangeShapes Go.WideShapes Go.ChangeAt Go.RowKit Go.Shelf Go.Maps
set_option linter.unusedSimpArgs false
set_option maxRecDepth 100000 in
set_option maxHeartbeats 16000000 in
theorem lawOpLate(a:Option Addr)(len cap:Nat)(w:World)(hlc:len≤cap)(hmx:len≤maxLen)(hb:db w a len)(hl:∀g o,a=some ⟨g,o,none⟩→0<len→g<w.heap.size)(hn:a=none→cap=0):Calls Tryz.prog 5 #[.slice a len cap] w fun e' w'=>e'= .returned (.bool true)∧Below w.heap.size w w':=by
 unfold maxLen at hmx
 go_enter Tryz.func5,Tryz.ntmps5
 by_cases hm:len≤1048576
 rotate_left
 ·have hd:decide ((1048576:Int)<(len:Int))=true:=by simp;omega
  have hd2:decide (1048576<len)=true:=by simp;omega
  go_wp2_with fail
  go_ret
  exact⟨rfl,Below.refl _ _⟩
 ·have hd:decide ((1048576:Int)<(len:Int))=false:=by simp;omega
  have hd2:decide (1048576<len)=false:=by simp;omega
  go_wp2_with fail
  clear hd hd2
  refine(drawop_any a len cap _ hlc hm hb hl hn).mono ?_
  rintro e' w1 ⟨s,t,k,z,q,l,e,b,v,r,m,au,cu,xs,x1,x2,x3,x4,x5,rfl,hO,hxl,hmb,hb1⟩
  clear hb hl hn
  have hbw2:Below w1.heap.size w1 (((w1.alloc (.cells #[.int .i64 s,.int .i64 t,.int .i64 k,.int .i64 z,.int .i64 q,.int .i64 l,.int .i64 e,.bool b,.int .i64 v,.int .i64 r] 24)).alloc (.cells #[.int .i64 m,.slice au xs.length cu] 27)).alloc (.cells #[.int .i64 x1,.int .i64 x2,.int .i64 x3,.int .i64 x4,.int .i64 x5] 29)):=ag (ag (ay _ _) _) _
  have HB2:=ae (ap hb1 hbw2)
  have HBJ:=ae (show(((w1.alloc (.cells #[.int .i64 s,.int .i64 t,.int .i64 k,.int .i64 z,.int .i64 q,.int .i64 l,.int .i64 e,.bool b,.int .i64 v,.int .i64 r] 24)).alloc (.cells #[.int .i64 m,.slice au xs.length cu] 27)).alloc (.cells #[.int .i64 x1,.int .i64 x2,.int .i64 x3,.int .i64 x4,.int .i64 x5] 29)).heap[w1.heap.size]? =some (.cells #[.int .i64 s,.int .i64 t,.int .i64 k,.int .i64 z,.int .i64 q,.int .i64 l,.int .i64 e,.bool b,.int .i64 v,.int .i64 r] 24 (0,0))from aN<|aN<|(by have h9:=World.alloc_heap_new w1 (.cells #[.int .i64 s,.int .i64 t,.int .i64 k,.int .i64 z,.int .i64 q,.int .i64 l,.int .i64 e,.bool b,.int .i64 v,.int .i64 r] 24);exact h9))
  have HBS:=ae (show(((w1.alloc (.cells #[.int .i64 s,.int .i64 t,.int .i64 k,.int .i64 z,.int .i64 q,.int .i64 l,.int .i64 e,.bool b,.int .i64 v,.int .i64 r] 24)).alloc (.cells #[.int .i64 m,.slice au xs.length cu] 27)).alloc (.cells #[.int .i64 x1,.int .i64 x2,.int .i64 x3,.int .i64 x4,.int .i64 x5] 29)).heap[w1.heap.size+1]? =some (.cells #[.int .i64 m,.slice au xs.length cu] 27 (0,0))from aN<|nA)
  have HBX:=ae (show(((w1.alloc (.cells #[.int .i64 s,.int .i64 t,.int .i64 k,.int .i64 z,.int .i64 q,.int .i64 l,.int .i64 e,.bool b,.int .i64 v,.int .i64 r] 24)).alloc (.cells #[.int .i64 m,.slice au xs.length cu] 27)).alloc (.cells #[.int .i64 x1,.int .i64 x2,.int .i64 x3,.int .i64 x4,.int .i64 x5] 29)).heap[w1.heap.size+1+1]? =some (.cells #[.int .i64 x1,.int .i64 x2,.int .i64 x3,.int .i64 x4,.int .i64 x5] 29 (0,0))from nA)
  have HR0:Hid (cE (((w1.alloc (.cells #[.int .i64 s,.int .i64 t,.int .i64 k,.int .i64 z,.int .i64 q,.int .i64 l,.int .i64 e,.bool b,.int .i64 v,.int .i64 r] 24)).alloc (.cells #[.int .i64 m,.slice au xs.length cu] 27)).alloc (.cells #[.int .i64 x1,.int .i64 x2,.int .i64 x3,.int .i64 x4,.int .i64 x5] 29)) au xs.length xs):=ae (by
   obtain⟨a9,c9,e9,h1,h2,_⟩:=ez hO (by omega)
   simp at e9
   obtain⟨rfl,rfl⟩:=e9
   exact h1.below hbw2)
  obtain⟨M,R,P,L,hN0⟩:∃M R P L,dw s t k z q l e b v r m xs x1 x2 x3 x4 x5=(M,R,P,L):=⟨_,_,_,_,rfl⟩
  have hle:=tk_le s t k z q l e b v r m xs x1 x2 x3 x4 x5
  rw[hN0]at hle
  obtain⟨hlR,hlP,hlL⟩:=hle
  dsimp only at hlR hlP hlL
  have hN:=ae hN0
  clear hN0 hO hb1 hbw2
  go_upto_region 4 with fail
  have bJ:=ab HBJ
  have bS:=ab HBS
  have bX:=ab HBX
  clear HBJ HBS HBX
  generalize w1.heap.size+1+1=XX at bX ⊢
  generalize w1.heap.size+1=XS at bS ⊢
  generalize w1.heap.size=XJ at bJ ⊢
  generalize (((w1.alloc (.cells #[.int .i64 s,.int .i64 t,.int .i64 k,.int .i64 z,.int .i64 q,.int .i64 l,.int .i64 e,.bool b,.int .i64 v,.int .i64 r] 24)).alloc (.cells #[.int .i64 m,.slice au xs.length cu] 27)).alloc (.cells #[.int .i64 x1,.int .i64 x2,.int .i64 x3,.int .i64 x4,.int .i64 x5] 29))=w2 at HB2 bJ bS bX HR0 ⊢
  obtain⟨cj0,cj1,cj2,cj3,cj4,cj5,cj6,cj7,cj8,cj9⟩:=cV bJ
  obtain⟨cs0,cs1⟩:=c2 bS
  obtain⟨cx0,cx1,cx2,cx3,cx4⟩:=Go.Proofs.YtdmhihcipkhecaaGreat.c5 bX
  go_wp2_with fail
  refine(impltake_eq s t k z q l e b v r m au xs.length cu xs x1 x2 x3 x4 x5 _ (ab HR0) (by omega) hN).mono ?_
  rintro e' w3 ⟨a3,c3,pa3,pc3,la3,lc3,rfl,hO3,hP3,hL3,hb3⟩
  clear cj0 cj1 cj2 cj3 cj4 cj5 cj6 cj7 cj8 cj9 cs0 cs1 cx0 cx1 cx2 cx3 cx4
  replace bJ:=(hb3.block _ (Array.getElem?_eq_some_iff.1 bJ).1).trans bJ
  replace bS:=(hb3.block _ (Array.getElem?_eq_some_iff.1 bS).1).trans bS
  replace bX:=(hb3.block _ (Array.getElem?_eq_some_iff.1 bX).1).trans bX
  have HB3:Hid (Below w.heap.size w w3):=ae (ap (ab HB2) hb3)
  have HR3:=ae ((ab HR0).below hb3)
  have HO3:=ae hO3
  have HL3:=ae hL3
  clear HB2 HR0 hb3 hO3 hP3 hL3
  have HY:=ae (World.alloc_heap_new w3 (.cells #[.int .i64 M,.slice a3 R.length c3] 27))
  have hbY:=ae (ay w3 (.cells #[.int .i64 M,.slice a3 R.length c3] 27))
  go_upto_region 5 with fail
  have bY:=ab HY
  replace bJ:=((ab hbY).block _ (Array.getElem?_eq_some_iff.1 bJ).1).trans bJ
  replace bS:=((ab hbY).block _ (Array.getElem?_eq_some_iff.1 bS).1).trans bS
  replace bX:=((ab hbY).block _ (Array.getElem?_eq_some_iff.1 bX).1).trans bX
  have HB4:Hid (Below w.heap.size w (w3.alloc (.cells #[.int .i64 M,.slice a3 R.length c3] 27))):=ae (ap (ab HB3) (ab hbY))
  have HR4:=ae ((ab HR3).below (ab hbY))
  have HO4:Hid (aT (w3.alloc (.cells #[.int .i64 M,.slice a3 R.length c3] 27)) w2.heap.size (.slice a3 R.length c3) R):=ae (World.ownsRow.alloc (ab HO3) _)
  have HL4:Hid (ci (w3.alloc (.cells #[.int .i64 M,.slice a3 R.length c3] 27)) w2.heap.size (.slice la3 L.length lc3) L):=ae (World.ownsRow.alloc (ab HL3) _)
  clear HY hbY HB3 HR3 HO3 HL3
  generalize w3.heap.size=XY at bY ⊢
  generalize w3.alloc (.cells #[.int .i64 M,.slice a3 R.length c3] 27)=w4 at HB4 HR4 HO4 HL4 bJ bS bX bY ⊢
  obtain⟨cj0,cj1,cj2,cj3,cj4,cj5,cj6,cj7,cj8,cj9⟩:=cV bJ
  obtain⟨cs0,cs1⟩:=c2 bS
  obtain⟨cx0,cx1,cx2,cx3,cx4⟩:=Go.Proofs.YtdmhihcipkhecaaGreat.c5 bX
  go_wp2_with fail
  refine(spectake_eq s t k z q l e b v r m au xs.length cu xs x1 x2 x3 x4 x5 _ (ab HR4) (by omega) hN).mono ?_
  rintro e' w5 ⟨a5,c5,pa5,pc5,la5,lc5,rfl,hO5,hP5,hL5,hb5⟩
  clear cj0 cj1 cj2 cj3 cj4 cj5 cj6 cj7 cj8 cj9 cs0 cs1 cx0 cx1 cx2 cx3 cx4
  replace bJ:=(hb5.block _ (Array.getElem?_eq_some_iff.1 bJ).1).trans bJ
  replace bS:=(hb5.block _ (Array.getElem?_eq_some_iff.1 bS).1).trans bS
  replace bX:=(hb5.block _ (Array.getElem?_eq_some_iff.1 bX).1).trans bX
  replace bY:=(hb5.block _ (Array.getElem?_eq_some_iff.1 bY).1).trans bY
  have HB5:Hid (Below w.heap.size w w5):=ae (ap (ab HB4) hb5)
  have HR5:=ae ((ab HR4).below hb5)
  have HO5:Hid (aT w5 w2.heap.size (.slice a3 R.length c3) R):=ae (aO (ab HO4) (aC hb5) (fun _ e9=>by cases e9))
  have HL5:Hid (ci w5 w2.heap.size (.slice la3 L.length lc3) L):=ae (aO (ab HL4) (aC hb5) (fun _ e9=>by cases e9))
  have HP5:=ae hO5
  have HQ5:=ae hL5
  clear HB4 HR4 HO4 HL4 hb5 hO5 hP5 hL5
  have HZ:=ae (World.alloc_heap_new w5 (.cells #[.int .i64 M,.slice a5 R.length c5] 27))
  have hbZ:=ae (ay w5 (.cells #[.int .i64 M,.slice a5 R.length c5] 27))
  go_upto_region 6 with fail
  have bZ:=ab HZ
  replace bJ:=((ab hbZ).block _ (Array.getElem?_eq_some_iff.1 bJ).1).trans bJ
  replace bS:=((ab hbZ).block _ (Array.getElem?_eq_some_iff.1 bS).1).trans bS
  replace bX:=((ab hbZ).block _ (Array.getElem?_eq_some_iff.1 bX).1).trans bX
  replace bY:=((ab hbZ).block _ (Array.getElem?_eq_some_iff.1 bY).1).trans bY
  have HB6:Hid (Below w.heap.size w (w5.alloc (.cells #[.int .i64 M,.slice a5 R.length c5] 27))):=ae (ap (ab HB5) (ab hbZ))
  have HR6:=ae ((ab HR5).below (ab hbZ))
  have HO6:Hid (cE (w5.alloc (.cells #[.int .i64 M,.slice a5 R.length c5] 27)) a3 R.length R∧cE (w5.alloc (.cells #[.int .i64 M,.slice a5 R.length c5] 27)) a5 R.length R∧iZ (w5.alloc (.cells #[.int .i64 M,.slice a5 R.length c5] 27)) la3 L.length L∧iZ (w5.alloc (.cells #[.int .i64 M,.slice a5 R.length c5] 27)) la5 L.length L):=ae (by
   have o1:=ez (World.ownsRow.alloc (ab HO5) (.cells #[.int .i64 M,.slice a5 R.length c5] 27):aT _ _ _ R) hlR
   have o2:=ez (World.ownsRow.alloc (ab HP5) (.cells #[.int .i64 M,.slice a5 R.length c5] 27):aT _ _ _ R) hlR
   have o3:=mp (World.ownsRow.alloc (ab HL5) (.cells #[.int .i64 M,.slice a5 R.length c5] 27):ci _ _ _ L) hlL
   have o4:=mp (World.ownsRow.alloc (ab HQ5) (.cells #[.int .i64 M,.slice a5 R.length c5] 27):ci _ _ _ L) hlL
   obtain⟨u1,v1,e1,h1,_⟩:=o1
   obtain⟨u2,v2,e2,h2,_⟩:=o2
   obtain⟨u3,v3,e3,h3,_⟩:=o3
   obtain⟨u4,v4,e4,h4,_⟩:=o4
   simp at e1 e2 e3 e4
   obtain⟨rfl,rfl⟩:=e1
   obtain⟨rfl,rfl⟩:=e2
   obtain⟨rfl,rfl⟩:=e3
   obtain⟨rfl,rfl⟩:=e4
   exact⟨h1,h2,h3,h4⟩)
  clear HZ hbZ HB5 HR5 HO5 HL5 HP5 HQ5
  generalize w5.heap.size=XZ at bZ ⊢
  generalize w5.alloc (.cells #[.int .i64 M,.slice a5 R.length c5] 27)=w6 at HB6 HR6 HO6 bJ bS bX bY bZ ⊢
  obtain⟨cy0,cy1⟩:=c2 bY
  obtain⟨cz0,cz1⟩:=c2 bZ
  go_wp2_with fail
  refine(frop_any M a3 a5 R.length c3 c5 R _ (ab HO6).1 (ab HO6).2.1).mono ?_
  rintro e' w7 ⟨rfl,hb7⟩
  clear cy0 cy1 cz0 cz1 bY bZ
  replace bJ:=(hb7.block _ (Array.getElem?_eq_some_iff.1 bJ).1).trans bJ
  replace bS:=(hb7.block _ (Array.getElem?_eq_some_iff.1 bS).1).trans bS
  replace bX:=(hb7.block _ (Array.getElem?_eq_some_iff.1 bX).1).trans bX
  have HB7:Hid (Below w.heap.size w w7):=ae (ap (ab HB6) hb7)
  have HR7:=ae ((ab HR6).below hb7)
  have HL7:=ae (And.intro ((ab HO6).2.2.1.below hb7) ((ab HO6).2.2.2.below hb7))
  clear HB6 HR6 HO6 hb7
  go_wp2_with fail
  refine(frlates_any la3 la5 L.length lc3 lc5 L _ (ab HL7).1 (ab HL7).2).mono ?_
  rintro e' w8 ⟨rfl,hb8⟩
  replace bJ:=(hb8.block _ (Array.getElem?_eq_some_iff.1 bJ).1).trans bJ
  replace bS:=(hb8.block _ (Array.getElem?_eq_some_iff.1 bS).1).trans bS
  replace bX:=(hb8.block _ (Array.getElem?_eq_some_iff.1 bX).1).trans bX
  have HB8:Hid (Below w.heap.size w w8):=ae (ap (ab HB7) hb8)
  have HR8:=ae ((ab HR7).below hb8)
  clear HB7 HR7 HL7 hb8
  obtain⟨cj0,cj1,cj2,cj3,cj4,cj5,cj6,cj7,cj8,cj9⟩:=cV bJ
  obtain⟨cs0,cs1⟩:=c2 bS
  obtain⟨cx0,cx1,cx2,cx3,cx4⟩:=Go.Proofs.YtdmhihcipkhecaaGreat.c5 bX
  obtain⟨ob,hob⟩:∃ob,cX s t k z q l e v r m xs=ob:=⟨_,rfl⟩
  have HOB:=ae hob
  clear hob
  go_wp2_with fail
  refine(gC s t k z q l e b v r m au xs.length cu xs _ (ab HR8) HOB).mono ?_
  rintro e' w9 ⟨rfl,hb9⟩
  clear cj0 cj1 cj2 cj3 cj4 cj5 cj6 cj7 cj8 cj9 cs0 cs1 cx0 cx1 cx2 cx3 cx4
  replace bJ:=(hb9.block _ (Array.getElem?_eq_some_iff.1 bJ).1).trans bJ
  replace bS:=(hb9.block _ (Array.getElem?_eq_some_iff.1 bS).1).trans bS
  replace bX:=(hb9.block _ (Array.getElem?_eq_some_iff.1 bX).1).trans bX
  have HB9:Hid (Below w.heap.size w w9):=ae (ap (ab HB8) hb9)
  clear HB8 HR8 hb9
  obtain⟨cj0,cj1,cj2,cj3,cj4,cj5,cj6,cj7,cj8,cj9⟩:=cV bJ
  obtain⟨cs0,cs1⟩:=c2 bS
  obtain⟨cx0,cx1,cx2,cx3,cx4⟩:=Go.Proofs.YtdmhihcipkhecaaGreat.c5 bX
  cases ob with
  |false=>
   go_wp2_with fail
   refine(kK _).mono ?_
   rintro e' w10 ⟨rfl,hb10⟩
   go_wp2_with fail
   go_ret
   exact⟨rfl,ap (ab HB9) hb10⟩
  |true=>
   obtain⟨hx3,hll,hmb2,hokx,hrs⟩:=ix (ab HOB)
   have hw:IntKind.i64.wrap (m - l)=m - l:=IntWalk.i64_in _ ⟨by omega,by omega⟩
   clear hokx hrs
   by_cases hlt:x2<m - l
   ·have hd:decide (x2<m - l)=true:=decide_eq_true hlt
    go_wp2_with fail
    refine(kK _).mono ?_
    rintro e' w10 ⟨rfl,hb10⟩
    go_wp2_with fail
    go_ret
    exact⟨rfl,ap (ab HB9) hb10⟩
   ·have hd:decide (x2<m - l)=false:=decide_eq_false hlt
    have hL0:L.length=0:=late_none (ab HOB) hlt (ab hN)
    go_wp2_with fail
    refine(kK _).mono ?_
    rintro e' w10 ⟨rfl,hb10⟩
    go_wp2_with fail
    go_ret
    exact⟨rfl,ap (ab HB9) hb10⟩
end Go.Proofs.YtdmhihcipkhecaaGreat
