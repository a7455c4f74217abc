/- Laid together: what the claim needs of the texts that were built one by one. -/
import Derived.Test.YtdmhihcipkhecaaGreatR28
import Derived.Test.YtdmhihcipkhecaaGreatR15
import Derived.Test.YtdmhihcipkhecaaGreatR11
import Derived.DefersIn
import Derived.Test.YtdmhihcipkhecaaGreatR0
import Derived.Test.YtdmhihcipkhecaaGreatR23
import Derived.Test.YtdmhihcipkhecaaGreatR14
import Derived.Test.YtdmhihcipkhecaaGreatR1
import Derived.BigQuiet
set_option linter.unusedVariables false
namespace Go.Proofs.YtdmhihcipkhecaaGreat
open Go.ChangeShapes Go.WideShapes Go.ChangeAt Go.RowKit Go.Shelf Go.Maps
set_option linter.unusedSimpArgs false
attribute [local go_sem] Oper.semAt_some
def InvO(T:Int)(xs:List aD):Prop:=dU xs∧∀x ∈ xs,(0≤x.en∧x.en≤1000)∧(-1000≤x.st∧x.st≤1000)∧(-1000≤x.ky∧x.ky≤1000)∧0≤x.td∧x.td≤T
theorem spn_bd1:∀(old:List aD) (st en:Int),-1000≤st∧st≤1000→(∀x ∈ old,-1000≤x.st∧x.st≤1000)→ -1000≤(ew st en old).1∧(ew st en old).1≤1000
 | [],_,_,h,_=>h
 |x :: old,st,en,h,hx=>by
  have h1:=hx x (by simp)
  exact spn_bd1 old (fp st x.st) (fo en x.en) (by unfold fp;split<;>omega) (fun y hy=>hx y (List.mem_cons_of_mem _ hy))
theorem met_mem{ses:Bool}{ky st en:Int}{xs:List aD}{x:aD}(h:x ∈ gG ses ky st en xs):x ∈ xs:=by
 unfold gG at h
 split at h
 ·exact(List.mem_filter.1 h).1
 ·cases hf:fH (ky,st,en) xs with
  |none=>rw[hf]at h;cases h
  |some y=>
   rw[hf]at h
   simp only[Option.toList,List.mem_singleton]at h
   subst h
   exact(fx hf).2
theorem put_inv{T:Int}{xs:List aD}{r:aD}(h:InvO T xs)(hr:(0≤r.en∧r.en≤1000)∧(-1000≤r.st∧r.st≤1000)∧(-1000≤r.ky∧r.ky≤1000)∧0≤r.td∧r.td≤T):InvO T (cn r xs):=by
 refine⟨iw h.1,fun x hx=>?_⟩
 rcases fP.1 hx with rfl|⟨hx,_⟩
 ·exact hr
 ·exact h.2 x hx
theorem im_inv{ses:Bool}{l m ky v T:Int}{xs:List aD}{ps:List cY}{lw:List dr}{w:dr}(h:InvO T xs)(hT:0≤T)(hk: -1000≤ky∧ky≤1000)(ha: -1000≤w.a∧w.a≤1000)(hb:0≤w.b∧w.b≤1000):InvO T (bH ses l m ky v (xs,ps,lw) w).1∧(bH ses l m ky v (xs,ps,lw) w).1.length≤xs.length+1∧(bH ses l m ky v (xs,ps,lw) w).2.1.length≤ps.length+(if ses=true then xs.length else 0)∧(bH ses l m ky v (xs,ps,lw) w).2.2.length≤lw.length+1:=by
 have h2:=spn_bd (gG ses ky w.a w.b xs) w.a w.b hb (fun x hx=>(h.2 x (met_mem hx)).1)
 have h1:=spn_bd1 (gG ses ky w.a w.b xs) w.a w.b ha (fun x hx=>(h.2 x (met_mem hx)).2.1)
 refine⟨?_,?_,?_,?_⟩
 ·unfold bH
  dsimp only
  split
  ·exact h
  ·split
   ·refine put_inv h ?_
    unfold dA
    cases hf:fH (ky,(ew w.a w.b (gG ses ky w.a w.b xs)).1,(ew w.a w.b (gG ses ky w.a w.b xs)).2) xs with
    |none=>exact⟨h2,h1,hk,Int.le_refl _,hT⟩
    |some y=>exact h.2 y (fx hf).2
   ·exact put_inv (xs:=xs.filter _) ⟨h.1.sublist List.filter_sublist,fun x hx=>h.2 x (List.mem_filter.1 hx).1⟩ ⟨h2,h1,hk,Int.le_refl _,hT⟩
 ·unfold bH
  dsimp only
  split
  ·simp
  ·split
   ·exact jv _ _
   ·exact Nat.le_trans (jv _ _) (Nat.succ_le_succ (List.length_filter_le _ _))
 ·cases ses with
  |false=>
   rw[jx]
   split<;>simp
  |true=>
   unfold bH
   dsimp only
   split
   ·simp
   ·split
    ·simp
    ·rw[List.length_append,if_pos rfl]
     have h3:=gY (gG true ky w.a w.b xs)
     have h4:(gG true ky w.a w.b xs).length≤xs.length:=by unfold gG;rw[if_pos rfl];exact List.length_filter_le _ _
     omega
 ·unfold bH
  dsimp only
  split
  ·simp
  ·split<;>simp
theorem slide_a{z p t:Int}(hp:0≤p):∀(n:Nat) (s:Int),0≤s→∀x ∈ bB z p t n s,0≤x.a∧x.a≤t∧x.b=x.a+z
 |0,_,_,x,hx=>by cases hx
 |n+1,s,hs,x,hx=>by
  have ih:=slide_a (z:=z) (t:=t) hp n (s+p) (by omega)
  unfold bB at hx
  split at hx
  ·rename_i h1
   split at hx
   ·rcases List.mem_cons.1 hx with rfl|hx
    ·exact⟨hs,h1,rfl⟩
    ·exact ih x hx
   ·exact ih x hx
  ·cases hx
theorem wins_a{s t k z p l e v r T:Int}(hj:aV s t k z p l e v r=true)(hT:0≤T∧T≤60):∀x ∈ aW k z p T,0≤x.a∧x.a≤T∧x.b=x.a+z:=by
 obtain⟨hk,hz,hp⟩:=cB hj
 unfold aW
 split
 ·intro x hx
  simp only[List.mem_singleton]at hx
  subst hx
  have h1:=Int.emod_nonneg T (show z≠0 by omega)
  have h3:0≤z*(T / z):=Int.mul_nonneg (by omega) (Int.ediv_nonneg hT.1 (by omega))
  have h4:T % z+z*(T / z)=T:=by first|exact Int.emod_add_ediv T z|exact Int.emod_add_mul_ediv T z
  exact⟨by show 0≤T - T % z;omega,by show T - T % z≤T;omega,rfl⟩
 ·split
  ·intro x hx
   simp only[List.mem_singleton]at hx
   subst hx
   exact⟨hT.1,Int.le_refl _,rfl⟩
  ·refine slide_a ?_ 61 0 (by omega)
   unfold fD at hp
   split at hp
   ·simp only[Bool.and_eq_true]at hp
    have:=bz.1 hp.1
    omega
   ·simp at hp
    omega
theorem wins_one{k z q T:Int}(hk:k=3):(aW k z q T).length≤1:=by
 unfold aW
 rw[if_neg (by omega),if_pos hk]
 simp
theorem gn.own{W W':World}{B size n:Nat}{e:TypeId}{v:Value}{ys:List Value}(h:W.ownsRow B e size v n ys)(hk:gn W W')(he:kG e=false):W'.ownsRow B e size v n ys:=by
 rcases h with⟨hl,h|⟨q,cap,cur,rfl,hB,hblk,r⟩⟩
 ·exact⟨hl,Or.inl h⟩
 ·exact⟨hl,Or.inr ⟨q,cap,cur,rfl,hB,hk.2 q _ hblk (.inr ⟨_,_,he,rfl⟩),r⟩⟩
theorem gEs_rows(m:Int)(es:List bs):aI (gu m es)=(aI es).map (gTx m):=by
 unfold aI gu
 rw[List.map_map,List.map_map]
 rfl
theorem gEs_pans(m:Int)(pc:Bool)(es:List bs):(es.filter (fun e=>bQ m e.2)).map (fun e=>dz pc e.2)=((aI es).filter (bQ m)).map (dz pc):=by
 unfold aI
 rw[List.filter_map,List.map_map]
 rfl
set_option maxRecDepth 100000 in
set_option maxHeartbeats 8000000 in
theorem take_any(Bo B mb nn:Nat)(s t k z q l e:Int)(b:Bool)(v r m:Int)(pv lv:Value)(es:List bs)(x1 x2 x3 x4 x5:Int)(w:World)(hO:w.heap[Bo]? =some (.cells #[.int .i64 s,.int .i64 t,.int .i64 k,.int .i64 z,.int .i64 q,.int .i64 l,.int .i64 e,.bool b,.int .i64 v,.int .i64 r,.int .i64 m,.map (some (mb)),pv,lv] 75 (0,0)))(hBo:B≤Bo)(hBw:B≤w.heap.size)(hmb:B≤mb)(hR:bu w B mb nn es)(hP:aQ w B pv [])(hL:cC w B lv [])(hj:aV s t k z q l e v r=true)(hT:0≤x2∧x2≤60)(hx3: -1000≤x3∧x3≤1000)(hI0:InvO 1500 (aI es))(hnn:nn≤800)(hesl:es.length≤300)(hen:es.length≤nn):Calls Tryz.prog 30 #[.pointer (some ⟨Bo,0,none⟩),.agg #[.int .i64 x1,.int .i64 x2,.int .i64 x3,.int .i64 x4,.int .i64 x5]] w fun e' w'=>e'= .returned (.tuple #[])∧∃pv' lv' es',w'.heap[Bo]? =some (.cells #[.int .i64 s,.int .i64 t,.int .i64 k,.int .i64 z,.int .i64 q,.int .i64 l,.int .i64 e,.bool b,.int .i64 v,.int .i64 r,.int .i64 m,.map (some (mb)),pv',lv'] 75 (0,0))∧bu w' B mb (nn+61) es'∧aQ w' B pv' (gaF b m (eD (decide (k=3)) l m x3 x4 (aI es) (aW k z q x2))).2.1∧cC w' B lv' ((gaF b m (eD (decide (k=3)) l m x3 x4 (aI es) (aW k z q x2))).2.2.map (fd x1 x2 x3 x4 x5))∧aI es'=(gaF b m (eD (decide (k=3)) l m x3 x4 (aI es) (aW k z q x2))).1∧cP es'∧(∀e ∈ es',fe (aT e.2))∧es'.length≤nn+61∧(gaF b m (eD (decide (k=3)) l m x3 x4 (aI es) (aW k z q x2))).2.1.length≤2000∧(gaF b m (eD (decide (k=3)) l m x3 x4 (aI es) (aW k z q x2))).2.2.length≤61∧Below B w w':=by
 have zBo:Bo<w.heap.size:=(Array.getElem?_eq_some_iff.1 hO).1
 have hl:=gh hj
 have hwf:∀a:Int,-1000≤a→a≤1000→(Lit.int .i64 a).wf=true:=fun a h1 h2=>WalkArith.wf_i64 (show _ from⟨by omega,by omega⟩)
 have HWa:=ae (wins_a hj hT)
 have HWb:=ae (wins_bd hj hT)
 have hz20:=(cB hj).2.1
 obtain⟨ws,hws⟩:∃ws,aW k z q x2=ws:=⟨_,rfl⟩
 have hwl:ws.length≤61:=by rw[←hws];exact jL k z q x2
 have HW1:Hid (decide (k=3)=true→ws.length≤1):=ae (fun h9=>by rw[←hws];exact wins_one (by simpa using h9))
 rw[hws]at HWa HWb
 have HIM:Hid (eD (decide (k=3)) l m x3 x4 (aI es) (aW k z q x2)=ws.foldl (bH (decide (k=3)) l m x3 x4) (aI es,[],[])):=ae (by unfold eD;rw[hws])
 have HC:Hid (∀W:World,Calls Tryz.prog 21 #[.agg #[.int .i64 s,.int .i64 t,.int .i64 k,.int .i64 z,.int .i64 q,.int .i64 l,.int .i64 e,.bool b,.int .i64 v,.int .i64 r],.int .i64 x2] W fun e' w'=>∃v',e'= .returned v'∧df w' W.heap.size v' ws∧Below W.heap.size W w'):=ae (fun W=>by
  have h9:=gy s t k z q l e b v r x2 W
  rw[gL hj (bz.2 hT),hws]at h9
  exact h9)
 obtain⟨nw,hnw⟩:∃nw,ws.length=nw:=⟨_,rfl⟩
 rw[hnw]at hwl
 have HNw:=ae hnw
 have HIV:=ae hI0
 clear hws hnw hI0
 refine(callsIn_wide (n:=26)).1 ?_
 refine callsIn_of_wp_defers Tryz.func30 rfl trivial ?_ rfl
 simp only[Tryz.ntmps30,List.size_toArray,List.length_cons,List.length_nil,Nat.reduceAdd,Nat.reduceSub,Array.replicate_succ,Array.replicate_zero,List.push_toArray,List.append_toArray,List.nil_append,List.cons_append]
 gi_wp2
 refine bU (ox) (ox) (fun L a' W'=>∃V:Nat→Value,a'=({tmps:=#[.pointer (some ⟨Bo,0,none⟩),.agg #[.int .i64 x1,.int .i64 x2,.int .i64 x3,.int .i64 x4,.int .i64 x5],undef,.pointer (some ⟨w.heap.size,0,none⟩),undef,undef,.pointer (some ⟨Bo,0,none⟩),V 0,V 1,V 2,V 3,V 4,V 5,V 6,V 7,V 8,undef,undef,undef,undef,undef,undef,undef,undef],defers:=[{target:=Target.fn (Fn.func 59) #[],args:=#[.pointer (some ⟨Bo,0,none⟩)]}]}:Act)∧((L 0=true→V 0= .pointer (some ⟨Bo,0,none⟩))∧(L 1=true→V 1= .pointer (some ⟨Bo,0,none⟩))∧(L 2=true→V 2= .pointer (some ⟨Bo,0,none⟩))∧(L 3=true→V 3= .agg #[.int .i64 s,.int .i64 t,.int .i64 k,.int .i64 z,.int .i64 q,.int .i64 l,.int .i64 e,.bool b,.int .i64 v,.int .i64 r])∧(L 4=true→V 4= .pointer (some ⟨w.heap.size,1,none⟩))∧(L 5=true→V 5= .int .i64 x2)∧(L 7=true→V 7= .int .i64 nw)∧(L 8=true→V 8= .int .i64 0))∧(L 6=true→Hid (∃aw cw,V 6= .slice aw nw cw∧df W' B (.slice aw nw cw) ws))∧Below w.heap.size w W'∧W'.heap[w.heap.size]? =some (.cells #[.int .i64 x1,.int .i64 x2,.int .i64 x3,.int .i64 x4,.int .i64 x5] 29 (0,0))∧w.heap.size<W'.heap.size) ?_ ?_ ?_
 ·exact⟨fun _=>undef,rfl,⟨(fun h9=>(by cases h9)),(fun h9=>(by cases h9)),(fun h9=>(by cases h9)),(fun h9=>(by cases h9)),(fun h9=>(by cases h9)),(fun h9=>(by cases h9)),(fun h9=>(by cases h9)),(fun h9=>(by cases h9))⟩,(fun h9=>(by cases h9)),ap (ax _ _),World.alloc_heap_new w _,by simp⟩
 ·refine⟨?_,?_,?_,?_,?_,?_,?_,?_,?_,trivial⟩
  ·intro L a' W' hI hLj hE K' hK
   obtain⟨V,rfl,⟨mD,mE,mY,mZ,na,nc,ng,nh⟩,hT6,hbW,bIW,hzW⟩:=hI
   go_simp
   exact hK.out _ _ ⟨fun m9=>if m9=0 then .pointer (some ⟨Bo,0,none⟩)else V m9,rfl,⟨fun _=>rfl,mO mE,mO mY,mO mZ,mO na,mO nc,mO ng,mO nh⟩,mO hT6,hbW,bIW,hzW⟩
  ·intro L a' W' hI hLj hE K' hK
   obtain⟨V,rfl,⟨mD,mE,mY,mZ,na,nc,ng,nh⟩,hT6,hbW,bIW,hzW⟩:=hI
   have lY:=mD (hE ⟨0,.data⟩ (by simp) rfl)
   rw[lY]
   go_simp
   exact hK.out _ _ ⟨fun m9=>if m9=1 then .pointer (some ⟨Bo,0,none⟩)else V m9,(by simp[Act.put,lY]),⟨mO mD,fun _=>rfl,mO mY,mO mZ,mO na,mO nc,mO ng,mO nh⟩,mO hT6,hbW,bIW,hzW⟩
  ·intro L a' W' hI hLj hE K' hK
   obtain⟨V,rfl,⟨mD,mE,mY,mZ,na,nc,ng,nh⟩,hT6,hbW,bIW,hzW⟩:=hI
   have lZ:=mE (hE ⟨1,.data⟩ (by simp) rfl)
   rw[lZ]
   go_simp
   exact hK.out _ _ ⟨fun m9=>if m9=2 then .pointer (some ⟨Bo,0,none⟩)else V m9,(by simp[Act.put,lZ]),⟨mO mD,mO mE,fun _=>rfl,mO mZ,mO na,mO nc,mO ng,mO nh⟩,mO hT6,hbW,bIW,hzW⟩
  ·intro L a' W' hI hLj hE K' hK
   obtain⟨V,rfl,⟨mD,mE,mY,mZ,na,nc,ng,nh⟩,hT6,hbW,bIW,hzW⟩:=hI
   have ml:=mY (hE ⟨2,.data⟩ (by simp) rfl)
   have bOW:=(hbW.block Bo zBo).trans hO
   have k0:W'.cell? ⟨Bo,0,none⟩=some (.int .i64 s):=cA bOW 0
   have k1:W'.cell? ⟨Bo,1,none⟩=some (.int .i64 t):=cA bOW 1
   have k2:W'.cell? ⟨Bo,2,none⟩=some (.int .i64 k):=cA bOW 2
   have k3:W'.cell? ⟨Bo,3,none⟩=some (.int .i64 z):=cA bOW 3
   have k4:W'.cell? ⟨Bo,4,none⟩=some (.int .i64 q):=cA bOW 4
   have k5:W'.cell? ⟨Bo,5,none⟩=some (.int .i64 l):=cA bOW 5
   have k6:W'.cell? ⟨Bo,6,none⟩=some (.int .i64 e):=cA bOW 6
   have k7:W'.cell? ⟨Bo,7,none⟩=some (.bool b):=cA bOW 7
   have k8:W'.cell? ⟨Bo,8,none⟩=some (.int .i64 v):=cA bOW 8
   have k9:W'.cell? ⟨Bo,9,none⟩=some (.int .i64 r):=cA bOW 9
   rw[ml]
   go_simp
   exact hK.out _ _ ⟨fun m9=>if m9=3 then .agg #[.int .i64 s,.int .i64 t,.int .i64 k,.int .i64 z,.int .i64 q,.int .i64 l,.int .i64 e,.bool b,.int .i64 v,.int .i64 r]else V m9,(by simp[Act.put,ml]),⟨mO mD,mO mE,mO mY,fun _=>rfl,mO na,mO nc,mO ng,mO nh⟩,mO hT6,hbW,bIW,hzW⟩
  ·intro L a' W' hI hLj hE K' hK
   obtain⟨V,rfl,⟨mD,mE,mY,mZ,na,nc,ng,nh⟩,hT6,hbW,bIW,hzW⟩:=hI
   go_simp
   exact hK.out _ _ ⟨fun m9=>if m9=4 then .pointer (some ⟨w.heap.size,1,none⟩)else V m9,rfl,⟨mO mD,mO mE,mO mY,mO mZ,fun _=>rfl,mO nc,mO ng,mO nh⟩,mO hT6,hbW,bIW,hzW⟩
  ·intro L a' W' hI hLj hE K' hK
   obtain⟨V,rfl,⟨mD,mE,mY,mZ,na,nc,ng,nh⟩,hT6,hbW,bIW,hzW⟩:=hI
   have mp:=na (hE ⟨4,.data⟩ (by simp) rfl)
   have k1:W'.cell? ⟨w.heap.size,1,none⟩=some (.int .i64 x2):=cA bIW 1
   rw[mp]
   go_simp
   exact hK.out _ _ ⟨fun m9=>if m9=5 then .int .i64 x2 else V m9,(by simp[Act.put,mp]),⟨mO mD,mO mE,mO mY,mO mZ,mO na,fun _=>rfl,mO ng,mO nh⟩,mO hT6,hbW,bIW,hzW⟩
  ·intro L a' W' hI hLj hE K' hK
   obtain⟨V,rfl,⟨mD,mE,mY,mZ,na,nc,ng,nh⟩,hT6,hbW,bIW,hzW⟩:=hI
   have mn:=mZ (hE ⟨3,.data⟩ (by simp) rfl)
   have mq:=nc (hE ⟨5,.data⟩ (by simp) rfl)
   rw[mn]
   rw[mq]
   go_simp
   (first|(gi_at_call 21)|(refine⟨trivial,?_⟩;gi_at_call 21)|(refine⟨trivial,fun _=>(by omega),?_⟩;gi_at_call 21))
   refine(callsIn_wide.2 (ab HC W')).mono ?_
   rintro e9 Wt ⟨vt,rfl,hOt,hbt⟩
   (try gi_wp2_with fail)
   obtain⟨aw,cw,hvt⟩:=dt hOt
   rw[ab HNw]at hvt
   subst hvt
   exact hK.out _ _ ⟨fun m9=>if m9=6 then .slice aw nw cw else V m9,(by simp[Act.put,mn,mq]),⟨mO mD,mO mE,mO mY,mO mZ,mO na,mO nc,mO ng,mO nh⟩,fun _=>ae ⟨aw,cw,rfl,World.ownsRow.mono hOt (by have:=hbW.size;omega)⟩,am hbW hbt,(hbt.block _ hzW).trans bIW,by have:=hbt.size;omega⟩
  ·intro L a' W' hI hLj hE K' hK
   obtain⟨V,rfl,⟨mD,mE,mY,mZ,na,nc,ng,nh⟩,hT6,hbW,bIW,hzW⟩:=hI
   obtain⟨aw,cw,mr,hOt⟩:=ab (hT6 (hE ⟨6,.data⟩ (by simp) rfl))
   rw[mr]
   go_simp
   exact hK.out _ _ ⟨fun m9=>if m9=7 then .int .i64 nw else V m9,(by simp[mr]),⟨mO mD,mO mE,mO mY,mO mZ,mO na,mO nc,fun _=>rfl,mO nh⟩,mO hT6,hbW,bIW,hzW⟩
  ·intro L a' W' hI hLj hE K' hK
   obtain⟨V,rfl,⟨mD,mE,mY,mZ,na,nc,ng,nh⟩,hT6,hbW,bIW,hzW⟩:=hI
   go_simp
   exact hK.out _ _ ⟨fun m9=>if m9=8 then .int .i64 0 else V m9,rfl,⟨mO mD,mO mE,mO mY,mO mZ,mO na,mO nc,mO ng,fun _=>rfl⟩,mO hT6,hbW,bIW,hzW⟩
 intro L a' W' hI hall
 obtain⟨V,rfl,⟨mD,mE,mY,mZ,na,nc,ng,nh⟩,hT6,hbW,bIW,hzW⟩:=hI
 have lY:=mD (hall 0 (by decide))
 have lZ:=mE (hall 1 (by decide))
 have ml:=mY (hall 2 (by decide))
 have mn:=mZ (hall 3 (by decide))
 have mp:=na (hall 4 (by decide))
 have mq:=nc (hall 5 (by decide))
 have mt:=ng (hall 7 (by decide))
 have mu:=nh (hall 8 (by decide))
 obtain⟨aw,cw,mr,hOw⟩:=ab (hT6 (hall 6 (by decide)))
 rw[lY,lZ,ml,mn,mp,mq,mr,mt,mu]
 clear lY lZ ml mn mp mq mr mt mu mD mE mY mZ na nc ng nh hall hT6
 have HOw:=ae hOw
 have HBw:=ae (hbW.mono hBw)
 have HO1:Hid (W'.heap[Bo]? =some (.cells #[.int .i64 s,.int .i64 t,.int .i64 k,.int .i64 z,.int .i64 q,.int .i64 l,.int .i64 e,.bool b,.int .i64 v,.int .i64 r,.int .i64 m,.map (some (mb)),pv,lv] 75 (0,0))):=ae ((hbW.block Bo zBo).trans hO)
 have HR1:=ae (hR.bel hbW)
 have HP1:Hid (aQ W' B pv []):=ae (aK hP (aB hbW) (fun _ e9=>by cases e9))
 have HL1:Hid (cC W' B lv []):=ae (aK hL (aB hbW) (fun _ e9=>by cases e9))
 have HI1:=ae bIW
 clear hOw hbW bIW hO hR hP hL
 gi_wp2
 gi_loopw [15] (fun iv wr=>∃(i2:Nat) (pv' lv':Value) (es':List bs) (ps:List cY) (lw:List dr),i2≤nw∧iv= .int .i64 i2∧Hid ((ws.take i2).foldl (bH (decide (k=3)) l m x3 x4) (aI es,[],[])=(aI es',ps,lw))∧Hid (InvO 1500 (aI es'))∧Hid (es'.length≤es.length+i2)∧Hid (ps.length≤(if decide (k=3)=true then 400*i2 else 0))∧Hid (lw.length≤i2)∧Hid (wr.heap[Bo]? =some (.cells #[.int .i64 s,.int .i64 t,.int .i64 k,.int .i64 z,.int .i64 q,.int .i64 l,.int .i64 e,.bool b,.int .i64 v,.int .i64 r,.int .i64 m,.map (some (mb)),pv',lv'] 75 (0,0)))∧Hid (bu wr B mb (nn+i2) es')∧Hid (aQ wr B pv' ps)∧Hid (cC wr B lv' (lw.map (fd x1 x2 x3 x4 x5)))∧Hid (df wr B (.slice aw nw cw) ws)∧Hid (wr.heap[w.heap.size]? =some (.cells #[.int .i64 x1,.int .i64 x2,.int .i64 x3,.int .i64 x4,.int .i64 x5] 29 (0,0)))∧Hid (Below B w wr)∧w.heap.size<wr.heap.size) (fun iv _=>nw - (intOf iv).toNat)
 case atStart=>
  exact⟨0,pv,lv,es,[],[],Nat.zero_le _,rfl,ae rfl,HIV,ae (Nat.le_refl _),ae (Nat.zero_le _),ae (Nat.zero_le _),HO1,HR1,HP1,HL1,HOw,HI1,HBw,hzW⟩
 case round=>
  clear HO1 HR1 HP1 HL1 HOw HI1 HBw hzW
  obtain⟨i2,pv',lv',es',ps,lw,hi2,rfl,HFo,HIn,HEl,HPl,HLl,HO,HR,HP,HL,HW,HI,HB,hzr⟩:=hrel
  have HPs:Hid (ps.length≤400):=ae (by
   have h9:=ab HPl
   by_cases hk3:decide (k=3)=true
   ·have h8:=ab HW1 hk3
    rw[ab HNw]at h8
    rw[if_pos hk3]at h9
    omega
   ·rw[if_neg hk3]at h9
    omega)
  have hel:=ab HEl
  have HRi:Hid (cP es'):=ae (iG.2 (ab HIn).1)
  have HOk:Hid (∀e ∈ es',fe (aT e.2)):=ae (fun e9 he9=>by
   have h9:=(ab HIn).2 e9.2 (List.mem_map.2 ⟨e9,he9,rfl⟩)
   exact⟨hwf _ h9.2.2.1.1 h9.2.2.1.2,hwf _ h9.2.1.1 h9.2.1.2,hwf _ (by have:=h9.1.1;simp[aT];omega) h9.1.2⟩)
  by_cases hlt:i2<nw
  ·have hWR:=jc (ab HW) (by rw[ab HNw];omega)
   obtain⟨_,_,hy⟩:=hWR
   obtain⟨gw,ow,rfl,hr⟩:=hy.resolve_left (by omega)
   obtain⟨x,hxk⟩:∃x,ws[i2]? =some x:=⟨_,List.getElem?_eq_getElem (by rw[ab HNw];omega)⟩
   have hrow:=hr i2 x hxk
   have hxa:=ab HWa x (List.mem_of_getElem? hxk)
   have hxb:=ab HWb x (List.mem_of_getElem? hxk)
   have HXK:=ae hxk
   obtain⟨xa,xb⟩:=x
   dsimp only at hxa hxb
   have hxlt:xa<xb:=by omega
   have hxa2: -1000≤xa∧xa≤1000:=by omega
   clear hr hy hxk hxa
   obtain⟨d0,d1⟩:=hrow
   have hgw:gw<wr.heap.size:=(dF.lt ⟨d0,d1⟩)
   dsimp only at d0 d1
   have bI:=ab HI
   obtain⟨ic0,ic1,ic2,ic3,ic4⟩:=c5 bI
   have zI:w.heap.size<wr.heap.size:=by omega
   have hbx:Below wr.heap.size wr (wr.alloc (.cells #[.int .i64 xa,.int .i64 xb] 48)):=ax _ _
   have hBx:Below B w (wr.alloc (.cells #[.int .i64 xa,.int .i64 xb] 48)):=(ab HB).trans (hbx.mono (by have:=(ab HB).size;omega))
   have HC2:=ae (takein_any Bo B mb (nn+i2) s t k z q l e b v r m pv' lv' ps lw es' x1 x2 x3 x4 x5 xa xb (wr.alloc (.cells #[.int .i64 xa,.int .i64 xb] 48)) ((hbx.block Bo (Array.getElem?_eq_some_iff.1 (ab HO)).1).trans (ab HO)) hBo (by have:=(ab HB).size;simp;omega) hmb ((ab HR).bel hbx) (aK (ab HP) (aB hbx) (fun _ e9=>by cases e9)) (aK (ab HL) (aB hbx) (fun _ e9=>by cases e9)) hl (ab HRi) (ab HOk) (fun e9 he9=>((ab HIn).2 e9.2 (List.mem_map.2 ⟨e9,he9,rfl⟩)).1) (hwf x3 hx3.1 hx3.2) hwf (fun e9 he9=>((ab HIn).2 e9.2 (List.mem_map.2 ⟨e9,he9,rfl⟩)).2.1) hxa2 hxb hxlt (by omega) (by omega) (by have:=ab HPs;omega) (by have:=ab HLl;omega))
   gi_wp2_with (refine⟨trivial,?_⟩;gi_at_call 60;refine(callsIn_wide.2 (ab HC2)).mono ?_;rintro e9 w6 ⟨rfl,pv2,lv2,es2,bO2,hR2,hP2,hL2,hq2,hB2,hK2⟩)
   have HF2:Hid ((ws.take (i2+1)).foldl (bH (decide (k=3)) l m x3 x4) (aI es,[],[])=bH (decide (k=3)) l m x3 x4 (aI es',ps,lw) ⟨xa,xb⟩):=ae (by rw[List.take_add_one,ab HXK,Option.toList,List.foldl_append,ab HFo];rfl)
   have hinv:=im_inv (ses:=decide (k=3)) (l:=l) (m:=m) (ky:=x3) (v:=x4) (ps:=ps) (lw:=lw) (w:=⟨xa,xb⟩) (ab HIn) (by omega) hx3 hxa2 hxb
   obtain⟨⟨ys3,ps3,lw3⟩,h3⟩:∃r9,bH (decide (k=3)) l m x3 x4 (aI es',ps,lw) ⟨xa,xb⟩=r9:=⟨_,rfl⟩
   rw[h3]at hP2 hL2 hq2 hinv HF2
   dsimp only at hP2 hL2 hq2 hinv
   subst hq2
   have hel2:es2.length≤es'.length+1:=by have h9:=hinv.2.1;unfold aI at h9;rw[List.length_map,List.length_map]at h9;exact h9
   refine⟨⟨i2+1,pv2,lv2,es2,ps3,lw3,by omega,by go_num,HF2,ae hinv.1,ae (by omega),ae ?_,ae (by have:=hinv.2.2.2;have:=ab HLl;omega),ae bO2,ae hR2,ae hP2,ae hL2,ae (ii.own (aK (ab HW) (aB hbx) (fun _ e9=>by cases e9)) hK2 (by decide)),ae (hK2.2 _ _ _ (by decide) ((hbx.block _ zI).trans (ab HI))),ae (hBx.trans hB2),by have:=hK2.1;simp at this;omega⟩,by simp[intOf];omega⟩
   have h9:=hinv.2.2.1
   have h8:=ab HPl
   have h7:(aI es').length≤361:=by unfold aI;rw[List.length_map];omega
   split
   ·rename_i hk3
    rw[if_pos hk3]at h9 h8
    omega
   ·rename_i hk3
    rw[if_neg hk3]at h9 h8
    omega
  ·obtain rfl:i2=nw:=by omega
   rw[List.take_of_length_le (by rw[ab HNw];exact Nat.le_refl _),←ab HIM]at HFo
   gi_wp2
   refine leavesIn_cons (f:=59) (args:=#[.pointer (some ⟨Bo,0,none⟩)]) (by simp) (fun _=>by omega) (om) (fun _ _=>trivial) ?_
   refine(jP .returning Bo B mb (nn+i2) s t k z q l e b v r m pv' lv' ps es' wr (ab HO) hBo (by have:=(ab HB).size;omega) (ab HR) (ab HP) (ab HRi) (ab HOk) (fun e9 he9=>by have h9:=((ab HIn).2 e9.2 (List.mem_map.2 ⟨e9,he9,rfl⟩)).2.2.2;exact⟨h9.1,by omega⟩) (by omega) (by have:=ab HPs;omega) (by omega)).mono ?_
   rintro e9 u9 w2 ⟨rfl,rfl,pv2,bO2,hR2,hP2,hB2,hK2⟩
   have hfl:((aI es').filter (bQ m)).length≤400:=Nat.le_trans (List.length_filter_le _ _) (by unfold aI;rw[List.length_map];omega)
   refine⟨.tuple #[],results_none rfl _ _ _,rfl,pv2,lv',gu m es',bO2,hR2.more (by omega),?_,?_,?_,?_,?_,?_,?_,?_,(ab HB).trans hB2⟩
   ·rw[ab HFo]
    rw[gEs_pans]at hP2
    exact hP2
   ·rw[ab HFo]
    exact hK2.own (ab HL) (by decide)
   ·rw[ab HFo,gEs_rows]
    rfl
   ·rw[iG,gEs_rows]
    exact List.pairwise_map.2 ((ab HIn).1.imp (fun{a c} hac=>by rw[jr,jr];exact hac))
   ·intro e8 he8
    unfold gu at he8
    obtain⟨e7,he7,rfl⟩:=List.mem_map.1 he8
    have h9:=ab HOk e7 he7
    have e6:aT (if bQ m e7.2=true then cy e7.2 else e7.2)=aT e7.2:=by split<;>rfl
    show fe (aT (if bQ m e7.2=true then cy e7.2 else e7.2))
    rw[e6]
    exact h9
   ·unfold gu
    rw[List.length_map]
    omega
   ·rw[ab HFo]
    unfold gaF
    dsimp only
    rw[List.length_append,List.length_map]
    have:=ab HPs
    omega
   ·rw[ab HFo]
    have:=ab HLl
    show lw.length≤61
    omega
end Go.Proofs.YtdmhihcipkhecaaGreat
namespace Go.Proofs.YtdmhihcipkhecaaGreat
open Go.ChangeShapes Go.WideShapes Go.ChangeAt Go.RowKit
theorem end_rows{s t k z q l e v r m:Int}{xs:List aD}(hok:b6 s t k z q l e v r m xs=true):bj l 1000 xs=[]:=by
 obtain⟨_,hl,_,hx,_⟩:=dS hok
 unfold bj
 rw[List.filter_eq_nil_iff]
 intro y hy
 obtain⟨x,hx2,rfl⟩:=List.mem_map.1 hy
 have h1:=cK (hx x hx2)
 rw[(mkRow_en 1000 x).1]
 simp
 omega
theorem end_none{s t k z q l e v r m:Int}{xs:List aD}(hok:b6 s t k z q l e v r m xs=true)(hm:¬ m<1000):xs=[]:=by
 obtain⟨_,hl,_,hx,_⟩:=dS hok
 cases xs with
 |nil=>rfl
 |cons x xs=>
  have h1:=cK (hx x (by simp))
  omega
theorem end_mark{s t k z q l e:Int}{b:Bool}{v r m:Int}{xs:List aD}(hok:b6 s t k z q l e v r m xs=true):bM s t k z q l e b v r m xs 1000=(1000,[],br b 1000 xs):=by
 by_cases hm:m<1000
 ·rw[mark_new hok (by decide) hm,end_rows hok]
 ·have h1:=(dS hok).2.2.1
  rw[mark_old hok (by decide) hm]
  have h2:=end_none hok hm
  subst h2
  have:m=1000:=by omega
  rw[this]
  rfl
theorem end_tel{s t k z q l e v r m:Int}{xs:List aD}(hok:b6 s t k z q l e v r m xs=true){x:aD}(hx:x ∈ xs):dV 1000 x= !x.tm:=by
 have h1:=cK ((dS hok).2.2.2.1 x hx)
 unfold dV
 have h2:decide (x.en≤1000)=true:=decide_eq_true (by omega)
 rw[h2,Bool.and_true]
theorem end_op{s t k z q l e v r m:Int}{xs:List aD}(hok:b6 s t k z q l e v r m xs=true):b6 s t k z q l e v r 1000 []=true:=by
 have h1:=ga hok
 unfold b6
 rw[h1]
 rfl
theorem end_st(ses pc:Bool)(l ky v:Int)(w:dr)(ps:List cY)(ls:List dr)(hw:w.b+l≤1000):cH ses pc l 1000 ky v ([],ps,ls) w=([],ps,ls++[w]):=by
 unfold cH
 cases ses
 ·simp only[ie,if_pos hw]
  simp
 ·have h2:(ew w.a w.b ([]:List aD)).2+l≤1000:=hw
  have h3:seF pc l 1000 [] ky v w.a w.b=([],[],false):=by unfold seF;exact if_pos h2
  simp[h3]
theorem end_fold(ses pc:Bool)(l ky v:Int):∀(ws:List dr) (ps:List cY) (ls:List dr),(∀w ∈ ws,w.b+l≤1000)→ws.foldl (cH ses pc l 1000 ky v) ([],ps,ls)=([],ps,ls++ws)
 | [],ps,ls,_=>by simp
 |w :: ws,ps,ls,h=>by
  rw[List.foldl_cons,end_st ses pc l ky v w ps ls (h w (by simp)),end_fold ses pc l ky v ws ps (ls++[w]) (fun y hy=>h y (by simp[hy]))]
  simp
/-- Whatever comes behind the end is too late in each of its windows. -/
theorem end_take{s t k z q l e:Int}{b:Bool}{v r m:Int}{xs:List aD}{x1 x2 x3 x4 x5:Int}(hok:b6 s t k z q l e v r m xs=true)(hr:dx x1 x2 x3 x4 x5=true)(hT:0≤x2∧x2≤60):dq s t k z q l e b v r 1000 [] x1 x2 x3 x4 x5=(1000,[],[],(aW k z q x2).map (fd x1 x2 x3 x4 x5)):=by
 have hj:=ga hok
 have hl:=gh hj
 have hz:=(cB hj).2.1
 have hb:fY s t k z q l e v r 1000 [] x1 x2 x3 x4 x5=true:=by
  unfold fY
  rw[end_op hok,hr]
  rfl
 have hw:∀w ∈ aW k z q x2,w.b+l≤1000:=fun w h=>by
  have:=wins_a hj hT w h
  omega
 unfold dq
 rw[if_pos hb]
 unfold db
 rw[end_fold _ _ _ _ _ _ _ _ hw]
 simp
end Go.Proofs.YtdmhihcipkhecaaGreat
namespace Go.Proofs.YtdmhihcipkhecaaGreat
open Go.ChangeShapes Go.WideShapes Go.ChangeAt Go.RowKit Go.Shelf Go.Maps
set_option linter.unusedSimpArgs false
set_option maxRecDepth 100000 in
set_option maxHeartbeats 8000000 in
theorem lX(s t k z q l e:Int)(b:Bool)(v r m:Int)(a:Option Addr)(len cap:Nat)(xs:List aD)(x1 x2 x3 x4 x5:Int)(w:World)(h:bV w a len xs):Calls Tryz.prog 8 #[.agg #[.int .i64 s,.int .i64 t,.int .i64 k,.int .i64 z,.int .i64 q,.int .i64 l,.int .i64 e,.bool b,.int .i64 v,.int .i64 r],.agg #[.int .i64 m,.slice a len cap],.agg #[.int .i64 x1,.int .i64 x2,.int .i64 x3,.int .i64 x4,.int .i64 x5]] w fun e' w'=>∃v1 v2 v3,e'= .returned (.tuple #[.agg #[.int .i64 (dq s t k z q l e b v r m xs x1 x2 x3 x4 x5).1,v1],v2,v3])∧aR w' w.heap.size v1 (dq s t k z q l e b v r m xs x1 x2 x3 x4 x5).2.1∧aQ w' w.heap.size v2 (dq s t k z q l e b v r m xs x1 x2 x3 x4 x5).2.2.1∧cC w' w.heap.size v3 (dq s t k z q l e b v r m xs x1 x2 x3 x4 x5).2.2.2∧Below w.heap.size w w':=by
 have hxl:=h.1
 have hbE:Below w.heap.size w ((((w.alloc (.cells #[.int .i64 s,.int .i64 t,.int .i64 k,.int .i64 z,.int .i64 q,.int .i64 l,.int .i64 e,.bool b,.int .i64 v,.int .i64 r] 24)).alloc (.cells #[.int .i64 m,.slice a len cap] 27)).alloc (.cells #[.int .i64 x1,.int .i64 x2,.int .i64 x3,.int .i64 x4,.int .i64 x5] 29)).alloc (.cells #[.int .i64 0,.slice none 0 0] 27)):=ag (ag (ag (ax _ _) _) _) _
 have HE:=ae (h.below hbE)
 have eJ:((((w.alloc (.cells #[.int .i64 s,.int .i64 t,.int .i64 k,.int .i64 z,.int .i64 q,.int .i64 l,.int .i64 e,.bool b,.int .i64 v,.int .i64 r] 24)).alloc (.cells #[.int .i64 m,.slice a len cap] 27)).alloc (.cells #[.int .i64 x1,.int .i64 x2,.int .i64 x3,.int .i64 x4,.int .i64 x5] 29)).alloc (.cells #[.int .i64 0,.slice none 0 0] 27)).heap[w.heap.size]? =some (.cells #[.int .i64 s,.int .i64 t,.int .i64 k,.int .i64 z,.int .i64 q,.int .i64 l,.int .i64 e,.bool b,.int .i64 v,.int .i64 r] 24 (0,0)):=aN<|aN<|aN<|nA
 have eS:((((w.alloc (.cells #[.int .i64 s,.int .i64 t,.int .i64 k,.int .i64 z,.int .i64 q,.int .i64 l,.int .i64 e,.bool b,.int .i64 v,.int .i64 r] 24)).alloc (.cells #[.int .i64 m,.slice a len cap] 27)).alloc (.cells #[.int .i64 x1,.int .i64 x2,.int .i64 x3,.int .i64 x4,.int .i64 x5] 29)).alloc (.cells #[.int .i64 0,.slice none 0 0] 27)).heap[w.heap.size+1]? =some (.cells #[.int .i64 m,.slice a len cap] 27 (0,0)):=aN<|aN<|nA
 have eI:((((w.alloc (.cells #[.int .i64 s,.int .i64 t,.int .i64 k,.int .i64 z,.int .i64 q,.int .i64 l,.int .i64 e,.bool b,.int .i64 v,.int .i64 r] 24)).alloc (.cells #[.int .i64 m,.slice a len cap] 27)).alloc (.cells #[.int .i64 x1,.int .i64 x2,.int .i64 x3,.int .i64 x4,.int .i64 x5] 29)).alloc (.cells #[.int .i64 0,.slice none 0 0] 27)).heap[w.heap.size+1+1]? =some (.cells #[.int .i64 x1,.int .i64 x2,.int .i64 x3,.int .i64 x4,.int .i64 x5] 29 (0,0)):=aN<|nA
 have eR:((((w.alloc (.cells #[.int .i64 s,.int .i64 t,.int .i64 k,.int .i64 z,.int .i64 q,.int .i64 l,.int .i64 e,.bool b,.int .i64 v,.int .i64 r] 24)).alloc (.cells #[.int .i64 m,.slice a len cap] 27)).alloc (.cells #[.int .i64 x1,.int .i64 x2,.int .i64 x3,.int .i64 x4,.int .i64 x5] 29)).alloc (.cells #[.int .i64 0,.slice none 0 0] 27)).heap[w.heap.size+1+1+1]? =some (.cells #[.int .i64 0,.slice none 0 0] 27 (0,0)):=nA
 obtain⟨ob,hob⟩:∃ob,b6 s t k z q l e v r m xs=ob:=⟨_,rfl⟩
 have HOB:=ae hob
 clear hob
 go_enter Tryz.func8,Tryz.ntmps8
 go_wp2_with fail
 refine(iV s t k z q l e b v r m _ _ _ xs _ (ab HE) HOB).mono ?_
 rintro e' w1 ⟨rfl,hb1⟩
 have bJ:=(hb1.block (w.heap.size) (sA)).trans eJ
 have bS:=(hb1.block (w.heap.size+1) (sA)).trans eS
 have bI:=(hb1.block (w.heap.size+1+1) (sA)).trans eI
 have bR:=(hb1.block (w.heap.size+1+1+1) (sA)).trans eR
 have hbw:Below w.heap.size w w1:=am hbE hb1
 have hz1:w.heap.size+4≤w1.heap.size:=by have:=hb1.size;simp at this;omega
 clear eJ eS eI eR HE hbE hb1
 have hnone:fY s t k z q l e v r m xs x1 x2 x3 x4 x5=false→∀(W:World) (v2 v3:Value),aQ W w.heap.size v2 []→cC W w.heap.size v3 []→Below w.heap.size w W→∃v1 v4 v5,(Ending.returned (.tuple #[.agg #[.int .i64 0,.slice none 0 0],v2,v3]))= .returned (.tuple #[.agg #[.int .i64 (dq s t k z q l e b v r m xs x1 x2 x3 x4 x5).1,v1],v4,v5])∧aR W w.heap.size v1 (dq s t k z q l e b v r m xs x1 x2 x3 x4 x5).2.1∧aQ W w.heap.size v4 (dq s t k z q l e b v r m xs x1 x2 x3 x4 x5).2.2.1∧cC W w.heap.size v5 (dq s t k z q l e b v r m xs x1 x2 x3 x4 x5).2.2.2∧Below w.heap.size w W:=by
  intro h9 W v2 v3 h2 h3 hW
  rw[lN h9]
  exact⟨_,_,_,rfl,World.ownsRow_nil _ _ _ _,h2,h3,hW⟩
 have zw0:w.heap.size<w1.heap.size:=by omega
 have zw1:w.heap.size+1<w1.heap.size:=by omega
 have zw2:w.heap.size+1+1<w1.heap.size:=by omega
 have zw3:w.heap.size+1+1+1<w1.heap.size:=by omega
 obtain⟨j0,j1,j2,j3,j4,j5,j6,j7,j8,j9⟩:=cT bJ
 obtain⟨ss0,ss1⟩:=c2 bS
 obtain⟨ic0,ic1,ic2,ic3,ic4⟩:=Go.Proofs.YtdmhihcipkhecaaGreat.c5 bI
 obtain⟨rr0,rr1⟩:=c2 bR
 obtain⟨rrf0,rrf1⟩:=f2 bR
 cases ob with
 |false=>
  have hno:=ae (hnone (by unfold fY;rw[ab HOB];rfl))
  have hO4:Hid (Below w.heap.size w ((w1.setCell ⟨w.heap.size+1+1+1,0,none⟩ (.int .i64 0)).setCell ⟨w.heap.size+1+1+1,1,none⟩ (.slice none 0 0))):=ae (aq (aq hbw (sA) _) (sA) _)
  clear hnone bJ bS bI bR
  go_wp2
  refine bodyPost_ret (v:= .tuple #[.agg #[.int .i64 0,.slice none 0 0],.slice none 0 0,.slice none 0 0]) (nN) rfl ?_
  exact ab hno _ _ _ (World.ownsRow_nil _ _ _ _) (World.ownsRow_nil _ _ _ _) (ab hO4)
 |true=>
  obtain⟨io,hio⟩:∃io,dx x1 x2 x3 x4 x5=io:=⟨_,rfl⟩
  have HIR:=ae hio
  have HCI:=isrec_any x1 x2 x3 x4 x5 w1
  rw[hio]at HCI
  have HCI2:=ae HCI
  clear hio HCI
  go_wp2_with fail
  refine(ab HCI2).mono ?_
  rintro e' w2 ⟨rfl,hb2⟩
  clear j0 j1 j2 j3 j4 j5 j6 j7 j8 j9 ss0 ss1 ic0 ic1 ic2 ic3 ic4 rr0 rr1 rrf0 rrf1 HCI2 zw0 zw1 zw2 zw3
  replace bJ:=(hb2.block (w.heap.size) (by omega)).trans bJ
  replace bS:=(hb2.block (w.heap.size+1) (by omega)).trans bS
  replace bI:=(hb2.block (w.heap.size+1+1) (by omega)).trans bI
  replace bR:=(hb2.block (w.heap.size+1+1+1) (by omega)).trans bR
  replace hbw:Below w.heap.size w w2:=am hbw hb2
  have zzw2:=hb2.size
  clear hb2
  have zw0:w.heap.size<w2.heap.size:=by omega
  have zw1:w.heap.size+1<w2.heap.size:=by omega
  have zw2:w.heap.size+1+1<w2.heap.size:=by omega
  have zw3:w.heap.size+1+1+1<w2.heap.size:=by omega
  obtain⟨j0,j1,j2,j3,j4,j5,j6,j7,j8,j9⟩:=cT bJ
  obtain⟨ss0,ss1⟩:=c2 bS
  obtain⟨ic0,ic1,ic2,ic3,ic4⟩:=Go.Proofs.YtdmhihcipkhecaaGreat.c5 bI
  obtain⟨rr0,rr1⟩:=c2 bR
  obtain⟨rrf0,rrf1⟩:=f2 bR
  cases io with
  |false=>
   have hno:=ae (hnone (by unfold fY;rw[ab HOB,ab HIR];rfl))
   have hO4:Hid (Below w.heap.size w ((w2.setCell ⟨w.heap.size+1+1+1,0,none⟩ (.int .i64 0)).setCell ⟨w.heap.size+1+1+1,1,none⟩ (.slice none 0 0))):=ae (aq (aq hbw (sA) _) (sA) _)
   clear hnone bJ bS bI bR
   go_wp2
   refine bodyPost_ret (v:= .tuple #[.agg #[.int .i64 0,.slice none 0 0],.slice none 0 0,.slice none 0 0]) (nN) rfl ?_
   exact ab hno _ _ _ (World.ownsRow_nil _ _ _ _) (World.ownsRow_nil _ _ _ _) (ab hO4)
  |true=>
   by_cases hn:len≤280
   ·have kd:decide ((280:Int)<(len:Int))=false:=by simp;omega
    have kd2:decide (280<len)=false:=by simp;omega
    obtain⟨hx3,hl,hmb,hokx,hrs⟩:=dS (ab HOB)
    have hj:=ga (ab HOB)
    obtain⟨hT,hx33⟩:=jN (ab HIR)
    have HTF:Hid (dq s t k z q l e b v r m xs x1 x2 x3 x4 x5=(m,(db (decide (k=3)) b l m x3 x4 xs (aW k z q x2)).1,(db (decide (k=3)) b l m x3 x4 xs (aW k z q x2)).2.1,(db (decide (k=3)) b l m x3 x4 xs (aW k z q x2)).2.2.map (fd x1 x2 x3 x4 x5))):=ae (by unfold dq;rw[takB_of (ab HOB) (ab HIR) (by omega)];rfl)
    have HSame:Hid (db (decide (k=3)) b l m x3 x4 xs (aW k z q x2)=gaF b m (eD (decide (k=3)) l m x3 x4 xs (aW k z q x2))):=ae (take_same hrs hokx (by omega) (fun h9=>wins_one (by simpa using h9)) (wins_pw hj))
    rw[ab HSame]at HTF
    have HInv:Hid (InvO 1500 xs):=ae ⟨hrs,fun x hx=>by have h1:=(cK (hokx x hx)).2.1;have h2:=(cK (hokx x hx)).2.2.2.1;have h3:=(cK (hokx x hx)).1;omega⟩
    have HOk3:Hid (∀x ∈ xs,fe (aT x)):=ae (fun x hx=>lp (hokx x hx))
    have HRs:=ae hrs
    clear hnone hokx hrs
    have HX:=ae (h.below hbw)
    go_wp2_with fail
    refine(jo s t k z q l e b v r m _ _ _ xs _ (ab HX) (by omega) (ab HOk3) (ab HRs)).mono ?_
    rintro e' w3 ⟨es,rfl,hE,hR3,bO3,hb3⟩
    clear j0 j1 j2 j3 j4 j5 j6 j7 j8 j9 ss0 ss1 ic0 ic1 ic2 ic3 ic4 rr0 rr1 rrf0 rrf1 kd kd2 zw0 zw1 zw2 zw3
    have hbs3:=hb3.size
    replace bJ:=(hb3.block (w.heap.size) (by omega)).trans bJ
    replace bS:=(hb3.block (w.heap.size+1) (by omega)).trans bS
    replace bI:=(hb3.block (w.heap.size+1+1) (by omega)).trans bI
    replace bR:=(hb3.block (w.heap.size+1+1+1) (by omega)).trans bR
    replace hbw:Below w.heap.size w w3:=am hbw hb3
    have zzw3:=hb3.size
    clear hb3
    have hE2:aI es=xs:=hE
    have hel:es.length=len:=by have h9:=congrArg List.length hE;rw[List.length_map]at h9;omega
    obtain⟨Bo,hBo⟩:∃Bo,w2.heap.size+1+1+1=Bo:=⟨_,rfl⟩
    obtain⟨mb,hmbe⟩:∃mb,w2.heap.size+1+1=mb:=⟨_,rfl⟩
    rw[hBo,hmbe]at bO3
    rw[hmbe]at hR3
    rw[hBo]
    have hBB:w2.heap.size≤Bo:=by omega
    have hBm:w2.heap.size≤mb:=by omega
    have HTk:=ae (take_any Bo w2.heap.size mb len s t k z q l e b v r m (.slice none 0 0) (.slice none 0 0) es x1 x2 x3 x4 x5 w3 bO3 hBB zzw3 hBm hR3 (World.ownsRow_nil _ _ _ _) (World.ownsRow_nil _ _ _ _) hj hT ⟨by omega,by omega⟩ (by rw[hE2];exact ab HInv) (by omega) (by omega) (by omega))
    rw[hE2]at HTk
    clear hBo hmbe hE hE2 bO3 hR3 HX
    obtain⟨ic0,ic1,ic2,ic3,ic4⟩:=Go.Proofs.YtdmhihcipkhecaaGreat.c5 bI
    go_wp2_with fail
    refine(ab HTk).mono ?_
    rintro e' w4 ⟨rfl,pv4,lv4,es4,bO4,hR4,hP4,hL4,hq4,hri4,hok4,hl4,hpl4,hll4,hb4⟩
    clear ic0 ic1 ic2 ic3 ic4 HTk
    have zz4:=hb4.size
    have bR4:=(hb4.block (w.heap.size+1+1+1) (by omega)).trans bR
    have hbw4:Below w.heap.size w w4:=hbw.trans (hb4.mono (by omega))
    obtain⟨⟨ys,ps,lw⟩,hF⟩:∃r9,gaF b m (eD (decide (k=3)) l m x3 x4 xs (aW k z q x2))=r9:=⟨_,rfl⟩
    rw[hF]at hP4 hL4 hq4 hpl4 hll4 HTF
    dsimp only at hP4 hL4 hq4 hpl4 hll4
    have HSt:=ae (kK Bo w2.heap.size mb (len+61) s t k z q l e b v r m pv4 lv4 es4 w4.drew bO4 (hR4.bel (ap (Below.refl _ _))) hri4 hok4 (by omega))
    have HP4:=ae hP4
    have HL4:=ae hL4
    have Hq4:=ae hq4
    clear bJ bS bI bR hP4 hL4 hq4 hR4 hri4 hok4 hF hbw hb4
    go_wp2_with fail
    refine wp_region_held_drew (S:=(fun W=>W.heap[Bo]? =some (.cells #[.int .i64 s,.int .i64 t,.int .i64 k,.int .i64 z,.int .i64 q,.int .i64 l,.int .i64 e,.bool b,.int .i64 v,.int .i64 r,.int .i64 m,.map (some (mb)),pv4,lv4] 75 (0,0)))) (ox) ?_ (fun hHeld=>?_)
    ·((try dsimp only);exact bO4)
    refine kV 0 ?_
    refine kV 2 ?_
    refine kV 3 ?_
    refine kV 4 ?_
    refine kT 5 ?_ ?_ ?_
    rotate_left
    ·(intro w9 hSw;(try dsimp only at hSw);have q0:=hSw;have ax0:=cA q0 0;have ax1:=cA q0 1;have ax2:=cA q0 2;have ax3:=cA q0 3;have ax4:=cA q0 4;have ax5:=cA q0 5;have ax6:=cA q0 6;have ax7:=cA q0 7;have ax8:=cA q0 8;have ax9:=cA q0 9;have ax10:=cA q0 10;simp only[gA,gZ,gS]at ax0 ax1 ax2 ax3 ax4 ax5 ax6 ax7 ax8 ax9 ax10;have ax11:w9.cell? ⟨Bo,11,none⟩=some (.map (some (mb))):=(by simp[World.cell?,q0,go_sem]);have ax12:=cA q0 12;have ax13:=cA q0 13;simp only[gA,gZ,gS]at ax12 ax13;go_simp<;>with_reducible rfl)
    try simp only[Act.put,tA,tZ,tS]
    refine kV 6 ?_
    refine kV 7 ?_
    refine kV 8 ?_
    refine kT 9 ?_ ?_ ?_
    rotate_left
    ·(intro w9 hSw;(try dsimp only at hSw);have q0:=hSw;have ax0:=cA q0 0;have ax1:=cA q0 1;have ax2:=cA q0 2;have ax3:=cA q0 3;have ax4:=cA q0 4;have ax5:=cA q0 5;have ax6:=cA q0 6;have ax7:=cA q0 7;have ax8:=cA q0 8;have ax9:=cA q0 9;have ax10:=cA q0 10;simp only[gA,gZ,gS]at ax0 ax1 ax2 ax3 ax4 ax5 ax6 ax7 ax8 ax9 ax10;have ax11:w9.cell? ⟨Bo,11,none⟩=some (.map (some (mb))):=(by simp[World.cell?,q0,go_sem]);have ax12:=cA q0 12;have ax13:=cA q0 13;simp only[gA,gZ,gS]at ax12 ax13;go_simp<;>with_reducible rfl)
    try simp only[Act.put,tA,tZ,tS]
    refine rD 1 (fun K hK=>?_)
    go_simp
    (go_at_call 31;refine(ab HSt).mono ?_;rintro e9 w5 ⟨a5,c5,rfl,hO5,hb5⟩)
    (try go_wp2_with fail)
    replace hb5:Below w4.heap.size w4 w5:=am (ap (Below.refl _ _)) hb5
    have zz5:=hb5.size
    replace bO4:=(hb5.block Bo (Array.getElem?_eq_some_iff.1 bO4).1).trans bO4
    replace bR4:=(hb5.block (w.heap.size+1+1+1) (Array.getElem?_eq_some_iff.1 bR4).1).trans bR4
    replace hbw4:Below w.heap.size w w5:=am hbw4 hb5
    have HO5:Hid (aR w5 w.heap.size (.slice a5 es4.length c5) ys):=ae (by rw[←ab Hq4];exact World.ownsRow.mono hO5 (show w.heap.size≤w4.heap.size by omega))
    have HP5:=ae (World.ownsRow.mono (aK (ab HP4) (aB hb5) (fun _ e9=>by cases e9)) (show w.heap.size≤w2.heap.size by omega))
    have HL5:=ae (World.ownsRow.mono (aK (ab HL4) (aB hb5) (fun _ e9=>by cases e9)) (show w.heap.size≤w2.heap.size by omega))
    have hneB:Bo≠w.heap.size+1+1+1:=by omega
    clear hO5 hb5
    clear hHeld
    refine hK.out _ _ ?_ (fun hHeld=>?_)
    ·((try dsimp only);exact bO4)
    clear hK K
    try simp only[Act.put,tA,tZ,tS]
    refine rD 10 (fun K hK=>?_)
    obtain⟨rr0,rr1⟩:=c2 bR4
    obtain⟨rrf0,rrf1⟩:=f2 bR4
    have zr5:w.heap.size+1+1+1<w5.heap.size:=by omega
    go_simp
    clear rr0 rr1 rrf0 rrf1
    have mO:((w5.setCell ⟨w.heap.size+1+1+1,0,none⟩ (.int .i64 m)).setCell ⟨w.heap.size+1+1+1,1,none⟩ (.slice a5 es4.length c5)).heap[Bo]? =some (.cells #[.int .i64 s,.int .i64 t,.int .i64 k,.int .i64 z,.int .i64 q,.int .i64 l,.int .i64 e,.bool b,.int .i64 v,.int .i64 r,.int .i64 m,.map (some (mb)),pv4,lv4] 75 (0,0)):=(Below.heap_setCell _ _ _ _ hneB).trans ((Below.heap_setCell _ _ _ _ hneB).trans bO4)
    have mR:((w5.setCell ⟨w.heap.size+1+1+1,0,none⟩ (.int .i64 m)).setCell ⟨w.heap.size+1+1+1,1,none⟩ (.slice a5 es4.length c5)).heap[w.heap.size+1+1+1]? =some (.cells #[.int .i64 m,(.slice a5 es4.length c5)] 27 (0,0)):=Joins.block_setCell (Joins.block_setCell bR4 _) _
    have hOF:=ae (ak (p:=⟨w.heap.size+1+1+1,1,none⟩) (u:=(.slice a5 es4.length c5)) (ak (p:=⟨w.heap.size+1+1+1,0,none⟩) (u:= .int .i64 m) (ab HO5) (af (ab HO5) bR4 (by decide))) (af (ab HO5) bR4 (by decide)))
    have hPF:=ae (ak (p:=⟨w.heap.size+1+1+1,1,none⟩) (u:=(.slice a5 es4.length c5)) (ak (p:=⟨w.heap.size+1+1+1,0,none⟩) (u:= .int .i64 m) (ab HP5) (af (ab HP5) bR4 (by decide))) (af (ab HP5) bR4 (by decide)))
    have hLF:=ae (ak (p:=⟨w.heap.size+1+1+1,1,none⟩) (u:=(.slice a5 es4.length c5)) (ak (p:=⟨w.heap.size+1+1+1,0,none⟩) (u:= .int .i64 m) (ab HL5) (af (ab HL5) bR4 (by decide))) (af (ab HL5) bR4 (by decide)))
    have hBF:=ae (aq (p:=⟨w.heap.size+1+1+1,1,none⟩) (aq (p:=⟨w.heap.size+1+1+1,0,none⟩) hbw4 (sA) (.int .i64 m)) (sA) (.slice a5 es4.length c5))
    clear hHeld
    refine hK.out _ _ ?_ (fun hHeld=>?_)
    ·((try dsimp only);exact mO)
    clear hK K
    try simp only[Act.put,tA,tZ,tS]
    refine rD 11 (fun K hK=>?_)
    go_simp
    clear hHeld
    refine hK.out _ _ ?_ (fun hHeld=>?_)
    ·((try dsimp only);exact mO)
    clear hK K
    try simp only[Act.put,tA,tZ,tS]
    refine rD 12 (fun K hK=>?_)
    go_simp
    clear hHeld
    refine hK.out _ _ ?_ (fun hHeld=>?_)
    ·((try dsimp only);exact mO)
    clear hK K
    try simp only[Act.put,tA,tZ,tS]
    refine wpAnyH_done (ox) ?_ _
    clear hHeld mO bO4 bR4
    generalize ((w5.setCell ⟨w.heap.size+1+1+1,0,none⟩ (.int .i64 m)).setCell ⟨w.heap.size+1+1+1,1,none⟩ (.slice a5 es4.length c5))=w6 at mR hOF hPF hLF hBF ⊢
    obtain⟨rr0,rr1⟩:=c2 mR
    clear mR
    go_wp2
    refine bodyPost_ret (v:= .tuple #[.agg #[.int .i64 m,(.slice a5 es4.length c5)],pv4,lv4]) (nN) rfl ?_
    rw[ab HTF]
    exact⟨_,_,_,rfl,ab hOF,ab hPF,ab hLF,ab hBF⟩
   ·have kd:decide ((280:Int)<(len:Int))=true:=by simp;omega
    have kd2:decide (280<len)=true:=by simp;omega
    have hno:=ae (hnone (by unfold fY;rw[ab HOB,ab HIR];simp;omega))
    have hO4:Hid (Below w.heap.size w ((w2.setCell ⟨w.heap.size+1+1+1,0,none⟩ (.int .i64 0)).setCell ⟨w.heap.size+1+1+1,1,none⟩ (.slice none 0 0))):=ae (aq (aq hbw (sA) _) (sA) _)
    clear hnone bJ bS bI bR
    go_wp2
    refine bodyPost_ret (v:= .tuple #[.agg #[.int .i64 0,.slice none 0 0],.slice none 0 0,.slice none 0 0]) (nN) rfl ?_
    exact ab hno _ _ _ (World.ownsRow_nil _ _ _ _) (World.ownsRow_nil _ _ _ _) (ab hO4)
set_option linter.unusedSimpArgs false
theorem impltake_eq(s t k z q l e:Int)(b:Bool)(v r m:Int)(a:Option Addr)(len cap:Nat)(xs:List aD)(x1 x2 x3 x4 x5:Int)(w:World){M:Int}{R:List aD}{P:List cY}{L:List jb}(h:bV w a len xs)(hl:len≤1048576)(hN:Hid (dq s t k z q l e b v r m xs x1 x2 x3 x4 x5=(M,R,P,L))):Calls Tryz.prog 8 #[.agg #[.int .i64 s,.int .i64 t,.int .i64 k,.int .i64 z,.int .i64 q,.int .i64 l,.int .i64 e,.bool b,.int .i64 v,.int .i64 r],.agg #[.int .i64 m,.slice a len cap],.agg #[.int .i64 x1,.int .i64 x2,.int .i64 x3,.int .i64 x4,.int .i64 x5]] w fun e' w'=>∃a1 c1 pa pc la lc,e'= .returned (.tuple #[.agg #[.int .i64 M,.slice a1 R.length c1],.slice pa P.length pc,.slice la L.length lc])∧aR w' w.heap.size (.slice a1 R.length c1) R∧aQ w' w.heap.size (.slice pa P.length pc) P∧cC w' w.heap.size (.slice la L.length lc) L∧Below w.heap.size w w':=by
 refine(lX s t k z q l e b v r m a len cap xs x1 x2 x3 x4 x5 w h).mono ?_
 rintro e' w' ⟨v1,v2,v3,rfl,hO,hP,hL,hb⟩
 have hle:=tk_le s t k z q l e b v r m xs x1 x2 x3 x4 x5
 rw[ab hN]at hO hP hL hle ⊢
 dsimp only at hO hP hL hle ⊢
 obtain⟨a1,c1,rfl,_⟩:=dP hO hle.1
 obtain⟨pa,pc,rfl,_⟩:=jj hP hle.2.1
 obtain⟨la,lc,rfl,_⟩:=holdLp hL hle.2.2
 exact⟨a1,c1,pa,pc,la,lc,rfl,hO,hP,hL,hb⟩
end Go.Proofs.YtdmhihcipkhecaaGreat
namespace Go.Proofs.YtdmhihcipkhecaaGreat
open Go.ChangeShapes Go.WideShapes Go.ChangeAt Go.RowKit
set_option linter.unusedSimpArgs false
set_option maxRecDepth 20000 in
set_option maxHeartbeats 1000000 in
theorem frpanes_any(a1 a2:Option Addr)(len cap1 cap2:Nat)(xs:List cY)(w:World)(h1:jZ w a1 len xs)(h2:jZ w a2 len xs):Calls Tryz.prog 11 #[.slice a1 len cap1,.slice a2 len cap2] w fun e w'=>e= .returned (.bool true)∧Below w.heap.size w w':=by
 have hm:=h1.2.1
 unfold maxLen at hm
 go_enter Tryz.func11,Tryz.ntmps11
 go_wp2
 go_loopw [5] (fun i wr=>∃k:Nat,k≤len∧i= .int .i64 k∧Below w.heap.size w wr) (fun i _=>len - (intOf i).toNat)
 case atStart=>exact⟨0,Nat.zero_le _,rfl,Below.refl _ _⟩
 case round=>
  obtain⟨k,hk,rfl,hbw⟩:=hrel
  by_cases hlt:k<len
  ·obtain⟨hl1,_,hx1⟩:=h1
   obtain⟨hl2,_,hx2⟩:=h2
   obtain⟨g1,o1,rfl,hr1⟩:=hx1.resolve_left (by omega)
   obtain⟨g2,o2,rfl,hr2⟩:=hx2.resolve_left (by omega)
   obtain⟨x,hxk⟩:∃x,xs[k]? =some x:=⟨_,List.getElem?_eq_getElem (by omega)⟩
   have hltI:(k:Int)<(len:Int):=by omega
   obtain⟨c0,c1,c2,c3,c4,c5,c6,c7,c8⟩:=(hr1 k _ hxk).below hbw (hr1 k _ hxk).lt
   obtain⟨d0,d1,d2,d3,d4,d5,d6,d7,d8⟩:=(hr2 k _ hxk).below hbw (hr2 k _ hxk).lt
   clear hx1 hx2 hxk hr1 hr2
   go_wp2_with fail
   go_quiet (fail)
   go_wp2
   go_roundw
   case rel=>exact⟨k+1,by omega,by go_num,(eq)⟩
   case measure=>simp[intOf];omega
  ·go_wp2
   go_ret
   exact⟨rfl,hbw⟩
set_option maxRecDepth 20000 in
set_option maxHeartbeats 2000000 in
theorem jV(m:Int)(a1 a2:Option Addr)(len cap1 cap2:Nat)(xs:List aD)(w:World)(h1:bV w a1 len xs)(h2:bV w a2 len xs):Calls Tryz.prog 10 #[.agg #[.int .i64 m,.slice a1 len cap1],.agg #[.int .i64 m,.slice a2 len cap2]] w fun e w'=>e= .returned (.bool true)∧Below w.heap.size w w':=by
 have hm:=h1.2.1
 unfold maxLen at hm
 have hb0:Below w.heap.size w ((w.alloc (.cells #[.int .i64 m,.slice a1 len cap1] 27)).alloc (.cells #[.int .i64 m,.slice a2 len cap2] 27)):=ag (ax _ _) _
 replace h1:=h1.below hb0
 replace h2:=h2.below hb0
 have e1:((w.alloc (.cells #[.int .i64 m,.slice a1 len cap1] 27)).alloc (.cells #[.int .i64 m,.slice a2 len cap2] 27)).cell? ⟨w.heap.size,1,none⟩=some (.slice a1 len cap1):=by simp[go_sem]
 have e2:((w.alloc (.cells #[.int .i64 m,.slice a1 len cap1] 27)).alloc (.cells #[.int .i64 m,.slice a2 len cap2] 27)).cell? ⟨w.heap.size+1,1,none⟩=some (.slice a2 len cap2):=by simp[go_sem]
 have hzs:w.heap.size+1<((w.alloc (.cells #[.int .i64 m,.slice a1 len cap1] 27)).alloc (.cells #[.int .i64 m,.slice a2 len cap2] 27)).heap.size:=by simp
 go_enter Tryz.func10,Tryz.ntmps10
 go_wp2
 generalize ((w.alloc (.cells #[.int .i64 m,.slice a1 len cap1] 27)).alloc (.cells #[.int .i64 m,.slice a2 len cap2] 27))=ws at h1 h2 e1 e2 hb0 hzs ⊢
 go_loopw [5] (fun i wr=>∃k:Nat,k≤len∧i= .int .i64 k∧Below ws.heap.size ws wr) (fun i _=>len - (intOf i).toNat)
 case atStart=>exact⟨0,Nat.zero_le _,rfl,Below.refl _ _⟩
 case round=>
  obtain⟨k,hk,rfl,hbw⟩:=hrel
  have f1:=(hbw.cell (p:=⟨w.heap.size,1,none⟩) (by show w.heap.size<_;omega)).trans e1
  have f2:=(hbw.cell (p:=⟨w.heap.size+1,1,none⟩) (by show w.heap.size+1<_;omega)).trans e2
  have z9:=hbw.size
  have z8:w.heap.size+1<wr.heap.size:=by omega
  have z7:w.heap.size<wr.heap.size:=by omega
  by_cases hlt:k<len
  ·obtain⟨hl1,_,hx1⟩:=h1
   obtain⟨hl2,_,hx2⟩:=h2
   obtain⟨g1,o1,rfl,hr1⟩:=hx1.resolve_left (by omega)
   obtain⟨g2,o2,rfl,hr2⟩:=hx2.resolve_left (by omega)
   obtain⟨x,hxk⟩:∃x,xs[k]? =some x:=⟨_,List.getElem?_eq_getElem (by omega)⟩
   have hg1:g1<ws.heap.size:=hr1.lt (by omega)
   have hg2:g2<ws.heap.size:=hr2.lt (by omega)
   have hltI:(k:Int)<(len:Int):=by omega
   obtain⟨c0,c1,c2,c3,c4,c5,c6,c7,c8,c9,cT,c11,c12⟩:=(hr1 k _ hxk).below hbw hg1
   obtain⟨d0,d1,d2,d3,d4,d5,d6,d7,d8,d9,d10,d11,d12⟩:=(hr2 k _ hxk).below hbw hg2
   clear hx1 hx2 hxk hr1 hr2 e1 e2
   go_wp2_with fail
   go_quiet (fail)
   go_wp2
   go_roundw
   case rel=>exact⟨k+1,by omega,by go_num,(by repeat(first|(with_reducible exact Below.refl _ _)|(with_reducible assumption)|(with_reducible refine ap ?_)|(with_reducible refine aZ ?_ _)))⟩
   case measure=>simp[intOf];omega
  ·go_wp2
   go_ret
   exact⟨rfl,am hb0 hbw⟩
theorem frok_any(w:World):Calls Tryz.prog 19 #[] w fun e w'=>e= .returned (.bool true)∧Below w.heap.size w w':=by
 have ho:dQ 0 1=true:=by decide
 go_enter Tryz.func19,Tryz.ntmps19
 go_wp2_with (go_at_call 44;refine(kf _ _ _).mono ?_;rintro e w' ⟨rfl,hb⟩)
 go_ret
 exact⟨by first|rfl|rw[ho],(eq)⟩
end Go.Proofs.YtdmhihcipkhecaaGreat
