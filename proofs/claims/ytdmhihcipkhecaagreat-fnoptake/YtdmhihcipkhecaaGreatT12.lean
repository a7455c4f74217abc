/- Laid together: what the claim needs of the texts that were built one by one. -/
import Derived.Test.YtdmhihcipkhecaaGreatT10
import Derived.Test.YtdmhihcipkhecaaGreatT11
import Derived.Test.YtdmhihcipkhecaaGreatT9
import Derived.Test.YtdmhihcipkhecaaGreatT0
set_option linter.unusedVariables false
namespace Go.Proofs.YtdmhihcipkhecaaGreat
open Go.ChangeShapes Go.WideShapes Go.ChangeAt Go.RowKit Go.Shelf Go.Maps
set_option linter.unusedSimpArgs false
def eH(x1 x2 x3 x4 x5:Int)(w:dp):gv:=⟨x1,x2,x3,x4,x5,w.a,w.b⟩
def BdO(T:Int)(xs:List aC):Prop:=∀x ∈ xs,(0≤x.en∧x.en≤1000)∧0≤x.td∧x.td≤T
theorem BdO.up{T T':Int}{xs:List aC}(h:BdO T xs)(hT:T≤T'):BdO T' xs:=fun x hx=>⟨(h x hx).1,(h x hx).2.1,by have:=(h x hx).2.2;omega⟩
theorem tl_bd{pc:Bool}{m T:Int}{xs:List aC}{r:aC}(h:BdO T xs)(hr:(0≤r.en∧r.en≤1000)∧0≤r.td∧r.td≤T):BdO (T+1) (eC pc m xs r).1:=by
 unfold eC
 split
 ·intro x hx
  rcases eD.1 hx with rfl|⟨hx,_⟩
  ·exact⟨hr.1,hr.2.1,by omega⟩
  ·exact(h.up (by omega)) x hx
 ·intro x hx
  rcases eD.1 hx with rfl|⟨hx,_⟩
  ·exact⟨hr.1,by show 0≤r.td+1;omega,by show r.td+1≤T+1;omega⟩
  ·exact(h.up (by omega)) x hx
theorem nex_bd{T:Int}{xs:List aC}{ky st en v:Int}(h:BdO T xs)(hT:0≤T)(he:0≤en∧en≤1000):(0≤(di (ky,st,en) v xs).en∧(di (ky,st,en) v xs).en≤1000)∧0≤(di (ky,st,en) v xs).td∧(di (ky,st,en) v xs).td≤T:=by
 unfold di
 cases hf:dw (ky,st,en) xs with
 |none=>exact⟨he,Int.le_refl _,hT⟩
 |some y=>exact h y (er hf).2
theorem in_bd{pc:Bool}{l m T:Int}{xs:List aC}{ky st en v:Int}(h:BdO T xs)(hT:0≤T)(he:0≤en∧en≤1000):BdO (T+1) (gb pc l m xs ky v st en).1:=by
 unfold gb
 split
 ·exact h.up (by omega)
 ·exact tl_bd h (nex_bd h hT he)
theorem spn_bd:∀(old:List aC) (st en:Int),0≤en∧en≤1000→(∀x ∈ old,0≤x.en∧x.en≤1000)→0≤(dq st en old).2∧(dq st en old).2≤1000
 | [],_,_,h,_=>h
 |x :: old,st,en,h,hx=>spn_bd old (ft st x.st) (fp en x.en) (hiI_bd h (hx x (by simp))) (fun y hy=>hx y (List.mem_cons_of_mem _ hy))
theorem se_bd{pc:Bool}{l m T:Int}{xs:List aC}{ky st en v:Int}(h:BdO T xs)(hT:0≤T)(he:0≤en∧en≤1000):BdO (T+1) (ku pc l m xs ky v st en).1:=by
 have hsp:=spn_bd (xs.filter (bw ky st en)) st en he (fun x hx=>(h x (List.mem_filter.1 hx).1).1)
 unfold ku
 dsimp only
 split
 ·exact h.up (by omega)
 ·split
  ·exact in_bd h hT hsp
  ·exact tl_bd (fun x hx=>h x (List.mem_filter.1 hx).1) ⟨hsp,Int.le_refl _,hT⟩
def stF(ses pc:Bool)(l m:Int)(xs:List aC)(ky v st en:Int):List aC×List cY×Bool:=if ses=true then ku pc l m xs ky v st en else gb pc l m xs ky v st en
theorem st_bd{ses pc:Bool}{l m T:Int}{xs:List aC}{ky st en v:Int}(h:BdO T xs)(hT:0≤T)(he:0≤en∧en≤1000):BdO (T+1) (stF ses pc l m xs ky v st en).1:=by
 unfold stF
 split
 ·exact se_bd h hT he
 ·exact in_bd h hT he
theorem tl_rows(pc:Bool)(m:Int)(xs:List aC)(r:aC):(eC pc m xs r).1.length≤xs.length+1:=by
 unfold eC
 split<;>exact jq _ _
theorem in_len(pc:Bool)(l m:Int)(xs:List aC)(ky v st en:Int):(gb pc l m xs ky v st en).1.length≤xs.length+1∧(gb pc l m xs ky v st en).2.1.length≤1:=by
 unfold gb
 split
 ·simp
 ·exact⟨tl_rows _ _ _ _,tl_len _ _ _ _⟩
theorem st_len(ses pc:Bool)(l m:Int)(xs:List aC)(ky v st en:Int):(stF ses pc l m xs ky v st en).1.length≤xs.length+1∧(stF ses pc l m xs ky v st en).2.1.length≤xs.length+1:=by
 have hi:=in_len pc l m xs ky v
 unfold stF
 split
 ·unfold ku
  dsimp only
  split
  ·simp
  ·split
   ·exact⟨(hi _ _).1,Nat.le_trans (hi _ _).2 (by omega)⟩
   ·refine⟨Nat.le_trans (tl_rows _ _ _ _) (by have:=List.length_filter_le (fun x=> !bw ky st en x) xs;omega),?_⟩
    rw[List.length_append]
    have h1:=gY (xs.filter (bw ky st en))
    have h2:=List.length_filter_le (bw ky st en) xs
    have h3:=tl_len pc m (xs.filter (fun x=> !bw ky st en x)) (ff (ky,(dq st en (xs.filter (bw ky st en))).1,(dq st en (xs.filter (bw ky st en))).2) (dK v (xs.filter (bw ky st en))))
    omega
 ·exact⟨(hi _ _).1,Nat.le_trans (hi _ _).2 (by omega)⟩
theorem hU(ses pc:Bool)(l m ky v:Int)(ys:List aC)(ps:List cY)(ls:List dp)(w:dp){ys2:List aC}{ps2:List cY}{ok:Bool}(h:stF ses pc l m ys ky v w.a w.b=(ys2,ps2,ok)):b5 ses pc l m ky v (ys,ps,ls) w=(ys2,ps++ps2,if ok=true then ls else ls++[w]):=by
 unfold stF at h
 unfold b5
 simp only
 rw[h]
theorem jG{w w1 w2:World}{a a':Option Addr}{len cap n' c':Nat}{v:Value}{xs ys zs:List aC}(h:cg w w1 a len cap (.slice a' n' c') xs ys)(k:cg w1 w2 a' n' c' v ys zs)(hb:Below w1.heap.size w1 w2)(hz:w.heap.size≤w1.heap.size):cg w w2 a len cap v xs zs:=by
 rcases k with⟨rfl,rfl⟩|k
 ·rcases h with h|h
  ·exact .inl h
  ·exact .inr (aJ h (aB hb) (fun _ e9=>by cases e9))
 ·exact .inr (World.ownsRow.mono k hz)
theorem same_rows{w w1:World}{a a':Option Addr}{len cap n' c':Nat}{xs ys:List aC}(h:cg w w1 a len cap (.slice a' n' c') xs ys)(h0:cO w a len xs)(hb:Below w.heap.size w w1)(hl:ys.length≤1048576):cO w1 a' n' ys:=by
 rcases h with⟨e9,rfl⟩|h
 ·simp only[Value.slice.injEq]at e9
  obtain⟨rfl,rfl,rfl⟩:=e9
  exact h0.below hb
 ·exact ja h hl
theorem jH{w w1 w2:World}{a:Option Addr}{len cap:Nat}{v:Value}{xs ys:List aC}(h:cg w w1 a len cap v xs ys)(hb:Below w1.heap.size w1 w2):cg w w2 a len cap v xs ys:=by
 rcases h with h|h
 ·exact .inl h
 ·exact .inr (aJ h (aB hb) (fun _ e9=>by cases e9))
theorem ia{w w1 w2:World}{a:Option Addr}{len cap:Nat}{v u:Value}{xs ys:List aC}{B size n:Nat}{e:TypeId}{us:List Value}(h:cg w w1 a len cap v xs ys)(ho:w1.ownsRow B e size u n us)(hg:w1.grownBy w2 u.ownBlock)(hne:e≠57):cg w w2 a len cap v xs ys:=by
 rcases h with h|h
 ·exact .inl h
 ·exact .inr (cU h hg (fun k9 e8 e9=>cf h ho (fun e7=>hne e7.symm) e9 e8))
theorem jI(k z q T:Int):(aQ k z q T).length≤61:=by
 unfold aQ
 split
 ·simp
 ·split
  ·simp
  ·exact iQ z q T 61 0
theorem slide_bd{z p t:Int}(hz:1≤z∧z≤20)(ht:t≤60)(hp:0≤p):∀(n:Nat) (s:Int),0≤s→∀x ∈ bj z p t n s,0≤x.b∧x.b≤1000
 |0,_,_,x,hx=>by cases hx
 |n+1,s,hs,x,hx=>by
  have ih:=slide_bd hz ht hp n (s+p) (by omega)
  unfold bj at hx
  split at hx
  ·split at hx
   ·rcases List.mem_cons.1 hx with rfl|hx
    ·exact⟨by show 0≤s+z;omega,by show s+z≤1000;omega⟩
    ·exact ih x hx
   ·exact ih x hx
  ·cases hx
theorem wins_bd{s t k z p l e v r T:Int}(hj:aV s t k z p l e v r=true)(hT:0≤T∧T≤60):∀x ∈ aQ k z p T,0≤x.b∧x.b≤1000:=by
 obtain⟨hk,hz,hp⟩:=bN hj
 unfold aQ
 split
 ·intro x hx
  simp only[List.mem_singleton]at hx
  subst hx
  have h1:=Int.emod_nonneg T (show z≠0 by omega)
  have h2:=Int.emod_lt_of_pos T (show 0<z by omega)
  exact⟨by show 0≤T - T % z+z;omega,by show T - T % z+z≤1000;omega⟩
 ·split
  ·intro x hx
   simp only[List.mem_singleton]at hx
   subst hx
   exact⟨by show 0≤T+z;omega,by show T+z≤1000;omega⟩
  ·refine slide_bd hz hT.2 ?_ 61 0 (by omega)
   unfold fD at hp
   split at hp
   ·simp only[Bool.and_eq_true]at hp
    have:=br.1 hp.1
    omega
   ·simp at hp
    omega
theorem jc{W:World}{B:Nat}{a:Option Addr}{n c:Nat}{ys:List dp}(h:db W B (.slice a n c) ys)(hl:ys.length≤1048576):WnRs W a n ys:=by
 obtain⟨a',c',e9,h9,_⟩:=holdWn h hl
 simp only[Value.slice.injEq]at e9
 obtain⟨rfl,rfl,rfl⟩:=e9
 exact h9
theorem lF{W:World}{g gq o k:Nat}{x:dp}{v:Value}(h:dB W gq o x)(hne:g≠gq):dB (W.setCell ⟨g,k,none⟩ v) gq o x:=by
 have e9:∀j,(W.setCell ⟨g,k,none⟩ v).cell? ⟨gq,j,none⟩=W.cell? ⟨gq,j,none⟩:=fun j=>World.cell?_setCell_other _ _ _ _ (by intro e;injection e with e1 e2;exact hne e1)
 unfold dB at*
 simp only[e9]
 exact h
set_option maxRecDepth 100000 in
set_option maxHeartbeats 8000000 in
theorem l7take_any(s t k z q l e:Int)(b:Bool)(v r m:Int)(a:Option Addr)(len cap:Nat)(xs:List aC)(x1 x2 x3 x4 x5:Int)(w:World)(h:cO w a len xs)(hlen:len≤400)(hj:aV s t k z q l e v r=true)(hT:0≤x2∧x2≤60)(hxs:BdO 1500 xs):Calls Tryz.prog 32 #[.agg #[.int .i64 s,.int .i64 t,.int .i64 k,.int .i64 z,.int .i64 q,.int .i64 l,.int .i64 e,.bool b,.int .i64 v,.int .i64 r],.agg #[.int .i64 m,.slice a len cap],.agg #[.int .i64 x1,.int .i64 x2,.int .i64 x3,.int .i64 x4,.int .i64 x5]] w fun e' w'=>∃v1 v2 v3,e'= .returned (.tuple #[.agg #[.int .i64 m,v1],v2,v3])∧cg w w' a len cap v1 xs (cm (decide (k=3)) b l m x3 x4 xs (aQ k z q x2)).1∧aR w' w.heap.size v2 (cm (decide (k=3)) b l m x3 x4 xs (aQ k z q x2)).2.1∧bT w' w.heap.size v3 ((cm (decide (k=3)) b l m x3 x4 xs (aQ k z q x2)).2.2.map (eH x1 x2 x3 x4 x5))∧Below w.heap.size w w':=by
 obtain⟨i0,hi,hz0',hz1',hz2'⟩:=info_parts Tryz.infoLp
 obtain⟨i1,hi1,hy0,hy1,hy2⟩:=info_parts Tryz.infoPn
 have hl:=gQ hj
 have HWb:=ae (wins_bd hj hT)
 have hbE:Below w.heap.size w ((((((w.alloc (.cells #[.int .i64 s,.int .i64 t,.int .i64 k,.int .i64 z,.int .i64 q,.int .i64 l,.int .i64 e,.bool b,.int .i64 v,.int .i64 r] 24)).alloc (.cells #[.int .i64 m,.slice a len cap] 27)).alloc (.cells #[.int .i64 x1,.int .i64 x2,.int .i64 x3,.int .i64 x4,.int .i64 x5] 29)).alloc (.cells #[.int .i64 0,.slice none 0 0] 27)).alloc (.cells #[] 52)).alloc (.cells #[] 59)):=ag (ag (ag (ag (ag (aq _ _) _) _) _) _) _
 have eJ:((((((w.alloc (.cells #[.int .i64 s,.int .i64 t,.int .i64 k,.int .i64 z,.int .i64 q,.int .i64 l,.int .i64 e,.bool b,.int .i64 v,.int .i64 r] 24)).alloc (.cells #[.int .i64 m,.slice a len cap] 27)).alloc (.cells #[.int .i64 x1,.int .i64 x2,.int .i64 x3,.int .i64 x4,.int .i64 x5] 29)).alloc (.cells #[.int .i64 0,.slice none 0 0] 27)).alloc (.cells #[] 52)).alloc (.cells #[] 59)).heap[w.heap.size]? =some (.cells #[.int .i64 s,.int .i64 t,.int .i64 k,.int .i64 z,.int .i64 q,.int .i64 l,.int .i64 e,.bool b,.int .i64 v,.int .i64 r] 24 (0,0)):=aN<|aN<|aN<|aN<|aN<|nA
 have eS:((((((w.alloc (.cells #[.int .i64 s,.int .i64 t,.int .i64 k,.int .i64 z,.int .i64 q,.int .i64 l,.int .i64 e,.bool b,.int .i64 v,.int .i64 r] 24)).alloc (.cells #[.int .i64 m,.slice a len cap] 27)).alloc (.cells #[.int .i64 x1,.int .i64 x2,.int .i64 x3,.int .i64 x4,.int .i64 x5] 29)).alloc (.cells #[.int .i64 0,.slice none 0 0] 27)).alloc (.cells #[] 52)).alloc (.cells #[] 59)).heap[w.heap.size+1]? =some (.cells #[.int .i64 m,.slice a len cap] 27 (0,0)):=aN<|aN<|aN<|aN<|nA
 have eI:((((((w.alloc (.cells #[.int .i64 s,.int .i64 t,.int .i64 k,.int .i64 z,.int .i64 q,.int .i64 l,.int .i64 e,.bool b,.int .i64 v,.int .i64 r] 24)).alloc (.cells #[.int .i64 m,.slice a len cap] 27)).alloc (.cells #[.int .i64 x1,.int .i64 x2,.int .i64 x3,.int .i64 x4,.int .i64 x5] 29)).alloc (.cells #[.int .i64 0,.slice none 0 0] 27)).alloc (.cells #[] 52)).alloc (.cells #[] 59)).heap[w.heap.size+1+1]? =some (.cells #[.int .i64 x1,.int .i64 x2,.int .i64 x3,.int .i64 x4,.int .i64 x5] 29 (0,0)):=aN<|aN<|aN<|nA
 have eR:((((((w.alloc (.cells #[.int .i64 s,.int .i64 t,.int .i64 k,.int .i64 z,.int .i64 q,.int .i64 l,.int .i64 e,.bool b,.int .i64 v,.int .i64 r] 24)).alloc (.cells #[.int .i64 m,.slice a len cap] 27)).alloc (.cells #[.int .i64 x1,.int .i64 x2,.int .i64 x3,.int .i64 x4,.int .i64 x5] 29)).alloc (.cells #[.int .i64 0,.slice none 0 0] 27)).alloc (.cells #[] 52)).alloc (.cells #[] 59)).heap[w.heap.size+1+1+1]? =some (.cells #[.int .i64 0,.slice none 0 0] 27 (0,0)):=aN<|aN<|nA
 have eP:Hid (aR ((((((w.alloc (.cells #[.int .i64 s,.int .i64 t,.int .i64 k,.int .i64 z,.int .i64 q,.int .i64 l,.int .i64 e,.bool b,.int .i64 v,.int .i64 r] 24)).alloc (.cells #[.int .i64 m,.slice a len cap] 27)).alloc (.cells #[.int .i64 x1,.int .i64 x2,.int .i64 x3,.int .i64 x4,.int .i64 x5] 29)).alloc (.cells #[.int .i64 0,.slice none 0 0] 27)).alloc (.cells #[] 52)).alloc (.cells #[] 59)) w.heap.size (.slice (some ⟨w.heap.size+1+1+1+1,0,none⟩) 0 0) []):=ae (World.ownsRow.alloc (cE (W:=((((w.alloc (.cells #[.int .i64 s,.int .i64 t,.int .i64 k,.int .i64 z,.int .i64 q,.int .i64 l,.int .i64 e,.bool b,.int .i64 v,.int .i64 r] 24)).alloc (.cells #[.int .i64 m,.slice a len cap] 27)).alloc (.cells #[.int .i64 x1,.int .i64 x2,.int .i64 x3,.int .i64 x4,.int .i64 x5] 29)).alloc (.cells #[.int .i64 0,.slice none 0 0] 27))) (B:=w.heap.size) _ _ (sA) (by simp)) _)
 have eL:Hid (bT ((((((w.alloc (.cells #[.int .i64 s,.int .i64 t,.int .i64 k,.int .i64 z,.int .i64 q,.int .i64 l,.int .i64 e,.bool b,.int .i64 v,.int .i64 r] 24)).alloc (.cells #[.int .i64 m,.slice a len cap] 27)).alloc (.cells #[.int .i64 x1,.int .i64 x2,.int .i64 x3,.int .i64 x4,.int .i64 x5] 29)).alloc (.cells #[.int .i64 0,.slice none 0 0] 27)).alloc (.cells #[] 52)).alloc (.cells #[] 59)) w.heap.size (.slice (some ⟨w.heap.size+1+1+1+1+1,0,none⟩) 0 0) []):=ae (cE (W:=(((((w.alloc (.cells #[.int .i64 s,.int .i64 t,.int .i64 k,.int .i64 z,.int .i64 q,.int .i64 l,.int .i64 e,.bool b,.int .i64 v,.int .i64 r] 24)).alloc (.cells #[.int .i64 m,.slice a len cap] 27)).alloc (.cells #[.int .i64 x1,.int .i64 x2,.int .i64 x3,.int .i64 x4,.int .i64 x5] 29)).alloc (.cells #[.int .i64 0,.slice none 0 0] 27)).alloc (.cells #[] 52))) (B:=w.heap.size) _ _ (sA) (by simp))
 obtain⟨ws,hws⟩:∃ws,aQ k z q x2=ws:=⟨_,rfl⟩
 have hwl:ws.length≤61:=by rw[←hws];exact jI k z q x2
 rw[hws]at HWb
 have HRR:Hid (cm (decide (k=3)) b l m x3 x4 xs (aQ k z q x2)=ws.foldl (b5 (decide (k=3)) b l m x3 x4) (xs,[],[])):=ae (by unfold cm;rw[hws])
 have HC:=ae (l4of_any s t k z q l e b v r x2 ((((((w.alloc (.cells #[.int .i64 s,.int .i64 t,.int .i64 k,.int .i64 z,.int .i64 q,.int .i64 l,.int .i64 e,.bool b,.int .i64 v,.int .i64 r] 24)).alloc (.cells #[.int .i64 m,.slice a len cap] 27)).alloc (.cells #[.int .i64 x1,.int .i64 x2,.int .i64 x3,.int .i64 x4,.int .i64 x5] 29)).alloc (.cells #[.int .i64 0,.slice none 0 0] 27)).alloc (.cells #[] 52)).alloc (.cells #[] 59)) hj hT)
 rw[hws]at HC
 have HX:=ae hxs
 clear hws hxs hj
 go_enter Tryz.func32,Tryz.ntmps32
 go_wp2_with fail
 refine(ab HC).mono ?_
 rintro e' w1 ⟨vw,rfl,hW1,hb1⟩
 have bJ:=(hb1.block (w.heap.size) (sA)).trans eJ
 have bS:=(hb1.block (w.heap.size+1) (sA)).trans eS
 have bI:=(hb1.block (w.heap.size+1+1) (sA)).trans eI
 have bR:=(hb1.block (w.heap.size+1+1+1) (sA)).trans eR
 have hbw:Below w.heap.size w w1:=am hbE hb1
 have hz1:w.heap.size+4≤w1.heap.size:=by have:=hb1.size;simp at this;omega
 have HPo:=ae (aJ (ab eP) (aB hb1) (fun _ e9=>by cases e9))
 have HLo:=ae (aJ (ab eL) (aB hb1) (fun _ e9=>by cases e9))
 obtain⟨aw,cw,rfl,_,_,_⟩:=holdWn hW1 (by omega)
 obtain⟨nw,hnw⟩:∃nw,ws.length=nw:=⟨_,rfl⟩
 have HWo:Hid (db w1 w.heap.size (.slice aw nw cw) ws):=ae (by rw[←hnw];exact World.ownsRow.mono hW1 (oa))
 rw[hnw]at hwl ⊢
 have HNw:=ae hnw
 clear hnw hW1 hb1 eJ eS eI eR eP eL hbE HC
 go_wp2
 go_loopw [9,10,12] (fun pv lv iv wr=>∃(i2:Nat) (a':Option Addr) (n' c':Nat) (ys:List aC) (ps:List cY) (ls:List dp),i2≤nw∧iv= .int .i64 i2∧Hid ((ws.take i2).foldl (b5 (decide (k=3)) b l m x3 x4) (xs,[],[])=(ys,ps,ls))∧Hid (BdO (1500+i2) ys)∧Hid (ys.length≤400+i2)∧Hid (ps.length≤500*i2)∧Hid (ls.length≤i2)∧Hid (aR wr w.heap.size pv ps)∧Hid (bT wr w.heap.size lv (ls.map (eH x1 x2 x3 x4 x5)))∧Hid (cg w wr a len cap (.slice a' n' c') xs ys)∧Hid (db wr w.heap.size (.slice aw nw cw) ws)∧wr.heap[w.heap.size]? =some (.cells #[.int .i64 s,.int .i64 t,.int .i64 k,.int .i64 z,.int .i64 q,.int .i64 l,.int .i64 e,.bool b,.int .i64 v,.int .i64 r] 24 (0,0))∧wr.heap[w.heap.size+1]? =some (.cells #[.int .i64 m,.slice a' n' c'] 27 (0,0))∧wr.heap[w.heap.size+1+1]? =some (.cells #[.int .i64 x1,.int .i64 x2,.int .i64 x3,.int .i64 x4,.int .i64 x5] 29 (0,0))∧wr.heap[w.heap.size+1+1+1]? =some (.cells #[.int .i64 0,.slice none 0 0] 27 (0,0))∧Below w.heap.size w wr∧w.heap.size+4≤wr.heap.size) (fun _ _ iv _=>nw - (intOf iv).toNat)
 case atStart=>
  exact⟨0,a,len,cap,xs,[],[],Nat.zero_le _,rfl,ae rfl,ae ((ab HX).up (by omega)),ae (by rw[h.1];omega),ae (Nat.zero_le _),ae (Nat.zero_le _),HPo,HLo,ae (.inl ⟨rfl,rfl⟩),HWo,bJ,bS,bI,bR,hbw,hz1⟩
 case round=>
  clear bJ bS bI bR HPo HLo HWo hbw
  obtain⟨i2,a',n',c',ys,ps,ls,hi2,rfl,HFo,HBd,HYl,HPl,HLl,HPo,HLo,HSa,HWo,bJ,bS,bI,bR,hbw,hzr⟩:=hrel
  by_cases hlt:i2<nw
  ·have hWR:=jc (ab HWo) (by rw[ab HNw];omega)
   obtain⟨_,_,hy⟩:=hWR
   obtain⟨gw,ow,rfl,hr⟩:=hy.resolve_left (by omega)
   obtain⟨x,hxk⟩:∃x,ws[i2]? =some x:=⟨_,List.getElem?_eq_getElem (by rw[ab HNw];omega)⟩
   have hrow:=hr i2 x hxk
   have hgw:gw<wr.heap.size:=hrow.lt
   have hgS:w.heap.size+1≠gw:=fun e9=>af (ab HWo) bS (by decide) (by show some gw=_;rw[←e9])
   have hxb:=ab HWb x (List.mem_of_getElem? hxk)
   have HXK:=ae hxk
   obtain⟨xa,xb⟩:=x
   dsimp only at hxb
   clear hr hy hxk
   go_upto_region 9 with fail
   have hbA:Below wr.heap.size wr (wr.alloc (.cells #[] 52)):=aq _ _
   have hzA:w.heap.size+4≤(wr.alloc (.cells #[] 52)).heap.size:=by simp;omega
   have hgA:gw<(wr.alloc (.cells #[] 52)).heap.size:=by simp;omega
   generalize wr.alloc (.cells #[] 52)=wA at hbA hzA hgA ⊢
   replace hrow:=hrow.below hbA hgw
   replace HSa:=ae (jH (ab HSa) hbA)
   have zwA:wr.heap.size≤wA.heap.size:=hbA.size
   replace bJ:=(hbA.block (w.heap.size) (by omega)).trans bJ
   replace bS:=(hbA.block (w.heap.size+1) (by omega)).trans bS
   replace bI:=(hbA.block (w.heap.size+1+1) (by omega)).trans bI
   replace bR:=(hbA.block (w.heap.size+1+1+1) (by omega)).trans bR
   replace HPo:=ae (aJ (ab HPo) (aB hbA) (fun _ e9=>by cases e9))
   replace HLo:=ae (aJ (ab HLo) (aB hbA) (fun _ e9=>by cases e9))
   replace HWo:=ae (aJ (ab HWo) (aB hbA) (fun _ e9=>by cases e9))
   replace hbw:Below w.heap.size w wA:=am hbw hbA
   clear hbA hgw
   have hgw:=hgA
   have hzr0:=hzr
   have hzr:=hzA
   clear hgA hzA
   have HRw:=ae (same_rows (ab HSa) h hbw (by have:=ab HYl;omega))
   have hn':n'≤800:=by have h9:=(ab HRw).1;have:=ab HYl;omega
   obtain⟨j0,j1,j2,j3,j4,j5,j6,j7,j8,j9⟩:=cZ bJ
   by_cases hk3:k=3
   ·have hkd:decide (k=3)=true:=by simp[hk3]
    have hkb:(k==3)=true:=by simp[hk3]
    clear hk3
    go_wp2_with fail
    clear j0 j1 j2 j3 j4 j5 j6 j7 j8 j9
    refine wp_region_held_drew (S:=(fun W=>W.heap[w.heap.size]? =some (.cells #[.int .i64 s,.int .i64 t,.int .i64 k,.int .i64 z,.int .i64 q,.int .i64 l,.int .i64 e,.bool b,.int .i64 v,.int .i64 r] 24 (0,0))∧W.heap[w.heap.size+1+1]? =some (.cells #[.int .i64 x1,.int .i64 x2,.int .i64 x3,.int .i64 x4,.int .i64 x5] 29 (0,0))∧dB W gw (ow+i2*2) (⟨xa,xb⟩:dp))) (oc) ?_ (fun hHeld=>?_)
    ·((try dsimp only);exact⟨bJ,bI,hrow⟩)
    refine kT 0 ?_ ?_ ?_
    rotate_left
    ·(intro w9 hSw;(try dsimp only at hSw);obtain⟨q0,q1,d0,d1⟩:=hSw;obtain⟨ax0,ax1,ax2,ax3,ax4,ax5,ax6,ax7,ax8,ax9⟩:=cZ q0;go_simp<;>with_reducible rfl)
    try simp only[Act.put,tA,tZ,tS]
    refine kT 2 ?_ ?_ ?_
    rotate_left
    ·(intro w9 hSw;(try dsimp only at hSw);obtain⟨q0,q1,d0,d1⟩:=hSw;obtain⟨bx0,bx1,bx2,bx3,bx4⟩:=c5 q1;go_simp<;>with_reducible rfl)
    try simp only[Act.put,tA,tZ,tS]
    refine kV 3 ?_
    refine kV 4 ?_
    refine kV 5 ?_
    refine kT 6 ?_ ?_ ?_
    rotate_left
    ·(intro w9 hSw;(try dsimp only at hSw);obtain⟨q0,q1,d0,d1⟩:=hSw;go_simp<;>with_reducible rfl)
    try simp only[Act.put,tA,tZ,tS]
    refine rD 1 (fun K hK=>?_)
    obtain⟨s0,s1⟩:=Go.Proofs.YtdmhihcipkhecaaGreat.c2 bS
    go_simp
    clear s0 s1
    clear hHeld
    refine hK.out _ _ ?_ (fun hHeld=>?_)
    ·((try dsimp only);exact⟨bJ,bI,hrow⟩)
    clear hK K
    try simp only[Act.put,tA,tZ,tS]
    refine rD 7 (fun K hK=>?_)
    go_simp
    (go_at_call 63;refine(l7ses_any s t k z q l e b v r m a' n' c' ys x1 x2 x3 x4 x5 xa xb wA.drew (ab HRw) (by omega) hl hxb (fun x hx=>⟨(ab HBd x hx).1,(ab HBd x hx).2.1,by have:=(ab HBd x hx).2.2;omega⟩)).mono ?_;rintro e9 w6 ⟨v1,v2,rfl,hS6,hP6,hb6,hN6⟩)
    (try go_wp2_with fail)
    replace hb6:Below wA.heap.size wA w6:=am (ap (Below.refl _ _)) hb6
    replace hrow:=hrow.below hb6 hgw
    have zw6:wA.heap.size≤w6.heap.size:=hb6.size
    replace bJ:=(hb6.block (w.heap.size) (by omega)).trans bJ
    replace bS:=(hb6.block (w.heap.size+1) (by omega)).trans bS
    replace bI:=(hb6.block (w.heap.size+1+1) (by omega)).trans bI
    replace bR:=(hb6.block (w.heap.size+1+1+1) (by omega)).trans bR
    replace HPo:=ae (aJ (ab HPo) (aB hb6) (fun _ e9=>by cases e9))
    replace HLo:=ae (aJ (ab HLo) (aB hb6) (fun _ e9=>by cases e9))
    replace HWo:=ae (aJ (ab HWo) (aB hb6) (fun _ e9=>by cases e9))
    replace hbw:Below w.heap.size w w6:=am hbw hb6
    obtain⟨⟨ys2,ps2,ok⟩,hF⟩:∃r9,ku b l m ys x3 x4 xa xb=r9:=⟨_,rfl⟩
    rw[hF]at hS6 hP6 ⊢
    dsimp only at hS6 hP6 ⊢
    obtain⟨b1,b2,b3,rfl⟩:=lB hS6
    have HS6:Hid (cg w w6 a len cap (.slice b1 b2 b3) xs ys2):=ae (jG (w1:=wA) (ab HSa) hS6 hb6 (by omega))
    have HF:Hid (stF (decide (k=3)) b l m ys x3 x4 xa xb=(ys2,ps2,ok)):=ae (by unfold stF;rw[hkd];rw[if_pos rfl];exact hF)
    have HP6:Hid (aR w6 wA.heap.size v2 ps2):=ae hP6
    have HN6:=ae hN6
    clear hS6 hP6 hN6 hF hb6
    clear hHeld
    refine hK.out _ _ ?_ (fun hHeld=>?_)
    ·((try dsimp only);exact⟨bJ,bI,hrow⟩)
    clear hK K
    try simp only[Act.put,tA,tZ,tS]
    refine kV 8 ?_
    refine kV 9 ?_
    refine kV 10 ?_
    refine kV 11 ?_
    refine rD 12 (fun K hK=>?_)
    obtain⟨s0,s1⟩:=Go.Proofs.YtdmhihcipkhecaaGreat.c2 bS
    obtain⟨sf0,sf1⟩:=f2 bS
    have zs6:w.heap.size+1<w6.heap.size:=by omega
    go_simp
    clear s0 s1 sf0 sf1
    have mS:((w6.setCell ⟨w.heap.size+1,0,none⟩ (.int .i64 m)).setCell ⟨w.heap.size+1,1,none⟩ (.slice b1 b2 b3)).heap[w.heap.size+1]? =some (.cells #[.int .i64 m,.slice b1 b2 b3] 27 (0,0)):=Joins.block_setCell (Joins.block_setCell bS _) _
    have mJ:((w6.setCell ⟨w.heap.size+1,0,none⟩ (.int .i64 m)).setCell ⟨w.heap.size+1,1,none⟩ (.slice b1 b2 b3)).heap[w.heap.size]? =some (.cells #[.int .i64 s,.int .i64 t,.int .i64 k,.int .i64 z,.int .i64 q,.int .i64 l,.int .i64 e,.bool b,.int .i64 v,.int .i64 r] 24 (0,0)):=(Below.heap_setCell _ _ _ _ (by show _≠w.heap.size+1;omega)).trans ((Below.heap_setCell _ _ _ _ (by show _≠w.heap.size+1;omega)).trans bJ)
    have mI:((w6.setCell ⟨w.heap.size+1,0,none⟩ (.int .i64 m)).setCell ⟨w.heap.size+1,1,none⟩ (.slice b1 b2 b3)).heap[w.heap.size+1+1]? =some (.cells #[.int .i64 x1,.int .i64 x2,.int .i64 x3,.int .i64 x4,.int .i64 x5] 29 (0,0)):=(Below.heap_setCell _ _ _ _ (by show _≠w.heap.size+1;omega)).trans ((Below.heap_setCell _ _ _ _ (by show _≠w.heap.size+1;omega)).trans bI)
    have mR:((w6.setCell ⟨w.heap.size+1,0,none⟩ (.int .i64 m)).setCell ⟨w.heap.size+1,1,none⟩ (.slice b1 b2 b3)).heap[w.heap.size+1+1+1]? =some (.cells #[.int .i64 0,.slice none 0 0] 27 (0,0)):=(Below.heap_setCell _ _ _ _ (by show _≠w.heap.size+1;omega)).trans ((Below.heap_setCell _ _ _ _ (by show _≠w.heap.size+1;omega)).trans bR)
    have mrow:dB ((w6.setCell ⟨w.heap.size+1,0,none⟩ (.int .i64 m)).setCell ⟨w.heap.size+1,1,none⟩ (.slice b1 b2 b3)) gw (ow+i2*2) (⟨xa,xb⟩:dp):=lF (lF hrow hgS) hgS
    have mSa:Hid (cg w ((w6.setCell ⟨w.heap.size+1,0,none⟩ (.int .i64 m)).setCell ⟨w.heap.size+1,1,none⟩ (.slice b1 b2 b3)) a len cap (.slice b1 b2 b3) xs ys2):=ae (ei (ei (ab HS6) bS (by decide)) (Joins.block_setCell bS _) (by decide))
    have mP:=ae (al (p:=⟨w.heap.size+1,1,none⟩) (u:= .slice b1 b2 b3) (al (p:=⟨w.heap.size+1,0,none⟩) (u:= .int .i64 m) (ab HPo) (af (ab HPo) bS (by decide))) (af (ab HPo) bS (by decide)))
    have mL:=ae (al (p:=⟨w.heap.size+1,1,none⟩) (u:= .slice b1 b2 b3) (al (p:=⟨w.heap.size+1,0,none⟩) (u:= .int .i64 m) (ab HLo) (af (ab HLo) bS (by decide))) (af (ab HLo) bS (by decide)))
    have mW:=ae (al (p:=⟨w.heap.size+1,1,none⟩) (u:= .slice b1 b2 b3) (al (p:=⟨w.heap.size+1,0,none⟩) (u:= .int .i64 m) (ab HWo) (af (ab HWo) bS (by decide))) (af (ab HWo) bS (by decide)))
    have mM:=ae (al (p:=⟨w.heap.size+1,1,none⟩) (u:= .slice b1 b2 b3) (al (p:=⟨w.heap.size+1,0,none⟩) (u:= .int .i64 m) (ab HP6) (af (ab HP6) bS (by decide))) (af (ab HP6) bS (by decide)))
    have mb:Below w.heap.size w ((w6.setCell ⟨w.heap.size+1,0,none⟩ (.int .i64 m)).setCell ⟨w.heap.size+1,1,none⟩ (.slice b1 b2 b3)):=av (av hbw (sA) _) (sA) _
    have mz:wA.heap.size≤((w6.setCell ⟨w.heap.size+1,0,none⟩ (.int .i64 m)).setCell ⟨w.heap.size+1,1,none⟩ (.slice b1 b2 b3)).heap.size:=by simpa using zw6
    clear hHeld
    refine hK.out _ _ ?_ (fun hHeld=>?_)
    ·((try dsimp only);exact⟨mJ,mI,mrow⟩)
    clear hK K
    try simp only[Act.put,tA,tZ,tS]
    refine rD 13 (fun K hK=>?_)
    go_simp
    clear hHeld
    refine hK.out _ _ ?_ (fun hHeld=>?_)
    ·((try dsimp only);exact⟨mJ,mI,mrow⟩)
    clear hK K
    try simp only[Act.put,tA,tZ,tS]
    refine rD 14 (fun K hK=>?_)
    go_simp
    clear hHeld
    refine hK.out _ _ ?_ (fun hHeld=>?_)
    ·((try dsimp only);exact⟨mJ,mI,mrow⟩)
    clear hK K
    try simp only[Act.put,tA,tZ,tS]
    refine wpAnyH_done (oc) ?_ _
    clear hHeld bJ bS bI bR HPo HLo HWo hbw HSa HRw hrow HS6 HP6 mrow
    generalize ((w6.setCell ⟨w.heap.size+1,0,none⟩ (.int .i64 m)).setCell ⟨w.heap.size+1,1,none⟩ (.slice b1 b2 b3))=w2 at mJ mS mI mR mSa mP mL mW mM mb mz ⊢
    have bJ:=mJ
    have bS:=mS
    have bI:=mI
    have bR:=mR
    have HSa:=mSa
    have HP6:=mM
    have HPo:=mP
    have HLo:=mL
    have HWo:=mW
    have hbw:=mb
    have hz2:=mz
    clear mJ mS mI mR mSa mP mL mW mM mb mz
    obtain⟨a2,n2,c2,rfl⟩:=ab HN6
    have hn2:n2=ps2.length:=own_n (ab HP6)
    subst hn2
    clear HN6
    have HSt:=ae (st_len (decide (k=3)) b l m ys x3 x4 xa xb)
    have HB2:Hid (BdO (1500+((i2+1:Nat):Int)) ys2):=ae (by have h9:=st_bd (ses:=decide (k=3)) (pc:=b) (l:=l) (m:=m) (ky:=x3) (v:=x4) (st:=xa) (ab HBd) (by omega) hxb;rw[ab HF]at h9;exact h9.up (by omega))
    rw[ab HF]at HSt
    have hps2:ps2.length≤480:=by have h9:=(ab HSt).2;have:=ab HYl;dsimp only at h9;omega
    have hys2:Hid (ys2.length≤400+(i2+1)):=ae (by have h9:=(ab HSt).1;have:=ab HYl;dsimp only at h9;omega)
    have hpl:ps.length≤40000:=by have:=ab HPl;omega
    have HFo2:Hid ((ws.take (i2+1)).foldl (b5 (decide (k=3)) b l m x3 x4) (xs,[],[])=(ys2,ps++ps2,if ok=true then ls else ls++[⟨xa,xb⟩])):=ae (by rw[List.take_add_one,ab HXK,Option.toList,List.foldl_append,ab HFo];exact hU _ _ _ _ _ _ _ _ _ _ (ab HF))
    go_upto_region 13 with(at_builtin;go_loud (refine cV rfl _ _ 32 rfl w.heap.size 52 i1 _ 9 72 Tryz.underlying32 hi1 hy0 hy1 hy2 rfl (by decide) u9 _ _ rfl (ab HPo) a2 ps2.length c2 (bs ps2) rfl (by rw[gD]) (gW (ab HP6)) (jB ps2) (by unfold maxLen;omega) (by omega) (by omega) ?_);intro v5 w5 hown ml hat)
    have hge9:=ae (fun b9 (e9:(u9:Value).ownBlock=some b9)=>aE (ab HPo) b9 e9)
    replace bJ:=(ml.block (w.heap.size) (by omega) (fun e9=>af (ab HPo) bJ (by decide) e9.symm)).trans bJ
    replace bS:=(ml.block (w.heap.size+1) (by omega) (fun e9=>af (ab HPo) bS (by decide) e9.symm)).trans bS
    replace bI:=(ml.block (w.heap.size+1+1) (by omega) (fun e9=>af (ab HPo) bI (by decide) e9.symm)).trans bI
    replace bR:=(ml.block (w.heap.size+1+1+1) (by omega) (fun e9=>af (ab HPo) bR (by decide) e9.symm)).trans bR
    replace hbw:Below w.heap.size w w5:=hbw.grown ml (by omega) (fun b9 e9=>ab hge9 b9 e9)
    replace HSa:=ae (ia (ab HSa) (ab HPo) ml (by decide))
    replace HLo:=ae (cU (ab HLo) ml (fun k9 e8 e9=>cf (ab HLo) (ab HPo) (by decide) e9 e8))
    replace HWo:=ae (cU (ab HWo) ml (fun k9 e8 e9=>cf (ab HWo) (ab HPo) (by decide) e9 e8))
    replace HPo:Hid (aR w5 w.heap.size v5 (ps++ps2)):=ae (iA hown)
    have hz5:wA.heap.size≤w5.heap.size:=by have:=ml.size;omega
    have HPl2:Hid ((ps++ps2).length≤500*(i2+1)):=ae (by rw[List.length_append];have:=ab HPl;omega)
    clear hown ml hat hge9 HP6 HSt
    cases ok with
    |true=>
     go_wp2
     exact⟨⟨i2+1,b1,b2,b3,ys2,ps++ps2,ls,by omega,by go_num,HFo2,HB2,hys2,HPl2,ae (by have:=ab HLl;omega),HPo,HLo,HSa,HWo,bJ,bS,bI,bR,hbw,by omega⟩,by simp[intOf];omega⟩
    |false=>
     have hWR:=jc (ab HWo) (by rw[ab HNw];omega)
     obtain⟨_,_,hy⟩:=hWR
     obtain⟨gw2,ow2,e9,hr⟩:=hy.resolve_left (by omega)
     simp only[Option.some.injEq,Addr.mk.injEq,and_true]at e9
     obtain⟨rfl,rfl⟩:=e9
     have hrow:=hr i2 _ (ab HXK)
     clear hr hy
     have hll:ls.length≤61:=by have:=ab HLl;omega
     go_wp2_with fail
     refine wp_region_held_drew (S:=(fun W=>W.heap[w.heap.size+1+1]? =some (.cells #[.int .i64 x1,.int .i64 x2,.int .i64 x3,.int .i64 x4,.int .i64 x5] 29 (0,0))∧dB W gw (ow+i2*2) (⟨xa,xb⟩:dp))) (oc) ?_ (fun hHeld=>?_)
     ·((try dsimp only);exact⟨bI,hrow⟩)
     refine kV 0 ?_
     refine kT 1 ?_ ?_ ?_
     rotate_left
     ·(intro w9 hSw;(try dsimp only at hSw);obtain⟨q1,d0,d1⟩:=hSw;obtain⟨bx0,bx1,bx2,bx3,bx4⟩:=c5 q1;go_simp<;>with_reducible rfl)
     try simp only[Act.put,tA,tZ,tS]
     refine kV 2 ?_
     refine kV 3 ?_
     refine kV 4 ?_
     refine kT 5 ?_ ?_ ?_
     rotate_left
     ·(intro w9 hSw;(try dsimp only at hSw);obtain⟨q1,d0,d1⟩:=hSw;go_simp<;>with_reducible rfl)
     try simp only[Act.put,tA,tZ,tS]
     refine kV 6 ?_
     refine rD 7 (fun K hK=>?_)
     go_simp
     replace bJ:=(Below.heap_alloc w5.drew (.cells #[.int .i64 x1,.int .i64 x2,.int .i64 x3,.int .i64 x4,.int .i64 x5,.int .i64 xa,.int .i64 xb] 59) (w.heap.size) (by show _<w5.heap.size;omega)).trans bJ
     replace bS:=(Below.heap_alloc w5.drew (.cells #[.int .i64 x1,.int .i64 x2,.int .i64 x3,.int .i64 x4,.int .i64 x5,.int .i64 xa,.int .i64 xb] 59) (w.heap.size+1) (by show _<w5.heap.size;omega)).trans bS
     replace bI:=(Below.heap_alloc w5.drew (.cells #[.int .i64 x1,.int .i64 x2,.int .i64 x3,.int .i64 x4,.int .i64 x5,.int .i64 xa,.int .i64 xb] 59) (w.heap.size+1+1) (by show _<w5.heap.size;omega)).trans bI
     replace bR:=(Below.heap_alloc w5.drew (.cells #[.int .i64 x1,.int .i64 x2,.int .i64 x3,.int .i64 x4,.int .i64 x5,.int .i64 xa,.int .i64 xb] 59) (w.heap.size+1+1+1) (by show _<w5.heap.size;omega)).trans bR
     replace hrow:=hrow.below (ag (ap (Below.refl w5.heap.size w5)) (.cells #[.int .i64 x1,.int .i64 x2,.int .i64 x3,.int .i64 x4,.int .i64 x5,.int .i64 xa,.int .i64 xb] 59)) hrow.lt
     replace hbw:=ag (ap hbw) (.cells #[.int .i64 x1,.int .i64 x2,.int .i64 x3,.int .i64 x4,.int .i64 x5,.int .i64 xa,.int .i64 xb] 59)
     have hba:Below w5.heap.size w5 (w5.drew.alloc (.cells #[.int .i64 x1,.int .i64 x2,.int .i64 x3,.int .i64 x4,.int .i64 x5,.int .i64 xa,.int .i64 xb] 59)):=ag (ap (Below.refl w5.heap.size w5)) (.cells #[.int .i64 x1,.int .i64 x2,.int .i64 x3,.int .i64 x4,.int .i64 x5,.int .i64 xa,.int .i64 xb] 59)
     clear hHeld
     refine hK.out _ _ ?_ (fun hHeld=>?_)
     ·((try dsimp only);exact⟨bI,hrow⟩)
     clear hK K
     try simp only[Act.put,tA,tZ,tS]
     refine rD 8 (fun K hK=>?_)
     refine ct rfl _ _ 33 rfl w.heap.size 59 i0 _ 7 56 Tryz.underlying33 hi hz0' hz1' hz2' rfl (by decide) u10 _ _ rfl (gI (ab HLo) _) ⟨w5.heap.size,0,none⟩ 1 1 [.int .i64 x1,.int .i64 x2,.int .i64 x3,.int .i64 x4,.int .i64 x5,.int .i64 xa,.int .i64 xb] rfl rfl (fR w5.drew _ _ _ _ _ _ _ _) (nT) (by rw[List.length_map];unfold maxLen;omega) (nL) hbw.size ?_
     intro v6 w6 hown ml hat
     have hge9:=ae (fun b9 (e9:(u10:Value).ownBlock=some b9)=>aE (ab HLo) b9 e9)
     have HLa:=gI (ab HLo) (.cells #[.int .i64 x1,.int .i64 x2,.int .i64 x3,.int .i64 x4,.int .i64 x5,.int .i64 xa,.int .i64 xb] 59)
     replace bJ:=(ml.block (w.heap.size) (Array.getElem?_eq_some_iff.1 bJ).1 (fun e9=>af HLa bJ (by decide) e9.symm)).trans bJ
     replace bS:=(ml.block (w.heap.size+1) (Array.getElem?_eq_some_iff.1 bS).1 (fun e9=>af HLa bS (by decide) e9.symm)).trans bS
     replace bI:=(ml.block (w.heap.size+1+1) (Array.getElem?_eq_some_iff.1 bI).1 (fun e9=>af HLa bI (by decide) e9.symm)).trans bI
     replace bR:=(ml.block (w.heap.size+1+1+1) (Array.getElem?_eq_some_iff.1 bR).1 (fun e9=>af HLa bR (by decide) e9.symm)).trans bR
     have hrow6:dB w6 gw (ow+i2*2) (⟨xa,xb⟩:dp):=hrow.grown ml (fun e9=>cf (ab HWo) (ab HLo) (by decide) (k:=gw) rfl e9.symm)
     replace hbw:Below w.heap.size w w6:=hbw.grown ml (by have:=hbw.size;omega) (fun b9 e9=>ab hge9 b9 e9)
     replace HSa:=ae (ia (jH (ab HSa) hba) HLa ml (by decide))
     replace HPo:=ae (cU (aJ (ab HPo) (aB hba) (fun _ e9=>by cases e9)) ml (fun k9 e8 e9=>cf (ab HPo) (ab HLo) (by decide) e9 e8))
     replace HWo:=ae (cU (aJ (ab HWo) (aB hba) (fun _ e9=>by cases e9)) ml (fun k9 e8 e9=>cf (ab HWo) (ab HLo) (by decide) e9 e8))
     replace HLo:Hid (bT w6 w.heap.size v6 ((ls++[(⟨xa,xb⟩:dp)]).map (eH x1 x2 x3 x4 x5))):=ae (by rw[List.map_append];exact gL (x:=(eH x1 x2 x3 x4 x5) ⟨xa,xb⟩) hown)
     have hz6:w5.heap.size≤w6.heap.size:=Nat.le_trans hba.size ml.size
     clear hHeld
     refine hK.out _ _ ?_ (fun hHeld=>?_)
     ·((try dsimp only);exact⟨bI,hrow6⟩)
     clear hK K
     try simp only[Act.put,tA,tZ,tS]
     refine rD 9 (fun K hK=>?_)
     go_simp
     clear hHeld
     refine hK.out _ _ ?_ (fun hHeld=>?_)
     ·((try dsimp only);exact⟨bI,hrow6⟩)
     clear hK K
     try simp only[Act.put,tA,tZ,tS]
     refine wpAnyH_done (oc) ?_ _
     clear hHeld hown ml hat hge9 HLa hrow hrow6 hba
     go_wp2
     exact⟨⟨i2+1,b1,b2,b3,ys2,ps++ps2,ls++[⟨xa,xb⟩],by omega,by go_num,HFo2,HB2,hys2,HPl2,ae (by rw[List.length_append];have:=ab HLl;simp;omega),HPo,HLo,HSa,HWo,bJ,bS,bI,bR,hbw,by omega⟩,by simp[intOf];omega⟩
   ·have hkd:decide (k=3)=false:=by simp[hk3]
    have hkb:(k==3)=false:=by simp[hk3]
    clear hk3
    go_wp2_with fail
    clear j0 j1 j2 j3 j4 j5 j6 j7 j8 j9
    refine wp_region_held_drew (S:=(fun W=>W.heap[w.heap.size]? =some (.cells #[.int .i64 s,.int .i64 t,.int .i64 k,.int .i64 z,.int .i64 q,.int .i64 l,.int .i64 e,.bool b,.int .i64 v,.int .i64 r] 24 (0,0))∧W.heap[w.heap.size+1+1]? =some (.cells #[.int .i64 x1,.int .i64 x2,.int .i64 x3,.int .i64 x4,.int .i64 x5] 29 (0,0))∧dB W gw (ow+i2*2) (⟨xa,xb⟩:dp))) (oc) ?_ (fun hHeld=>?_)
    ·((try dsimp only);exact⟨bJ,bI,hrow⟩)
    refine kT 0 ?_ ?_ ?_
    rotate_left
    ·(intro w9 hSw;(try dsimp only at hSw);obtain⟨q0,q1,d0,d1⟩:=hSw;obtain⟨ax0,ax1,ax2,ax3,ax4,ax5,ax6,ax7,ax8,ax9⟩:=cZ q0;go_simp<;>with_reducible rfl)
    try simp only[Act.put,tA,tZ,tS]
    refine kT 2 ?_ ?_ ?_
    rotate_left
    ·(intro w9 hSw;(try dsimp only at hSw);obtain⟨q0,q1,d0,d1⟩:=hSw;obtain⟨bx0,bx1,bx2,bx3,bx4⟩:=c5 q1;go_simp<;>with_reducible rfl)
    try simp only[Act.put,tA,tZ,tS]
    refine kV 3 ?_
    refine kV 4 ?_
    refine kV 5 ?_
    refine kT 6 ?_ ?_ ?_
    rotate_left
    ·(intro w9 hSw;(try dsimp only at hSw);obtain⟨q0,q1,d0,d1⟩:=hSw;go_simp<;>with_reducible rfl)
    try simp only[Act.put,tA,tZ,tS]
    refine rD 1 (fun K hK=>?_)
    obtain⟨s0,s1⟩:=Go.Proofs.YtdmhihcipkhecaaGreat.c2 bS
    go_simp
    clear s0 s1
    clear hHeld
    refine hK.out _ _ ?_ (fun hHeld=>?_)
    ·((try dsimp only);exact⟨bJ,bI,hrow⟩)
    clear hK K
    try simp only[Act.put,tA,tZ,tS]
    refine rD 7 (fun K hK=>?_)
    go_simp
    (go_at_call 64;refine(jA s t k z q l e b v r m a' n' c' ys x1 x2 x3 x4 x5 xa xb wA.drew (ab HRw) (by omega) hl hxb (fun x hx=>⟨(ab HBd x hx).2.1,by have:=(ab HBd x hx).2.2;omega⟩)).mono ?_;rintro e9 w6 ⟨v1,v2,rfl,hS6,hP6,hb6,hN6⟩)
    (try go_wp2_with fail)
    replace hb6:Below wA.heap.size wA w6:=am (ap (Below.refl _ _)) hb6
    replace hrow:=hrow.below hb6 hgw
    have zw6:wA.heap.size≤w6.heap.size:=hb6.size
    replace bJ:=(hb6.block (w.heap.size) (by omega)).trans bJ
    replace bS:=(hb6.block (w.heap.size+1) (by omega)).trans bS
    replace bI:=(hb6.block (w.heap.size+1+1) (by omega)).trans bI
    replace bR:=(hb6.block (w.heap.size+1+1+1) (by omega)).trans bR
    replace HPo:=ae (aJ (ab HPo) (aB hb6) (fun _ e9=>by cases e9))
    replace HLo:=ae (aJ (ab HLo) (aB hb6) (fun _ e9=>by cases e9))
    replace HWo:=ae (aJ (ab HWo) (aB hb6) (fun _ e9=>by cases e9))
    replace hbw:Below w.heap.size w w6:=am hbw hb6
    obtain⟨⟨ys2,ps2,ok⟩,hF⟩:∃r9,gb b l m ys x3 x4 xa xb=r9:=⟨_,rfl⟩
    rw[hF]at hS6 hP6 ⊢
    dsimp only at hS6 hP6 ⊢
    obtain⟨b1,b2,b3,rfl⟩:=lB hS6
    have HS6:Hid (cg w w6 a len cap (.slice b1 b2 b3) xs ys2):=ae (jG (w1:=wA) (ab HSa) hS6 hb6 (by omega))
    have HF:Hid (stF (decide (k=3)) b l m ys x3 x4 xa xb=(ys2,ps2,ok)):=ae (by unfold stF;rw[hkd];rw[if_neg (by decide)];exact hF)
    have HP6:Hid (aR w6 wA.heap.size v2 ps2):=ae hP6
    have HN6:=ae hN6
    clear hS6 hP6 hN6 hF hb6
    clear hHeld
    refine hK.out _ _ ?_ (fun hHeld=>?_)
    ·((try dsimp only);exact⟨bJ,bI,hrow⟩)
    clear hK K
    try simp only[Act.put,tA,tZ,tS]
    refine kV 8 ?_
    refine kV 9 ?_
    refine kV 10 ?_
    refine kV 11 ?_
    refine rD 12 (fun K hK=>?_)
    obtain⟨s0,s1⟩:=Go.Proofs.YtdmhihcipkhecaaGreat.c2 bS
    obtain⟨sf0,sf1⟩:=f2 bS
    have zs6:w.heap.size+1<w6.heap.size:=by omega
    go_simp
    clear s0 s1 sf0 sf1
    have mS:((w6.setCell ⟨w.heap.size+1,0,none⟩ (.int .i64 m)).setCell ⟨w.heap.size+1,1,none⟩ (.slice b1 b2 b3)).heap[w.heap.size+1]? =some (.cells #[.int .i64 m,.slice b1 b2 b3] 27 (0,0)):=Joins.block_setCell (Joins.block_setCell bS _) _
    have mJ:((w6.setCell ⟨w.heap.size+1,0,none⟩ (.int .i64 m)).setCell ⟨w.heap.size+1,1,none⟩ (.slice b1 b2 b3)).heap[w.heap.size]? =some (.cells #[.int .i64 s,.int .i64 t,.int .i64 k,.int .i64 z,.int .i64 q,.int .i64 l,.int .i64 e,.bool b,.int .i64 v,.int .i64 r] 24 (0,0)):=(Below.heap_setCell _ _ _ _ (by show _≠w.heap.size+1;omega)).trans ((Below.heap_setCell _ _ _ _ (by show _≠w.heap.size+1;omega)).trans bJ)
    have mI:((w6.setCell ⟨w.heap.size+1,0,none⟩ (.int .i64 m)).setCell ⟨w.heap.size+1,1,none⟩ (.slice b1 b2 b3)).heap[w.heap.size+1+1]? =some (.cells #[.int .i64 x1,.int .i64 x2,.int .i64 x3,.int .i64 x4,.int .i64 x5] 29 (0,0)):=(Below.heap_setCell _ _ _ _ (by show _≠w.heap.size+1;omega)).trans ((Below.heap_setCell _ _ _ _ (by show _≠w.heap.size+1;omega)).trans bI)
    have mR:((w6.setCell ⟨w.heap.size+1,0,none⟩ (.int .i64 m)).setCell ⟨w.heap.size+1,1,none⟩ (.slice b1 b2 b3)).heap[w.heap.size+1+1+1]? =some (.cells #[.int .i64 0,.slice none 0 0] 27 (0,0)):=(Below.heap_setCell _ _ _ _ (by show _≠w.heap.size+1;omega)).trans ((Below.heap_setCell _ _ _ _ (by show _≠w.heap.size+1;omega)).trans bR)
    have mrow:dB ((w6.setCell ⟨w.heap.size+1,0,none⟩ (.int .i64 m)).setCell ⟨w.heap.size+1,1,none⟩ (.slice b1 b2 b3)) gw (ow+i2*2) (⟨xa,xb⟩:dp):=lF (lF hrow hgS) hgS
    have mSa:Hid (cg w ((w6.setCell ⟨w.heap.size+1,0,none⟩ (.int .i64 m)).setCell ⟨w.heap.size+1,1,none⟩ (.slice b1 b2 b3)) a len cap (.slice b1 b2 b3) xs ys2):=ae (ei (ei (ab HS6) bS (by decide)) (Joins.block_setCell bS _) (by decide))
    have mP:=ae (al (p:=⟨w.heap.size+1,1,none⟩) (u:= .slice b1 b2 b3) (al (p:=⟨w.heap.size+1,0,none⟩) (u:= .int .i64 m) (ab HPo) (af (ab HPo) bS (by decide))) (af (ab HPo) bS (by decide)))
    have mL:=ae (al (p:=⟨w.heap.size+1,1,none⟩) (u:= .slice b1 b2 b3) (al (p:=⟨w.heap.size+1,0,none⟩) (u:= .int .i64 m) (ab HLo) (af (ab HLo) bS (by decide))) (af (ab HLo) bS (by decide)))
    have mW:=ae (al (p:=⟨w.heap.size+1,1,none⟩) (u:= .slice b1 b2 b3) (al (p:=⟨w.heap.size+1,0,none⟩) (u:= .int .i64 m) (ab HWo) (af (ab HWo) bS (by decide))) (af (ab HWo) bS (by decide)))
    have mM:=ae (al (p:=⟨w.heap.size+1,1,none⟩) (u:= .slice b1 b2 b3) (al (p:=⟨w.heap.size+1,0,none⟩) (u:= .int .i64 m) (ab HP6) (af (ab HP6) bS (by decide))) (af (ab HP6) bS (by decide)))
    have mb:Below w.heap.size w ((w6.setCell ⟨w.heap.size+1,0,none⟩ (.int .i64 m)).setCell ⟨w.heap.size+1,1,none⟩ (.slice b1 b2 b3)):=av (av hbw (sA) _) (sA) _
    have mz:wA.heap.size≤((w6.setCell ⟨w.heap.size+1,0,none⟩ (.int .i64 m)).setCell ⟨w.heap.size+1,1,none⟩ (.slice b1 b2 b3)).heap.size:=by simpa using zw6
    clear hHeld
    refine hK.out _ _ ?_ (fun hHeld=>?_)
    ·((try dsimp only);exact⟨mJ,mI,mrow⟩)
    clear hK K
    try simp only[Act.put,tA,tZ,tS]
    refine rD 13 (fun K hK=>?_)
    go_simp
    clear hHeld
    refine hK.out _ _ ?_ (fun hHeld=>?_)
    ·((try dsimp only);exact⟨mJ,mI,mrow⟩)
    clear hK K
    try simp only[Act.put,tA,tZ,tS]
    refine rD 14 (fun K hK=>?_)
    go_simp
    clear hHeld
    refine hK.out _ _ ?_ (fun hHeld=>?_)
    ·((try dsimp only);exact⟨mJ,mI,mrow⟩)
    clear hK K
    try simp only[Act.put,tA,tZ,tS]
    refine wpAnyH_done (oc) ?_ _
    clear hHeld bJ bS bI bR HPo HLo HWo hbw HSa HRw hrow HS6 HP6 mrow
    generalize ((w6.setCell ⟨w.heap.size+1,0,none⟩ (.int .i64 m)).setCell ⟨w.heap.size+1,1,none⟩ (.slice b1 b2 b3))=w2 at mJ mS mI mR mSa mP mL mW mM mb mz ⊢
    have bJ:=mJ
    have bS:=mS
    have bI:=mI
    have bR:=mR
    have HSa:=mSa
    have HP6:=mM
    have HPo:=mP
    have HLo:=mL
    have HWo:=mW
    have hbw:=mb
    have hz2:=mz
    clear mJ mS mI mR mSa mP mL mW mM mb mz
    obtain⟨a2,n2,c2,rfl⟩:=ab HN6
    have hn2:n2=ps2.length:=own_n (ab HP6)
    subst hn2
    clear HN6
    have HSt:=ae (st_len (decide (k=3)) b l m ys x3 x4 xa xb)
    have HB2:Hid (BdO (1500+((i2+1:Nat):Int)) ys2):=ae (by have h9:=st_bd (ses:=decide (k=3)) (pc:=b) (l:=l) (m:=m) (ky:=x3) (v:=x4) (st:=xa) (ab HBd) (by omega) hxb;rw[ab HF]at h9;exact h9.up (by omega))
    rw[ab HF]at HSt
    have hps2:ps2.length≤480:=by have h9:=(ab HSt).2;have:=ab HYl;dsimp only at h9;omega
    have hys2:Hid (ys2.length≤400+(i2+1)):=ae (by have h9:=(ab HSt).1;have:=ab HYl;dsimp only at h9;omega)
    have hpl:ps.length≤40000:=by have:=ab HPl;omega
    have HFo2:Hid ((ws.take (i2+1)).foldl (b5 (decide (k=3)) b l m x3 x4) (xs,[],[])=(ys2,ps++ps2,if ok=true then ls else ls++[⟨xa,xb⟩])):=ae (by rw[List.take_add_one,ab HXK,Option.toList,List.foldl_append,ab HFo];exact hU _ _ _ _ _ _ _ _ _ _ (ab HF))
    go_upto_region 13 with(at_builtin;go_loud (refine cV rfl _ _ 32 rfl w.heap.size 52 i1 _ 9 72 Tryz.underlying32 hi1 hy0 hy1 hy2 rfl (by decide) u9 _ _ rfl (ab HPo) a2 ps2.length c2 (bs ps2) rfl (by rw[gD]) (gW (ab HP6)) (jB ps2) (by unfold maxLen;omega) (by omega) (by omega) ?_);intro v5 w5 hown ml hat)
    have hge9:=ae (fun b9 (e9:(u9:Value).ownBlock=some b9)=>aE (ab HPo) b9 e9)
    replace bJ:=(ml.block (w.heap.size) (by omega) (fun e9=>af (ab HPo) bJ (by decide) e9.symm)).trans bJ
    replace bS:=(ml.block (w.heap.size+1) (by omega) (fun e9=>af (ab HPo) bS (by decide) e9.symm)).trans bS
    replace bI:=(ml.block (w.heap.size+1+1) (by omega) (fun e9=>af (ab HPo) bI (by decide) e9.symm)).trans bI
    replace bR:=(ml.block (w.heap.size+1+1+1) (by omega) (fun e9=>af (ab HPo) bR (by decide) e9.symm)).trans bR
    replace hbw:Below w.heap.size w w5:=hbw.grown ml (by omega) (fun b9 e9=>ab hge9 b9 e9)
    replace HSa:=ae (ia (ab HSa) (ab HPo) ml (by decide))
    replace HLo:=ae (cU (ab HLo) ml (fun k9 e8 e9=>cf (ab HLo) (ab HPo) (by decide) e9 e8))
    replace HWo:=ae (cU (ab HWo) ml (fun k9 e8 e9=>cf (ab HWo) (ab HPo) (by decide) e9 e8))
    replace HPo:Hid (aR w5 w.heap.size v5 (ps++ps2)):=ae (iA hown)
    have hz5:wA.heap.size≤w5.heap.size:=by have:=ml.size;omega
    have HPl2:Hid ((ps++ps2).length≤500*(i2+1)):=ae (by rw[List.length_append];have:=ab HPl;omega)
    clear hown ml hat hge9 HP6 HSt
    cases ok with
    |true=>
     go_wp2
     exact⟨⟨i2+1,b1,b2,b3,ys2,ps++ps2,ls,by omega,by go_num,HFo2,HB2,hys2,HPl2,ae (by have:=ab HLl;omega),HPo,HLo,HSa,HWo,bJ,bS,bI,bR,hbw,by omega⟩,by simp[intOf];omega⟩
    |false=>
     have hWR:=jc (ab HWo) (by rw[ab HNw];omega)
     obtain⟨_,_,hy⟩:=hWR
     obtain⟨gw2,ow2,e9,hr⟩:=hy.resolve_left (by omega)
     simp only[Option.some.injEq,Addr.mk.injEq,and_true]at e9
     obtain⟨rfl,rfl⟩:=e9
     have hrow:=hr i2 _ (ab HXK)
     clear hr hy
     have hll:ls.length≤61:=by have:=ab HLl;omega
     go_wp2_with fail
     refine wp_region_held_drew (S:=(fun W=>W.heap[w.heap.size+1+1]? =some (.cells #[.int .i64 x1,.int .i64 x2,.int .i64 x3,.int .i64 x4,.int .i64 x5] 29 (0,0))∧dB W gw (ow+i2*2) (⟨xa,xb⟩:dp))) (oc) ?_ (fun hHeld=>?_)
     ·((try dsimp only);exact⟨bI,hrow⟩)
     refine kV 0 ?_
     refine kT 1 ?_ ?_ ?_
     rotate_left
     ·(intro w9 hSw;(try dsimp only at hSw);obtain⟨q1,d0,d1⟩:=hSw;obtain⟨bx0,bx1,bx2,bx3,bx4⟩:=c5 q1;go_simp<;>with_reducible rfl)
     try simp only[Act.put,tA,tZ,tS]
     refine kV 2 ?_
     refine kV 3 ?_
     refine kV 4 ?_
     refine kT 5 ?_ ?_ ?_
     rotate_left
     ·(intro w9 hSw;(try dsimp only at hSw);obtain⟨q1,d0,d1⟩:=hSw;go_simp<;>with_reducible rfl)
     try simp only[Act.put,tA,tZ,tS]
     refine kV 6 ?_
     refine rD 7 (fun K hK=>?_)
     go_simp
     replace bJ:=(Below.heap_alloc w5.drew (.cells #[.int .i64 x1,.int .i64 x2,.int .i64 x3,.int .i64 x4,.int .i64 x5,.int .i64 xa,.int .i64 xb] 59) (w.heap.size) (by show _<w5.heap.size;omega)).trans bJ
     replace bS:=(Below.heap_alloc w5.drew (.cells #[.int .i64 x1,.int .i64 x2,.int .i64 x3,.int .i64 x4,.int .i64 x5,.int .i64 xa,.int .i64 xb] 59) (w.heap.size+1) (by show _<w5.heap.size;omega)).trans bS
     replace bI:=(Below.heap_alloc w5.drew (.cells #[.int .i64 x1,.int .i64 x2,.int .i64 x3,.int .i64 x4,.int .i64 x5,.int .i64 xa,.int .i64 xb] 59) (w.heap.size+1+1) (by show _<w5.heap.size;omega)).trans bI
     replace bR:=(Below.heap_alloc w5.drew (.cells #[.int .i64 x1,.int .i64 x2,.int .i64 x3,.int .i64 x4,.int .i64 x5,.int .i64 xa,.int .i64 xb] 59) (w.heap.size+1+1+1) (by show _<w5.heap.size;omega)).trans bR
     replace hrow:=hrow.below (ag (ap (Below.refl w5.heap.size w5)) (.cells #[.int .i64 x1,.int .i64 x2,.int .i64 x3,.int .i64 x4,.int .i64 x5,.int .i64 xa,.int .i64 xb] 59)) hrow.lt
     replace hbw:=ag (ap hbw) (.cells #[.int .i64 x1,.int .i64 x2,.int .i64 x3,.int .i64 x4,.int .i64 x5,.int .i64 xa,.int .i64 xb] 59)
     have hba:Below w5.heap.size w5 (w5.drew.alloc (.cells #[.int .i64 x1,.int .i64 x2,.int .i64 x3,.int .i64 x4,.int .i64 x5,.int .i64 xa,.int .i64 xb] 59)):=ag (ap (Below.refl w5.heap.size w5)) (.cells #[.int .i64 x1,.int .i64 x2,.int .i64 x3,.int .i64 x4,.int .i64 x5,.int .i64 xa,.int .i64 xb] 59)
     clear hHeld
     refine hK.out _ _ ?_ (fun hHeld=>?_)
     ·((try dsimp only);exact⟨bI,hrow⟩)
     clear hK K
     try simp only[Act.put,tA,tZ,tS]
     refine rD 8 (fun K hK=>?_)
     refine ct rfl _ _ 33 rfl w.heap.size 59 i0 _ 7 56 Tryz.underlying33 hi hz0' hz1' hz2' rfl (by decide) u10 _ _ rfl (gI (ab HLo) _) ⟨w5.heap.size,0,none⟩ 1 1 [.int .i64 x1,.int .i64 x2,.int .i64 x3,.int .i64 x4,.int .i64 x5,.int .i64 xa,.int .i64 xb] rfl rfl (fR w5.drew _ _ _ _ _ _ _ _) (nT) (by rw[List.length_map];unfold maxLen;omega) (nL) hbw.size ?_
     intro v6 w6 hown ml hat
     have hge9:=ae (fun b9 (e9:(u10:Value).ownBlock=some b9)=>aE (ab HLo) b9 e9)
     have HLa:=gI (ab HLo) (.cells #[.int .i64 x1,.int .i64 x2,.int .i64 x3,.int .i64 x4,.int .i64 x5,.int .i64 xa,.int .i64 xb] 59)
     replace bJ:=(ml.block (w.heap.size) (Array.getElem?_eq_some_iff.1 bJ).1 (fun e9=>af HLa bJ (by decide) e9.symm)).trans bJ
     replace bS:=(ml.block (w.heap.size+1) (Array.getElem?_eq_some_iff.1 bS).1 (fun e9=>af HLa bS (by decide) e9.symm)).trans bS
     replace bI:=(ml.block (w.heap.size+1+1) (Array.getElem?_eq_some_iff.1 bI).1 (fun e9=>af HLa bI (by decide) e9.symm)).trans bI
     replace bR:=(ml.block (w.heap.size+1+1+1) (Array.getElem?_eq_some_iff.1 bR).1 (fun e9=>af HLa bR (by decide) e9.symm)).trans bR
     have hrow6:dB w6 gw (ow+i2*2) (⟨xa,xb⟩:dp):=hrow.grown ml (fun e9=>cf (ab HWo) (ab HLo) (by decide) (k:=gw) rfl e9.symm)
     replace hbw:Below w.heap.size w w6:=hbw.grown ml (by have:=hbw.size;omega) (fun b9 e9=>ab hge9 b9 e9)
     replace HSa:=ae (ia (jH (ab HSa) hba) HLa ml (by decide))
     replace HPo:=ae (cU (aJ (ab HPo) (aB hba) (fun _ e9=>by cases e9)) ml (fun k9 e8 e9=>cf (ab HPo) (ab HLo) (by decide) e9 e8))
     replace HWo:=ae (cU (aJ (ab HWo) (aB hba) (fun _ e9=>by cases e9)) ml (fun k9 e8 e9=>cf (ab HWo) (ab HLo) (by decide) e9 e8))
     replace HLo:Hid (bT w6 w.heap.size v6 ((ls++[(⟨xa,xb⟩:dp)]).map (eH x1 x2 x3 x4 x5))):=ae (by rw[List.map_append];exact gL (x:=(eH x1 x2 x3 x4 x5) ⟨xa,xb⟩) hown)
     have hz6:w5.heap.size≤w6.heap.size:=Nat.le_trans hba.size ml.size
     clear hHeld
     refine hK.out _ _ ?_ (fun hHeld=>?_)
     ·((try dsimp only);exact⟨bI,hrow6⟩)
     clear hK K
     try simp only[Act.put,tA,tZ,tS]
     refine rD 9 (fun K hK=>?_)
     go_simp
     clear hHeld
     refine hK.out _ _ ?_ (fun hHeld=>?_)
     ·((try dsimp only);exact⟨bI,hrow6⟩)
     clear hK K
     try simp only[Act.put,tA,tZ,tS]
     refine wpAnyH_done (oc) ?_ _
     clear hHeld hown ml hat hge9 HLa hrow hrow6 hba
     go_wp2
     exact⟨⟨i2+1,b1,b2,b3,ys2,ps++ps2,ls++[⟨xa,xb⟩],by omega,by go_num,HFo2,HB2,hys2,HPl2,ae (by rw[List.length_append];have:=ab HLl;simp;omega),HPo,HLo,HSa,HWo,bJ,bS,bI,bR,hbw,by omega⟩,by simp[intOf];omega⟩
  ·obtain rfl:i2=nw:=by omega
   rw[List.take_of_length_le (by rw[ab HNw];exact Nat.le_refl _)]at HFo
   rw[←ab HRR]at HFo
   obtain⟨s0,s1⟩:=Go.Proofs.YtdmhihcipkhecaaGreat.c2 bS
   obtain⟨r0,r1⟩:=Go.Proofs.YtdmhihcipkhecaaGreat.c2 bR
   obtain⟨rf0,rf1⟩:=f2 bR
   have zr9:w.heap.size+1+1+1<wr.heap.size:=by omega
   have hSF:Hid (cg w ((wr.setCell ⟨w.heap.size+1+1+1,0,none⟩ (.int .i64 m)).setCell ⟨w.heap.size+1+1+1,1,none⟩ (.slice a' n' c')) a len cap (.slice a' n' c') xs ys):=ae (ei (ei (ab HSa) bR (by decide)) (Joins.block_setCell bR _) (by decide))
   have hPF:=ae (al (p:=⟨w.heap.size+1+1+1,1,none⟩) (u:=(.slice a' n' c')) (al (p:=⟨w.heap.size+1+1+1,0,none⟩) (u:= .int .i64 m) (ab HPo) (af (ab HPo) bR (by decide))) (af (ab HPo) bR (by decide)))
   have hLF:=ae (al (p:=⟨w.heap.size+1+1+1,1,none⟩) (u:=(.slice a' n' c')) (al (p:=⟨w.heap.size+1+1+1,0,none⟩) (u:= .int .i64 m) (ab HLo) (af (ab HLo) bR (by decide))) (af (ab HLo) bR (by decide)))
   have hBF:Hid (Below w.heap.size w ((wr.setCell ⟨w.heap.size+1+1+1,0,none⟩ (.int .i64 m)).setCell ⟨w.heap.size+1+1+1,1,none⟩ (.slice a' n' c'))):=ae (av (av hbw (sA) _) (sA) _)
   clear bJ bS bI bR HPo HLo HWo HSa
   go_wp2
   refine bodyPost_ret (v:= .tuple #[.agg #[.int .i64 m,(.slice a' n' c')],u9,u10]) (by simp(maxDischargeDepth:=9) [results,Tryz.results32,go_sem, *]) rfl ?_
   rw[ab HFo]
   exact⟨_,_,_,rfl,ab hSF,ab hPF,ab hLF,ab hBF⟩
end Go.Proofs.YtdmhihcipkhecaaGreat
