/- Laid together: what the claim needs of the texts that were built one by one. -/
import Derived.Test.YtdmhihcipkhecaaGreatT9
import Derived.Maps.AppendAt
import Derived.Deep.DeepCutAuto
import Derived.Test.YtdmhihcipkhecaaGreatT0
set_option linter.unusedVariables false
namespace Go.Proofs.YtdmhihcipkhecaaGreat
open Go.ChangeShapes Go.WideShapes Go.ChangeAt Go.RowKit Go.Shelf Go.Maps
set_option linter.unusedSimpArgs false
theorem cU{W W':World}{row:Option Nat}{B size n:Nat}{e:TypeId}{v:Value}{ys:List Value}(h:W.ownsRow B e size v n ys)(hg:W.grownBy W' row)(hne:∀k,row=some k→v.ownBlock≠some k):W'.ownsRow B e size v n ys:=by
 rcases h with⟨hl,h|⟨q,cap,cur,rfl,hB,hblk,r⟩⟩
 ·exact⟨hl,Or.inl h⟩
 ·exact⟨hl,Or.inr ⟨q,cap,cur,rfl,hB,(hg.block q (Array.getElem?_eq_some_iff.1 hblk).1 (fun e9=>hne q e9.symm rfl)).trans hblk,r⟩⟩
def NeB(u v:Value):Prop:=∀k,u.ownBlock=some k→v.ownBlock≠some k
theorem NeB.symm{u v:Value}(h:NeB u v):NeB v u:=fun k hv hu=>h k hu hv
theorem cV{P:Program}{w:World}{ops:Array Oper}{rest:List Oper}{o:Oper}{a:Act}{Q:Exit→Act→World→Prop}(hgd:o.guard=none)(s x:Operand)(t:TypeId)
  (ho:o.op= .call {callee:= .builtin .append,args:=#[s,x],argTypes:=#[t,t]})
  (base:Nat) (e:TypeId) (i:TypeInfo) (z:Value) (size bytes:Nat) (ht:P.underlying t=some (.slice e)) (hi:P.info? e=some i) (hz:i.zero=some z)
  (hsize:i.size=size) (hby:i.bytes=bytes) (hzs:z.cells.size=size) (hsz:0<size)
  (v:Value) (n:Nat) (xs:List Value) (hs:a.eval s=v) (hown:w.ownsRow base e size v n xs)
  (ad:Addr) (m c:Nat) (news:List Value) (hx:a.eval x= .slice (some ad) m c) (hl:news.length=m*size) (hnews:∀j u,news[j]? =some u→w.cell? (ad.add j)=some u) (h1:∀u ∈ news,u.oneCell'=true)
  (h63:n+m≤maxLen) (hbytes:(n+m)*bytes≤140737488355328) (hbase:base≤w.heap.size)
  (h:∀v' w',w'.ownsRow base e size v' (n+m) (xs++news)→w.grownBy w' v.ownBlock→(v'.ownBlock=v.ownBlock∨v'.ownBlock=some w.heap.size)→wpList P ops Q rest (a.put o.dst v') w'):wpList P ops Q (o :: rest) a w:=
 wpList_plain hgd fun _ hK=>by
  obtain⟨v',w',hr,h2,h3,_,h4⟩:=run_append_own_at (P:=P) w base t o.type e i z size bytes ht hi hz hsize hby hzs hsz v n xs hown ad m c news hl hnews h1 h63 hbytes hbase
  unfold Oper.wp execOp
  simp only[ho,resolve,invoke,builtin,Sem.run_bind,Sem.run_pure,Result.andThen_ok,List.map_toArray,List.map_cons,List.map_nil,hs,hx,hr]
  exact hK _ _ (h v' w' h2 h3 h4)
theorem dt{p:aC→Bool}{xs:List aC}{i:Nat}{x:aC}(h:xs[i]? =some x):(xs.take (i+1)).filter p=(xs.take i).filter p++(if p x=true then [x]else []):=by
 rw[List.take_add_one,h,List.filter_append]
 simp only[Option.toList,List.filter_cons,List.filter_nil]
theorem spn_snoc(st en:Int)(old:List aC)(x:aC):dq st en (old++[x])=(ft (dq st en old).1 x.st,fp (dq st en old).2 x.en):=by
 unfold dq
 rw[List.foldl_append]
 rfl
theorem specspan_is(a b c d:Int)(w:World){p q:Int}(h:Hid ((ft a c,fp b d)=(p,q))):Calls Tryz.prog 87 #[.agg #[.int .i64 a,.int .i64 b],.agg #[.int .i64 c,.int .i64 d]] w fun e w'=>e= .returned (.agg #[.int .i64 p,.int .i64 q])∧Below w.heap.size w w':=by
 have h9:=ab h
 simp only[Prod.mk.injEq]at h9
 obtain⟨rfl,rfl⟩:=h9
 exact kX a b c d w
theorem lA(a b c d:Int)(w:World){o:Bool}(h:Hid (bg a b c d=o)):Calls Tryz.prog 40 #[.agg #[.int .i64 a,.int .i64 b],.agg #[.int .i64 c,.int .i64 d]] w fun e w'=>e= .returned (.bool o)∧Below w.heap.size w w':=by
 have h9:=ab h
 subst h9
 exact dA a b c d w
theorem cf{W:World}{B B' size size' n n':Nat}{e e':TypeId}{v v':Value}{ys ys':List Value}(h:W.ownsRow B e size v n ys)(h':W.ownsRow B' e' size' v' n' ys')(hne:e≠e'){k:Nat}(h1:v.ownBlock=some k)(h2:v'.ownBlock=some k):False:=by
 rcases h'.2 with⟨rfl,_⟩|⟨g,cap,cur,rfl,_,hgb,_⟩
 ·simp[Value.ownBlock]at h2
 ·have e9:g=k:=by simpa[Value.ownBlock]using h2
  subst e9
  exact af h hgb (fun e8=>hne e8.symm) h1
theorem gI{W:World}{B size n:Nat}{e:TypeId}{v:Value}{ys:List Value}(h:W.ownsRow B e size v n ys)(o:Obj):(W.drew.alloc o).ownsRow B e size v n ys:=World.ownsRow.alloc (show W.drew.ownsRow B e size v n ys from h) o
theorem own_nn{W:World}{B size n:Nat}{e:TypeId}{v:Value}{ys:List Value}(h:W.ownsRow B e size v n ys)(hk:∃k,v.ownBlock=some k):NnS v:=by
 rcases h.2 with⟨rfl,_⟩|⟨g,cap,cur,rfl,_⟩
 ·obtain⟨k,hk⟩:=hk
  simp[Value.ownBlock]at hk
 ·exact⟨_,_,_,rfl⟩
theorem own_n{W:World}{B:Nat}{a:Option Addr}{n c:Nat}{ps:List cY}(h:aR W B (.slice a n c) ps):n=ps.length:=by
 obtain⟨a',c',e9⟩:=dr h
 simp only[Value.slice.injEq]at e9
 exact e9.2.1
theorem gW{W:World}{B size n c:Nat}{e:TypeId}{q:Addr}{ys:List Value}(h:W.ownsRow B e size (.slice (some q) n c) n ys):∀j u,ys[j]? =some u→W.cell? (q.add j)=some u:=by
 intro j u hu
 obtain⟨hl,h|⟨g,cap,cur,hv,hB,hblk,hnc,hcm,hsz,htk⟩⟩:=h
 ·cases h.1
 ·simp only[Value.slice.injEq,Option.some.injEq]at hv
  obtain⟨rfl,_,_⟩:=hv
  have hj:j<n*size:=by have:=(List.getElem?_eq_some_iff.1 hu).1;omega
  rw[show(⟨g,0,none⟩:Addr).add j=⟨g,j,none⟩from(by simp[Addr.add];intro h9;exact h9.symm),cA hblk j,←Array.getElem?_toList]
  rw[←htk,List.getElem?_take_of_lt hj]at hu
  exact hu
theorem jB(ps:List cY):∀u ∈ bs ps,u.oneCell'=true:=by
 intro u hu
 simp only[bs,List.mem_flatMap]at hu
 obtain⟨x,_,hx⟩:=hu
 simp[cY.cells]at hx
 rcases hx with rfl|rfl|rfl|rfl|rfl|rfl|rfl|rfl|rfl<;>rfl
theorem iA{W:World}{B:Nat}{v:Value}{xs ys:List cY}(h:W.ownsRow B 52 9 v (xs.length+ys.length) (bs xs++bs ys)):aR W B v (xs++ys):=by
 unfold aR
 rw[List.length_append,show bs (xs++ys)=bs xs++bs ys from by simp[bs]]
 exact h
theorem ja{W:World}{B:Nat}{a:Option Addr}{n c:Nat}{ys:List aC}(h:aS W B (.slice a n c) ys)(hl:ys.length≤1048576):cO W a n ys:=by
 obtain⟨a',c',e9,h9,_⟩:=eo h hl
 simp only[Value.slice.injEq]at e9
 obtain⟨rfl,rfl,rfl⟩:=e9
 exact h9
theorem specboth_is(n s l m n' s' l' m':Int)(w:World){g1 g2 g3 g4:Int}(h:Hid (eN (n,s,l,m) (n',s',l',m')=(g1,g2,g3,g4))):Calls Tryz.prog 88 #[.agg #[.int .i64 n,.int .i64 s,.int .i64 l,.int .i64 m],.agg #[.int .i64 n',.int .i64 s',.int .i64 l',.int .i64 m']] w fun e w'=>e= .returned (.agg #[.int .i64 g1,.int .i64 g2,.int .i64 g3,.int .i64 g4])∧Below w.heap.size w w':=by
 have h9:=ab h
 unfold eN at h9
 simp only[Prod.mk.injEq]at h9
 obtain⟨rfl,rfl,rfl,rfl⟩:=h9
 exact gR n s l m n' s' l' m' w
theorem gY(xs:List aC):(dj xs).length≤xs.length:=by
 unfold dj
 rw[List.length_map]
 exact List.length_filter_le _ _
theorem gon_yes{xs:List aC}{i:Nat}{x:aC}(h:xs[i]? =some x)(hp:0<x.td):dj (xs.take (i+1))=dj (xs.take i)++[gonX x]:=by
 unfold dj
 rw[dt h,if_pos (by simpa using hp),List.map_append]
 rfl
theorem gon_no{xs:List aC}{i:Nat}{x:aC}(h:xs[i]? =some x)(hp:¬ 0<x.td):dj (xs.take (i+1))=dj (xs.take i):=by
 unfold dj
 rw[dt h,if_neg (by simpa using hp),List.append_nil]
theorem jb{W:World}{g gq o k:Nat}{x:aC}{v:Value}(h:dm W gq o x)(hne:g≠gq):dm (W.setCell ⟨g,k,none⟩ v) gq o x:=by
 have e9:∀j,(W.setCell ⟨g,k,none⟩ v).cell? ⟨gq,j,none⟩=W.cell? ⟨gq,j,none⟩:=fun j=>World.cell?_setCell_other _ _ _ _ (by intro e;injection e with e1 e2;exact hne e1)
 unfold dm at*
 simp only[e9]
 exact h
theorem tl_len(pc:Bool)(m:Int)(xs:List aC)(x:aC):(eC pc m xs x).2.length≤1:=by unfold eC;split<;>simp
theorem lB{w w':World}{a:Option Addr}{len cap:Nat}{v:Value}{xs ys:List aC}(h:cg w w' a len cap v xs ys):∃a1 n1 c1,v= .slice a1 n1 c1:=by
 rcases h with⟨rfl,_⟩|h
 ·exact⟨_,_,_,rfl⟩
 ·obtain⟨a1,c1,rfl⟩:=dr h
  exact⟨_,_,_,rfl⟩
theorem same_up{w w1 w':World}{a:Option Addr}{len cap:Nat}{v:Value}{xs ys:List aC}(h:cg w1 w' a len cap v xs ys)(hz:w.heap.size≤w1.heap.size):cg w w' a len cap v xs ys:=by
 rcases h with h|h
 ·exact .inl h
 ·exact .inr (World.ownsRow.mono h hz)
theorem ei{w w':World}{a:Option Addr}{len cap:Nat}{v u:Value}{xs ys:List aC}{p:Addr}{cs:Array Value}{ty:TypeId}(h:cg w w' a len cap v xs ys)(hb:w'.heap[p.block]? =some (.cells cs ty (0,0)))(hne:ty≠57):cg w (w'.setCell p u) a len cap v xs ys:=by
 rcases h with h|h
 ·exact .inl h
 ·exact .inr (al h (af h hb hne))
theorem hiI_bd{a b:Int}(h1:0≤a∧a≤1000)(h2:0≤b∧b≤1000):0≤fp a b∧fp a b≤1000:=by unfold fp;split<;>omega
set_option maxRecDepth 100000 in
set_option maxHeartbeats 8000000 in
theorem l7ses_any(s t k z q l e:Int)(b:Bool)(v r m:Int)(a:Option Addr)(len cap:Nat)(xs:List aC)(x1 x2 x3 x4 x5 ws we:Int)(w:World)(h:cO w a len xs)(hlen:len≤800)(hl:0≤l∧l≤20)(hwe:0≤we∧we≤1000)(hxs:∀x ∈ xs,(0≤x.en∧x.en≤1000)∧0≤x.td∧x.td≤100000):Calls Tryz.prog 63 #[.agg #[.int .i64 s,.int .i64 t,.int .i64 k,.int .i64 z,.int .i64 q,.int .i64 l,.int .i64 e,.bool b,.int .i64 v,.int .i64 r],.agg #[.int .i64 m,.slice a len cap],.agg #[.int .i64 x1,.int .i64 x2,.int .i64 x3,.int .i64 x4,.int .i64 x5],.agg #[.int .i64 ws,.int .i64 we]] w fun e' w'=>∃v1 v2,e'= .returned (.tuple #[.agg #[.int .i64 m,v1],v2,.bool (ku b l m xs x3 x4 ws we).2.2])∧cg w w' a len cap v1 xs (ku b l m xs x3 x4 ws we).1∧aR w' w.heap.size v2 (ku b l m xs x3 x4 ws we).2.1∧Below w.heap.size w w'∧NnS v2:=by
 obtain⟨i0,hi,hz0',hz1',hz2'⟩:=info_parts Tryz.infoOr
 obtain⟨i1,hi1,hy0,hy1,hy2⟩:=info_parts Tryz.infoPn
 have hxl:=h.1
 have hbE:Below w.heap.size w (((((w.alloc (.cells #[.int .i64 s,.int .i64 t,.int .i64 k,.int .i64 z,.int .i64 q,.int .i64 l,.int .i64 e,.bool b,.int .i64 v,.int .i64 r] 24)).alloc (.cells #[.int .i64 m,.slice a len cap] 27)).alloc (.cells #[.int .i64 x1,.int .i64 x2,.int .i64 x3,.int .i64 x4,.int .i64 x5] 29)).alloc (.cells #[.int .i64 ws,.int .i64 we] 48)).alloc (.cells #[.int .i64 0,.slice none 0 0] 27)):=ag (ag (ag (ag (aq _ _) _) _) _) _
 have HE:=ae (h.below hbE)
 have eJ:(((((w.alloc (.cells #[.int .i64 s,.int .i64 t,.int .i64 k,.int .i64 z,.int .i64 q,.int .i64 l,.int .i64 e,.bool b,.int .i64 v,.int .i64 r] 24)).alloc (.cells #[.int .i64 m,.slice a len cap] 27)).alloc (.cells #[.int .i64 x1,.int .i64 x2,.int .i64 x3,.int .i64 x4,.int .i64 x5] 29)).alloc (.cells #[.int .i64 ws,.int .i64 we] 48)).alloc (.cells #[.int .i64 0,.slice none 0 0] 27)).heap[w.heap.size]? =some (.cells #[.int .i64 s,.int .i64 t,.int .i64 k,.int .i64 z,.int .i64 q,.int .i64 l,.int .i64 e,.bool b,.int .i64 v,.int .i64 r] 24 (0,0)):=aN<|aN<|aN<|aN<|nA
 have eS:(((((w.alloc (.cells #[.int .i64 s,.int .i64 t,.int .i64 k,.int .i64 z,.int .i64 q,.int .i64 l,.int .i64 e,.bool b,.int .i64 v,.int .i64 r] 24)).alloc (.cells #[.int .i64 m,.slice a len cap] 27)).alloc (.cells #[.int .i64 x1,.int .i64 x2,.int .i64 x3,.int .i64 x4,.int .i64 x5] 29)).alloc (.cells #[.int .i64 ws,.int .i64 we] 48)).alloc (.cells #[.int .i64 0,.slice none 0 0] 27)).heap[w.heap.size+1]? =some (.cells #[.int .i64 m,.slice a len cap] 27 (0,0)):=aN<|aN<|aN<|nA
 have eI:(((((w.alloc (.cells #[.int .i64 s,.int .i64 t,.int .i64 k,.int .i64 z,.int .i64 q,.int .i64 l,.int .i64 e,.bool b,.int .i64 v,.int .i64 r] 24)).alloc (.cells #[.int .i64 m,.slice a len cap] 27)).alloc (.cells #[.int .i64 x1,.int .i64 x2,.int .i64 x3,.int .i64 x4,.int .i64 x5] 29)).alloc (.cells #[.int .i64 ws,.int .i64 we] 48)).alloc (.cells #[.int .i64 0,.slice none 0 0] 27)).heap[w.heap.size+1+1]? =some (.cells #[.int .i64 x1,.int .i64 x2,.int .i64 x3,.int .i64 x4,.int .i64 x5] 29 (0,0)):=aN<|aN<|nA
 have eW:(((((w.alloc (.cells #[.int .i64 s,.int .i64 t,.int .i64 k,.int .i64 z,.int .i64 q,.int .i64 l,.int .i64 e,.bool b,.int .i64 v,.int .i64 r] 24)).alloc (.cells #[.int .i64 m,.slice a len cap] 27)).alloc (.cells #[.int .i64 x1,.int .i64 x2,.int .i64 x3,.int .i64 x4,.int .i64 x5] 29)).alloc (.cells #[.int .i64 ws,.int .i64 we] 48)).alloc (.cells #[.int .i64 0,.slice none 0 0] 27)).heap[w.heap.size+1+1+1]? =some (.cells #[.int .i64 ws,.int .i64 we] 48 (0,0)):=aN<|nA
 have eR:(((((w.alloc (.cells #[.int .i64 s,.int .i64 t,.int .i64 k,.int .i64 z,.int .i64 q,.int .i64 l,.int .i64 e,.bool b,.int .i64 v,.int .i64 r] 24)).alloc (.cells #[.int .i64 m,.slice a len cap] 27)).alloc (.cells #[.int .i64 x1,.int .i64 x2,.int .i64 x3,.int .i64 x4,.int .i64 x5] 29)).alloc (.cells #[.int .i64 ws,.int .i64 we] 48)).alloc (.cells #[.int .i64 0,.slice none 0 0] 27)).heap[w.heap.size+1+1+1+1]? =some (.cells #[.int .i64 0,.slice none 0 0] 27 (0,0)):=nA
 obtain⟨⟨n1,n2,n3,n4⟩,hg⟩:∃g,dU (0,0,0,0) x4=g:=⟨_,rfl⟩
 have HG:=ae hg
 clear hg
 go_enter Tryz.func63,Tryz.ntmps63
 go_upto_region 1 with fail
 go_cut [11] (fun pv W=>∃g,pv= .pointer (some ⟨g,0,none⟩)∧w.heap.size+1+1+1+1+1≤g∧g<W.heap.size∧W.heap[g]? =some (.cells #[.int .i64 x3,.int .i64 ws,.int .i64 we,.int .i64 n1,.int .i64 n2,.int .i64 n3,.int .i64 n4,.int .i64 n1,.int .i64 n2,.int .i64 n3,.int .i64 n4,.int .i64 0,.bool false] 57 (0,0))∧W.heap[w.heap.size]? =some (.cells #[.int .i64 s,.int .i64 t,.int .i64 k,.int .i64 z,.int .i64 q,.int .i64 l,.int .i64 e,.bool b,.int .i64 v,.int .i64 r] 24 (0,0))∧W.heap[w.heap.size+1]? =some (.cells #[.int .i64 m,.slice a len cap] 27 (0,0))∧W.heap[w.heap.size+1+1]? =some (.cells #[.int .i64 x1,.int .i64 x2,.int .i64 x3,.int .i64 x4,.int .i64 x5] 29 (0,0))∧W.heap[w.heap.size+1+1+1]? =some (.cells #[.int .i64 ws,.int .i64 we] 48 (0,0))∧W.heap[w.heap.size+1+1+1+1]? =some (.cells #[.int .i64 0,.slice none 0 0] 27 (0,0))∧Below w.heap.size w W)
 case first=>
  go_wp2_with fail
  have bJ:=eJ
  have bS:=eS
  have bI:=eI
  have bW:=eW
  have bR:=eR
  have hb:=ap hbE
  have hw0:(((((w.alloc (.cells #[.int .i64 s,.int .i64 t,.int .i64 k,.int .i64 z,.int .i64 q,.int .i64 l,.int .i64 e,.bool b,.int .i64 v,.int .i64 r] 24)).alloc (.cells #[.int .i64 m,.slice a len cap] 27)).alloc (.cells #[.int .i64 x1,.int .i64 x2,.int .i64 x3,.int .i64 x4,.int .i64 x5] 29)).alloc (.cells #[.int .i64 ws,.int .i64 we] 48)).alloc (.cells #[.int .i64 0,.slice none 0 0] 27)).drew.heap.size=w.heap.size+1+1+1+1+1:=by simp
  clear eJ eS eI eW eR hbE
  refine wp_region_held_drew (S:=(fun W=>W.heap[w.heap.size+1+1]? =some (.cells #[.int .i64 x1,.int .i64 x2,.int .i64 x3,.int .i64 x4,.int .i64 x5] 29 (0,0))∧W.heap[w.heap.size+1+1+1]? =some (.cells #[.int .i64 ws,.int .i64 we] 48 (0,0)))) (oc) ?_ (fun hHeld=>?_)
  ·((try dsimp only);exact⟨bI,bW⟩)
  refine kV 0 ?_
  refine kT 1 ?_ ?_ ?_
  rotate_left
  ·(intro w9 hSw;(try dsimp only at hSw);obtain⟨q0,q1⟩:=hSw;obtain⟨g0x0,g0x1,g0x2,g0x3,g0x4⟩:=c5 q0;go_simp<;>with_reducible rfl)
  try simp only[Act.put,tA,tZ,tS]
  refine kT 2 ?_ ?_ ?_
  rotate_left
  ·(intro w9 hSw;(try dsimp only at hSw);obtain⟨q0,q1⟩:=hSw;obtain⟨g1x0,g1x1⟩:=Go.Proofs.YtdmhihcipkhecaaGreat.c2 q1;go_simp<;>with_reducible rfl)
  try simp only[Act.put,tA,tZ,tS]
  refine kV 3 ?_
  refine kV 4 ?_
  refine kT 5 ?_ ?_ ?_
  rotate_left
  ·(intro w9 hSw;(try dsimp only at hSw);obtain⟨q0,q1⟩:=hSw;obtain⟨g0x0,g0x1,g0x2,g0x3,g0x4⟩:=c5 q0;go_simp<;>with_reducible rfl)
  try simp only[Act.put,tA,tZ,tS]
  refine kV 7 ?_
  refine kV 8 ?_
  refine kT 9 ?_ ?_ ?_
  rotate_left
  ·(intro w9 hSw;(try dsimp only at hSw);obtain⟨q0,q1⟩:=hSw;obtain⟨g0x0,g0x1,g0x2,g0x3,g0x4⟩:=c5 q0;go_simp<;>with_reducible rfl)
  try simp only[Act.put,tA,tZ,tS]
  refine wpAnyH_ready (rs:=[6,12]) (oc) (by simp) ?_
  refine AllReadyH.cons (nP) (fun K hK=>?_) ?_
  ·skip
   go_simp
   (go_at_call 86;refine(dE 0 0 0 0 x4 _ HG).mono ?_;rintro e9 wa ⟨rfl,hbwa⟩)
   (try go_wp2_with fail)
   have zwa:=hbwa.size
   (try simp at zwa)
   replace bJ:=(hbwa.block (w.heap.size) (sB)).trans bJ
   replace bS:=(hbwa.block (w.heap.size+1) (sB)).trans bS
   replace bI:=(hbwa.block (w.heap.size+1+1) (sB)).trans bI
   replace bW:=(hbwa.block (w.heap.size+1+1+1) (sB)).trans bW
   replace bR:=(hbwa.block (w.heap.size+1+1+1+1) (sB)).trans bR
   replace hb:=am hb hbwa
   clear hHeld
   refine hK.out _ _ ?_ (fun hHeld=>?_)
   ·((try dsimp only);exact⟨bI,bW⟩)
   clear hK K
   try simp only[Act.put,tA,tZ,tS]
   refine wpAnyH_ready (rs:=[10,12]) (oc) (by simp) ?_
   refine AllReadyH.cons (nP) (fun K hK=>?_) ?_
   ·skip
    go_simp
    (go_at_call 86;refine(dE 0 0 0 0 x4 _ HG).mono ?_;rintro e9 wb ⟨rfl,hbwb⟩)
    (try go_wp2_with fail)
    have zwb:=hbwb.size
    (try simp at zwb)
    replace bJ:=(hbwb.block (w.heap.size) (sB)).trans bJ
    replace bS:=(hbwb.block (w.heap.size+1) (sB)).trans bS
    replace bI:=(hbwb.block (w.heap.size+1+1) (sB)).trans bI
    replace bW:=(hbwb.block (w.heap.size+1+1+1) (sB)).trans bW
    replace bR:=(hbwb.block (w.heap.size+1+1+1+1) (sB)).trans bR
    replace hb:=am hb hbwb
    clear hHeld
    refine hK.out _ _ ?_ (fun hHeld=>?_)
    ·((try dsimp only);exact⟨bI,bW⟩)
    clear hK K
    try simp only[Act.put,tA,tZ,tS]
    refine kV 11 ?_
    refine wpAnyH_ready (rs:=[12]) (oc) (by simp) ?_
    refine AllReadyH.cons (nP) (fun K hK=>?_) ?_
    ·skip
     go_simp
     replace bJ:=(Below.heap_alloc wb (.cells #[.int .i64 0,.int .i64 0,.int .i64 0,.int .i64 0,.int .i64 0,.int .i64 0,.int .i64 0,.int .i64 0,.int .i64 0,.int .i64 0,.int .i64 0,.int .i64 0,.bool false] 57) (w.heap.size) (sB)).trans bJ
     replace bS:=(Below.heap_alloc wb (.cells #[.int .i64 0,.int .i64 0,.int .i64 0,.int .i64 0,.int .i64 0,.int .i64 0,.int .i64 0,.int .i64 0,.int .i64 0,.int .i64 0,.int .i64 0,.int .i64 0,.bool false] 57) (w.heap.size+1) (sB)).trans bS
     replace bI:=(Below.heap_alloc wb (.cells #[.int .i64 0,.int .i64 0,.int .i64 0,.int .i64 0,.int .i64 0,.int .i64 0,.int .i64 0,.int .i64 0,.int .i64 0,.int .i64 0,.int .i64 0,.int .i64 0,.bool false] 57) (w.heap.size+1+1) (sB)).trans bI
     replace bW:=(Below.heap_alloc wb (.cells #[.int .i64 0,.int .i64 0,.int .i64 0,.int .i64 0,.int .i64 0,.int .i64 0,.int .i64 0,.int .i64 0,.int .i64 0,.int .i64 0,.int .i64 0,.int .i64 0,.bool false] 57) (w.heap.size+1+1+1) (sB)).trans bW
     replace bR:=(Below.heap_alloc wb (.cells #[.int .i64 0,.int .i64 0,.int .i64 0,.int .i64 0,.int .i64 0,.int .i64 0,.int .i64 0,.int .i64 0,.int .i64 0,.int .i64 0,.int .i64 0,.int .i64 0,.bool false] 57) (w.heap.size+1+1+1+1) (sB)).trans bR
     have bG:=World.alloc_heap_new wb (.cells #[.int .i64 0,.int .i64 0,.int .i64 0,.int .i64 0,.int .i64 0,.int .i64 0,.int .i64 0,.int .i64 0,.int .i64 0,.int .i64 0,.int .i64 0,.int .i64 0,.bool false] 57)
     have hbl:=hb
     replace hb:=ag hb (.cells #[.int .i64 0,.int .i64 0,.int .i64 0,.int .i64 0,.int .i64 0,.int .i64 0,.int .i64 0,.int .i64 0,.int .i64 0,.int .i64 0,.int .i64 0,.int .i64 0,.bool false] 57)
     clear hHeld
     refine hK.out _ _ ?_ (fun hHeld=>?_)
     ·((try dsimp only);exact⟨bI,bW⟩)
     clear hK K
     try simp only[Act.put,tA,tZ,tS]
     refine wpAnyH_ready (rs:=[13]) (oc) (by simp) ?_
     refine AllReadyH.cons (nP) (fun K hK=>?_) ?_
     ·skip
      have hbx:Below wb.heap.size (wb.alloc (.cells #[.int .i64 0,.int .i64 0,.int .i64 0,.int .i64 0,.int .i64 0,.int .i64 0,.int .i64 0,.int .i64 0,.int .i64 0,.int .i64 0,.int .i64 0,.int .i64 0,.bool false] 57)) (wb.alloc (.cells #[.int .i64 x3,.int .i64 ws,.int .i64 we,.int .i64 n1,.int .i64 n2,.int .i64 n3,.int .i64 n4,.int .i64 n1,.int .i64 n2,.int .i64 n3,.int .i64 n4,.int .i64 0,.bool false] 57)):=bel_re wb _ _
      have mJ:(wb.alloc (.cells #[.int .i64 x3,.int .i64 ws,.int .i64 we,.int .i64 n1,.int .i64 n2,.int .i64 n3,.int .i64 n4,.int .i64 n1,.int .i64 n2,.int .i64 n3,.int .i64 n4,.int .i64 0,.bool false] 57)).heap[w.heap.size]? =some (.cells #[.int .i64 s,.int .i64 t,.int .i64 k,.int .i64 z,.int .i64 q,.int .i64 l,.int .i64 e,.bool b,.int .i64 v,.int .i64 r] 24 (0,0)):=(hbx.block (w.heap.size) (sB)).trans bJ
      have mS:(wb.alloc (.cells #[.int .i64 x3,.int .i64 ws,.int .i64 we,.int .i64 n1,.int .i64 n2,.int .i64 n3,.int .i64 n4,.int .i64 n1,.int .i64 n2,.int .i64 n3,.int .i64 n4,.int .i64 0,.bool false] 57)).heap[w.heap.size+1]? =some (.cells #[.int .i64 m,.slice a len cap] 27 (0,0)):=(hbx.block (w.heap.size+1) (sB)).trans bS
      have mI:(wb.alloc (.cells #[.int .i64 x3,.int .i64 ws,.int .i64 we,.int .i64 n1,.int .i64 n2,.int .i64 n3,.int .i64 n4,.int .i64 n1,.int .i64 n2,.int .i64 n3,.int .i64 n4,.int .i64 0,.bool false] 57)).heap[w.heap.size+1+1]? =some (.cells #[.int .i64 x1,.int .i64 x2,.int .i64 x3,.int .i64 x4,.int .i64 x5] 29 (0,0)):=(hbx.block (w.heap.size+1+1) (sB)).trans bI
      have mW:(wb.alloc (.cells #[.int .i64 x3,.int .i64 ws,.int .i64 we,.int .i64 n1,.int .i64 n2,.int .i64 n3,.int .i64 n4,.int .i64 n1,.int .i64 n2,.int .i64 n3,.int .i64 n4,.int .i64 0,.bool false] 57)).heap[w.heap.size+1+1+1]? =some (.cells #[.int .i64 ws,.int .i64 we] 48 (0,0)):=(hbx.block (w.heap.size+1+1+1) (sB)).trans bW
      have mR:(wb.alloc (.cells #[.int .i64 x3,.int .i64 ws,.int .i64 we,.int .i64 n1,.int .i64 n2,.int .i64 n3,.int .i64 n4,.int .i64 n1,.int .i64 n2,.int .i64 n3,.int .i64 n4,.int .i64 0,.bool false] 57)).heap[w.heap.size+1+1+1+1]? =some (.cells #[.int .i64 0,.slice none 0 0] 27 (0,0)):=(hbx.block (w.heap.size+1+1+1+1) (sB)).trans bR
      have mb:Below w.heap.size w (wb.alloc (.cells #[.int .i64 x3,.int .i64 ws,.int .i64 we,.int .i64 n1,.int .i64 n2,.int .i64 n3,.int .i64 n4,.int .i64 n1,.int .i64 n2,.int .i64 n3,.int .i64 n4,.int .i64 0,.bool false] 57)):=ag hbl _
      have mG:=World.alloc_heap_new wb (.cells #[.int .i64 x3,.int .i64 ws,.int .i64 we,.int .i64 n1,.int .i64 n2,.int .i64 n3,.int .i64 n4,.int .i64 n1,.int .i64 n2,.int .i64 n3,.int .i64 n4,.int .i64 0,.bool false] 57)
      have mz:wb.heap.size<(wb.alloc (.cells #[.int .i64 x3,.int .i64 ws,.int .i64 we,.int .i64 n1,.int .i64 n2,.int .i64 n3,.int .i64 n4,.int .i64 n1,.int .i64 n2,.int .i64 n3,.int .i64 n4,.int .i64 0,.bool false] 57)).heap.size:=by simp
      go_simp
      clear hHeld
      refine hK.out _ _ ?_ (fun hHeld=>?_)
      ·((try dsimp only);exact⟨mI,mW⟩)
      clear hK K
      try simp only[Act.put,tA,tZ,tS]
      refine wpAnyH_done (oc) ?_ _
      clear hHeld
      go_wp2_with fail
      go_meet
      exact⟨_,rfl,(sB),mz,mG,mJ,mS,mI,mW,mR,mb⟩
     exact AllReadyH.nil
    exact AllReadyH.nil
   refine AllReadyH.cons (nP) (fun K hK=>?_) ?_
   ·skip
    go_simp
    replace bJ:=(Below.heap_alloc wa (.cells #[.int .i64 0,.int .i64 0,.int .i64 0,.int .i64 0,.int .i64 0,.int .i64 0,.int .i64 0,.int .i64 0,.int .i64 0,.int .i64 0,.int .i64 0,.int .i64 0,.bool false] 57) (w.heap.size) (sB)).trans bJ
    replace bS:=(Below.heap_alloc wa (.cells #[.int .i64 0,.int .i64 0,.int .i64 0,.int .i64 0,.int .i64 0,.int .i64 0,.int .i64 0,.int .i64 0,.int .i64 0,.int .i64 0,.int .i64 0,.int .i64 0,.bool false] 57) (w.heap.size+1) (sB)).trans bS
    replace bI:=(Below.heap_alloc wa (.cells #[.int .i64 0,.int .i64 0,.int .i64 0,.int .i64 0,.int .i64 0,.int .i64 0,.int .i64 0,.int .i64 0,.int .i64 0,.int .i64 0,.int .i64 0,.int .i64 0,.bool false] 57) (w.heap.size+1+1) (sB)).trans bI
    replace bW:=(Below.heap_alloc wa (.cells #[.int .i64 0,.int .i64 0,.int .i64 0,.int .i64 0,.int .i64 0,.int .i64 0,.int .i64 0,.int .i64 0,.int .i64 0,.int .i64 0,.int .i64 0,.int .i64 0,.bool false] 57) (w.heap.size+1+1+1) (sB)).trans bW
    replace bR:=(Below.heap_alloc wa (.cells #[.int .i64 0,.int .i64 0,.int .i64 0,.int .i64 0,.int .i64 0,.int .i64 0,.int .i64 0,.int .i64 0,.int .i64 0,.int .i64 0,.int .i64 0,.int .i64 0,.bool false] 57) (w.heap.size+1+1+1+1) (sB)).trans bR
    have bG:=World.alloc_heap_new wa (.cells #[.int .i64 0,.int .i64 0,.int .i64 0,.int .i64 0,.int .i64 0,.int .i64 0,.int .i64 0,.int .i64 0,.int .i64 0,.int .i64 0,.int .i64 0,.int .i64 0,.bool false] 57)
    replace hb:=ag hb (.cells #[.int .i64 0,.int .i64 0,.int .i64 0,.int .i64 0,.int .i64 0,.int .i64 0,.int .i64 0,.int .i64 0,.int .i64 0,.int .i64 0,.int .i64 0,.int .i64 0,.bool false] 57)
    clear hHeld
    refine hK.out _ _ ?_ (fun hHeld=>?_)
    ·((try dsimp only);exact⟨bI,bW⟩)
    clear hK K
    try simp only[Act.put,tA,tZ,tS]
    refine wpAnyH_ready (rs:=[10]) (oc) (by simp) ?_
    refine AllReadyH.cons (nP) (fun K hK=>?_) ?_
    ·skip
     go_simp
     (go_at_call 86;refine(dE 0 0 0 0 x4 _ HG).mono ?_;rintro e9 wb ⟨rfl,hbwb⟩)
     (try go_wp2_with fail)
     have zwb:=hbwb.size
     (try simp at zwb)
     replace bJ:=(hbwb.block (w.heap.size) (sB)).trans bJ
     replace bS:=(hbwb.block (w.heap.size+1) (sB)).trans bS
     replace bI:=(hbwb.block (w.heap.size+1+1) (sB)).trans bI
     replace bW:=(hbwb.block (w.heap.size+1+1+1) (sB)).trans bW
     replace bR:=(hbwb.block (w.heap.size+1+1+1+1) (sB)).trans bR
     replace bG:=(hbwb.block (wa.heap.size) (sB)).trans bG
     replace hb:=am hb hbwb
     clear hHeld
     refine hK.out _ _ ?_ (fun hHeld=>?_)
     ·((try dsimp only);exact⟨bI,bW⟩)
     clear hK K
     try simp only[Act.put,tA,tZ,tS]
     refine kV 11 ?_
     refine wpAnyH_ready (rs:=[13]) (oc) (by simp) ?_
     refine AllReadyH.cons (nP) (fun K hK=>?_) ?_
     ·skip
      obtain⟨u0,u1,u2,u3,u4,u5,u6,u7,u8,u9,u10,u11,u12⟩:=eu bG
      obtain⟨uf0,uf1,uf2,uf3,uf4,uf5,uf6,uf7,uf8,uf9,uf10,uf11,uf12⟩:=f13 bG
      have t0:=Joins.block_setCell (g:=wa.heap.size) (i:=0) bG (.int .i64 x3)
      have t1:=Joins.block_setCell (g:=wa.heap.size) (i:=1) t0 (.int .i64 ws)
      have t2:=Joins.block_setCell (g:=wa.heap.size) (i:=2) t1 (.int .i64 we)
      have t3:=Joins.block_setCell (g:=wa.heap.size) (i:=3) t2 (.int .i64 n1)
      have t4:(((((wb.setCell ⟨wa.heap.size,0,none⟩ (.int .i64 x3)).setCell ⟨wa.heap.size,1,none⟩ (.int .i64 ws)).setCell ⟨wa.heap.size,2,none⟩ (.int .i64 we)).setCell ⟨wa.heap.size,3,none⟩ (.int .i64 n1)).setCell ⟨wa.heap.size,4,none⟩ (.int .i64 n2)).heap[wa.heap.size]? =some (.cells #[.int .i64 x3,.int .i64 ws,.int .i64 we,.int .i64 n1,.int .i64 n2,.int .i64 0,.int .i64 0,.int .i64 0,.int .i64 0,.int .i64 0,.int .i64 0,.int .i64 0,.bool false] 57 (0,0)):=Joins.block_setCell t3 _
      have t5:=Joins.block_setCell (g:=wa.heap.size) (i:=5) t4 (.int .i64 n3)
      have t6:=Joins.block_setCell (g:=wa.heap.size) (i:=6) t5 (.int .i64 n4)
      have t7:=Joins.block_setCell (g:=wa.heap.size) (i:=7) t6 (.int .i64 n1)
      have t8:=Joins.block_setCell (g:=wa.heap.size) (i:=8) t7 (.int .i64 n2)
      have t9:((((((((((wb.setCell ⟨wa.heap.size,0,none⟩ (.int .i64 x3)).setCell ⟨wa.heap.size,1,none⟩ (.int .i64 ws)).setCell ⟨wa.heap.size,2,none⟩ (.int .i64 we)).setCell ⟨wa.heap.size,3,none⟩ (.int .i64 n1)).setCell ⟨wa.heap.size,4,none⟩ (.int .i64 n2)).setCell ⟨wa.heap.size,5,none⟩ (.int .i64 n3)).setCell ⟨wa.heap.size,6,none⟩ (.int .i64 n4)).setCell ⟨wa.heap.size,7,none⟩ (.int .i64 n1)).setCell ⟨wa.heap.size,8,none⟩ (.int .i64 n2)).setCell ⟨wa.heap.size,9,none⟩ (.int .i64 n3)).heap[wa.heap.size]? =some (.cells #[.int .i64 x3,.int .i64 ws,.int .i64 we,.int .i64 n1,.int .i64 n2,.int .i64 n3,.int .i64 n4,.int .i64 n1,.int .i64 n2,.int .i64 n3,.int .i64 0,.int .i64 0,.bool false] 57 (0,0)):=Joins.block_setCell t8 _
      have t10:=Joins.block_setCell (g:=wa.heap.size) (i:=10) t9 (.int .i64 n4)
      have t11:=Joins.block_setCell (g:=wa.heap.size) (i:=11) t10 (.int .i64 0)
      have t12:(((((((((((((wb.setCell ⟨wa.heap.size,0,none⟩ (.int .i64 x3)).setCell ⟨wa.heap.size,1,none⟩ (.int .i64 ws)).setCell ⟨wa.heap.size,2,none⟩ (.int .i64 we)).setCell ⟨wa.heap.size,3,none⟩ (.int .i64 n1)).setCell ⟨wa.heap.size,4,none⟩ (.int .i64 n2)).setCell ⟨wa.heap.size,5,none⟩ (.int .i64 n3)).setCell ⟨wa.heap.size,6,none⟩ (.int .i64 n4)).setCell ⟨wa.heap.size,7,none⟩ (.int .i64 n1)).setCell ⟨wa.heap.size,8,none⟩ (.int .i64 n2)).setCell ⟨wa.heap.size,9,none⟩ (.int .i64 n3)).setCell ⟨wa.heap.size,10,none⟩ (.int .i64 n4)).setCell ⟨wa.heap.size,11,none⟩ (.int .i64 0)).setCell ⟨wa.heap.size,12,none⟩ (.bool false)).heap[wa.heap.size]? =some (.cells #[.int .i64 x3,.int .i64 ws,.int .i64 we,.int .i64 n1,.int .i64 n2,.int .i64 n3,.int .i64 n4,.int .i64 n1,.int .i64 n2,.int .i64 n3,.int .i64 n4,.int .i64 0,.bool false] 57 (0,0)):=Joins.block_setCell t11 _
      have mJ:(((((((((((((wb.setCell ⟨wa.heap.size,0,none⟩ (.int .i64 x3)).setCell ⟨wa.heap.size,1,none⟩ (.int .i64 ws)).setCell ⟨wa.heap.size,2,none⟩ (.int .i64 we)).setCell ⟨wa.heap.size,3,none⟩ (.int .i64 n1)).setCell ⟨wa.heap.size,4,none⟩ (.int .i64 n2)).setCell ⟨wa.heap.size,5,none⟩ (.int .i64 n3)).setCell ⟨wa.heap.size,6,none⟩ (.int .i64 n4)).setCell ⟨wa.heap.size,7,none⟩ (.int .i64 n1)).setCell ⟨wa.heap.size,8,none⟩ (.int .i64 n2)).setCell ⟨wa.heap.size,9,none⟩ (.int .i64 n3)).setCell ⟨wa.heap.size,10,none⟩ (.int .i64 n4)).setCell ⟨wa.heap.size,11,none⟩ (.int .i64 0)).setCell ⟨wa.heap.size,12,none⟩ (.bool false)).heap[w.heap.size]? =some (.cells #[.int .i64 s,.int .i64 t,.int .i64 k,.int .i64 z,.int .i64 q,.int .i64 l,.int .i64 e,.bool b,.int .i64 v,.int .i64 r] 24 (0,0)):=sN<|sN<|sN<|sN<|sN<|sN<|sN<|sN<|sN<|sN<|sN<|sN<|sN<|bJ
      have mS:(((((((((((((wb.setCell ⟨wa.heap.size,0,none⟩ (.int .i64 x3)).setCell ⟨wa.heap.size,1,none⟩ (.int .i64 ws)).setCell ⟨wa.heap.size,2,none⟩ (.int .i64 we)).setCell ⟨wa.heap.size,3,none⟩ (.int .i64 n1)).setCell ⟨wa.heap.size,4,none⟩ (.int .i64 n2)).setCell ⟨wa.heap.size,5,none⟩ (.int .i64 n3)).setCell ⟨wa.heap.size,6,none⟩ (.int .i64 n4)).setCell ⟨wa.heap.size,7,none⟩ (.int .i64 n1)).setCell ⟨wa.heap.size,8,none⟩ (.int .i64 n2)).setCell ⟨wa.heap.size,9,none⟩ (.int .i64 n3)).setCell ⟨wa.heap.size,10,none⟩ (.int .i64 n4)).setCell ⟨wa.heap.size,11,none⟩ (.int .i64 0)).setCell ⟨wa.heap.size,12,none⟩ (.bool false)).heap[w.heap.size+1]? =some (.cells #[.int .i64 m,.slice a len cap] 27 (0,0)):=sN<|sN<|sN<|sN<|sN<|sN<|sN<|sN<|sN<|sN<|sN<|sN<|sN<|bS
      have mI:(((((((((((((wb.setCell ⟨wa.heap.size,0,none⟩ (.int .i64 x3)).setCell ⟨wa.heap.size,1,none⟩ (.int .i64 ws)).setCell ⟨wa.heap.size,2,none⟩ (.int .i64 we)).setCell ⟨wa.heap.size,3,none⟩ (.int .i64 n1)).setCell ⟨wa.heap.size,4,none⟩ (.int .i64 n2)).setCell ⟨wa.heap.size,5,none⟩ (.int .i64 n3)).setCell ⟨wa.heap.size,6,none⟩ (.int .i64 n4)).setCell ⟨wa.heap.size,7,none⟩ (.int .i64 n1)).setCell ⟨wa.heap.size,8,none⟩ (.int .i64 n2)).setCell ⟨wa.heap.size,9,none⟩ (.int .i64 n3)).setCell ⟨wa.heap.size,10,none⟩ (.int .i64 n4)).setCell ⟨wa.heap.size,11,none⟩ (.int .i64 0)).setCell ⟨wa.heap.size,12,none⟩ (.bool false)).heap[w.heap.size+1+1]? =some (.cells #[.int .i64 x1,.int .i64 x2,.int .i64 x3,.int .i64 x4,.int .i64 x5] 29 (0,0)):=sN<|sN<|sN<|sN<|sN<|sN<|sN<|sN<|sN<|sN<|sN<|sN<|sN<|bI
      have mW:(((((((((((((wb.setCell ⟨wa.heap.size,0,none⟩ (.int .i64 x3)).setCell ⟨wa.heap.size,1,none⟩ (.int .i64 ws)).setCell ⟨wa.heap.size,2,none⟩ (.int .i64 we)).setCell ⟨wa.heap.size,3,none⟩ (.int .i64 n1)).setCell ⟨wa.heap.size,4,none⟩ (.int .i64 n2)).setCell ⟨wa.heap.size,5,none⟩ (.int .i64 n3)).setCell ⟨wa.heap.size,6,none⟩ (.int .i64 n4)).setCell ⟨wa.heap.size,7,none⟩ (.int .i64 n1)).setCell ⟨wa.heap.size,8,none⟩ (.int .i64 n2)).setCell ⟨wa.heap.size,9,none⟩ (.int .i64 n3)).setCell ⟨wa.heap.size,10,none⟩ (.int .i64 n4)).setCell ⟨wa.heap.size,11,none⟩ (.int .i64 0)).setCell ⟨wa.heap.size,12,none⟩ (.bool false)).heap[w.heap.size+1+1+1]? =some (.cells #[.int .i64 ws,.int .i64 we] 48 (0,0)):=sN<|sN<|sN<|sN<|sN<|sN<|sN<|sN<|sN<|sN<|sN<|sN<|sN<|bW
      have mR:(((((((((((((wb.setCell ⟨wa.heap.size,0,none⟩ (.int .i64 x3)).setCell ⟨wa.heap.size,1,none⟩ (.int .i64 ws)).setCell ⟨wa.heap.size,2,none⟩ (.int .i64 we)).setCell ⟨wa.heap.size,3,none⟩ (.int .i64 n1)).setCell ⟨wa.heap.size,4,none⟩ (.int .i64 n2)).setCell ⟨wa.heap.size,5,none⟩ (.int .i64 n3)).setCell ⟨wa.heap.size,6,none⟩ (.int .i64 n4)).setCell ⟨wa.heap.size,7,none⟩ (.int .i64 n1)).setCell ⟨wa.heap.size,8,none⟩ (.int .i64 n2)).setCell ⟨wa.heap.size,9,none⟩ (.int .i64 n3)).setCell ⟨wa.heap.size,10,none⟩ (.int .i64 n4)).setCell ⟨wa.heap.size,11,none⟩ (.int .i64 0)).setCell ⟨wa.heap.size,12,none⟩ (.bool false)).heap[w.heap.size+1+1+1+1]? =some (.cells #[.int .i64 0,.slice none 0 0] 27 (0,0)):=sN<|sN<|sN<|sN<|sN<|sN<|sN<|sN<|sN<|sN<|sN<|sN<|sN<|bR
      have mb:Below w.heap.size w (((((((((((((wb.setCell ⟨wa.heap.size,0,none⟩ (.int .i64 x3)).setCell ⟨wa.heap.size,1,none⟩ (.int .i64 ws)).setCell ⟨wa.heap.size,2,none⟩ (.int .i64 we)).setCell ⟨wa.heap.size,3,none⟩ (.int .i64 n1)).setCell ⟨wa.heap.size,4,none⟩ (.int .i64 n2)).setCell ⟨wa.heap.size,5,none⟩ (.int .i64 n3)).setCell ⟨wa.heap.size,6,none⟩ (.int .i64 n4)).setCell ⟨wa.heap.size,7,none⟩ (.int .i64 n1)).setCell ⟨wa.heap.size,8,none⟩ (.int .i64 n2)).setCell ⟨wa.heap.size,9,none⟩ (.int .i64 n3)).setCell ⟨wa.heap.size,10,none⟩ (.int .i64 n4)).setCell ⟨wa.heap.size,11,none⟩ (.int .i64 0)).setCell ⟨wa.heap.size,12,none⟩ (.bool false)):=av (av (av (av (av (av (av (av (av (av (av (av (av (hb) (sB) _) (sB) _) (sB) _) (sB) _) (sB) _) (sB) _) (sB) _) (sB) _) (sB) _) (sB) _) (sB) _) (sB) _) (sB) _
      have mG:=t12
      have mz:wa.heap.size<(((((((((((((wb.setCell ⟨wa.heap.size,0,none⟩ (.int .i64 x3)).setCell ⟨wa.heap.size,1,none⟩ (.int .i64 ws)).setCell ⟨wa.heap.size,2,none⟩ (.int .i64 we)).setCell ⟨wa.heap.size,3,none⟩ (.int .i64 n1)).setCell ⟨wa.heap.size,4,none⟩ (.int .i64 n2)).setCell ⟨wa.heap.size,5,none⟩ (.int .i64 n3)).setCell ⟨wa.heap.size,6,none⟩ (.int .i64 n4)).setCell ⟨wa.heap.size,7,none⟩ (.int .i64 n1)).setCell ⟨wa.heap.size,8,none⟩ (.int .i64 n2)).setCell ⟨wa.heap.size,9,none⟩ (.int .i64 n3)).setCell ⟨wa.heap.size,10,none⟩ (.int .i64 n4)).setCell ⟨wa.heap.size,11,none⟩ (.int .i64 0)).setCell ⟨wa.heap.size,12,none⟩ (.bool false)).heap.size:=(Array.getElem?_eq_some_iff.1 mG).1
      go_simp
      clear hHeld
      refine hK.out _ _ ?_ (fun hHeld=>?_)
      ·((try dsimp only);exact⟨mI,mW⟩)
      clear hK K
      try simp only[Act.put,tA,tZ,tS]
      refine wpAnyH_done (oc) ?_ _
      clear hHeld
      go_wp2_with fail
      go_meet
      exact⟨_,rfl,(sB),mz,mG,mJ,mS,mI,mW,mR,mb⟩
     exact AllReadyH.nil
    exact AllReadyH.nil
   exact AllReadyH.nil
  refine AllReadyH.cons (nP) (fun K hK=>?_) ?_
  ·skip
   go_simp
   replace bJ:=(Below.heap_alloc (((((w.alloc (.cells #[.int .i64 s,.int .i64 t,.int .i64 k,.int .i64 z,.int .i64 q,.int .i64 l,.int .i64 e,.bool b,.int .i64 v,.int .i64 r] 24)).alloc (.cells #[.int .i64 m,.slice a len cap] 27)).alloc (.cells #[.int .i64 x1,.int .i64 x2,.int .i64 x3,.int .i64 x4,.int .i64 x5] 29)).alloc (.cells #[.int .i64 ws,.int .i64 we] 48)).alloc (.cells #[.int .i64 0,.slice none 0 0] 27)).drew (.cells #[.int .i64 0,.int .i64 0,.int .i64 0,.int .i64 0,.int .i64 0,.int .i64 0,.int .i64 0,.int .i64 0,.int .i64 0,.int .i64 0,.int .i64 0,.int .i64 0,.bool false] 57) (w.heap.size) (sB)).trans bJ
   replace bS:=(Below.heap_alloc (((((w.alloc (.cells #[.int .i64 s,.int .i64 t,.int .i64 k,.int .i64 z,.int .i64 q,.int .i64 l,.int .i64 e,.bool b,.int .i64 v,.int .i64 r] 24)).alloc (.cells #[.int .i64 m,.slice a len cap] 27)).alloc (.cells #[.int .i64 x1,.int .i64 x2,.int .i64 x3,.int .i64 x4,.int .i64 x5] 29)).alloc (.cells #[.int .i64 ws,.int .i64 we] 48)).alloc (.cells #[.int .i64 0,.slice none 0 0] 27)).drew (.cells #[.int .i64 0,.int .i64 0,.int .i64 0,.int .i64 0,.int .i64 0,.int .i64 0,.int .i64 0,.int .i64 0,.int .i64 0,.int .i64 0,.int .i64 0,.int .i64 0,.bool false] 57) (w.heap.size+1) (sB)).trans bS
   replace bI:=(Below.heap_alloc (((((w.alloc (.cells #[.int .i64 s,.int .i64 t,.int .i64 k,.int .i64 z,.int .i64 q,.int .i64 l,.int .i64 e,.bool b,.int .i64 v,.int .i64 r] 24)).alloc (.cells #[.int .i64 m,.slice a len cap] 27)).alloc (.cells #[.int .i64 x1,.int .i64 x2,.int .i64 x3,.int .i64 x4,.int .i64 x5] 29)).alloc (.cells #[.int .i64 ws,.int .i64 we] 48)).alloc (.cells #[.int .i64 0,.slice none 0 0] 27)).drew (.cells #[.int .i64 0,.int .i64 0,.int .i64 0,.int .i64 0,.int .i64 0,.int .i64 0,.int .i64 0,.int .i64 0,.int .i64 0,.int .i64 0,.int .i64 0,.int .i64 0,.bool false] 57) (w.heap.size+1+1) (sB)).trans bI
   replace bW:=(Below.heap_alloc (((((w.alloc (.cells #[.int .i64 s,.int .i64 t,.int .i64 k,.int .i64 z,.int .i64 q,.int .i64 l,.int .i64 e,.bool b,.int .i64 v,.int .i64 r] 24)).alloc (.cells #[.int .i64 m,.slice a len cap] 27)).alloc (.cells #[.int .i64 x1,.int .i64 x2,.int .i64 x3,.int .i64 x4,.int .i64 x5] 29)).alloc (.cells #[.int .i64 ws,.int .i64 we] 48)).alloc (.cells #[.int .i64 0,.slice none 0 0] 27)).drew (.cells #[.int .i64 0,.int .i64 0,.int .i64 0,.int .i64 0,.int .i64 0,.int .i64 0,.int .i64 0,.int .i64 0,.int .i64 0,.int .i64 0,.int .i64 0,.int .i64 0,.bool false] 57) (w.heap.size+1+1+1) (sB)).trans bW
   replace bR:=(Below.heap_alloc (((((w.alloc (.cells #[.int .i64 s,.int .i64 t,.int .i64 k,.int .i64 z,.int .i64 q,.int .i64 l,.int .i64 e,.bool b,.int .i64 v,.int .i64 r] 24)).alloc (.cells #[.int .i64 m,.slice a len cap] 27)).alloc (.cells #[.int .i64 x1,.int .i64 x2,.int .i64 x3,.int .i64 x4,.int .i64 x5] 29)).alloc (.cells #[.int .i64 ws,.int .i64 we] 48)).alloc (.cells #[.int .i64 0,.slice none 0 0] 27)).drew (.cells #[.int .i64 0,.int .i64 0,.int .i64 0,.int .i64 0,.int .i64 0,.int .i64 0,.int .i64 0,.int .i64 0,.int .i64 0,.int .i64 0,.int .i64 0,.int .i64 0,.bool false] 57) (w.heap.size+1+1+1+1) (sB)).trans bR
   have bG:=World.alloc_heap_new (((((w.alloc (.cells #[.int .i64 s,.int .i64 t,.int .i64 k,.int .i64 z,.int .i64 q,.int .i64 l,.int .i64 e,.bool b,.int .i64 v,.int .i64 r] 24)).alloc (.cells #[.int .i64 m,.slice a len cap] 27)).alloc (.cells #[.int .i64 x1,.int .i64 x2,.int .i64 x3,.int .i64 x4,.int .i64 x5] 29)).alloc (.cells #[.int .i64 ws,.int .i64 we] 48)).alloc (.cells #[.int .i64 0,.slice none 0 0] 27)).drew (.cells #[.int .i64 0,.int .i64 0,.int .i64 0,.int .i64 0,.int .i64 0,.int .i64 0,.int .i64 0,.int .i64 0,.int .i64 0,.int .i64 0,.int .i64 0,.int .i64 0,.bool false] 57)
   rw[hw0]at bG
   replace hb:=ag hb (.cells #[.int .i64 0,.int .i64 0,.int .i64 0,.int .i64 0,.int .i64 0,.int .i64 0,.int .i64 0,.int .i64 0,.int .i64 0,.int .i64 0,.int .i64 0,.int .i64 0,.bool false] 57)
   clear hHeld
   refine hK.out _ _ ?_ (fun hHeld=>?_)
   ·((try dsimp only);exact⟨bI,bW⟩)
   clear hK K
   try simp only[Act.put,tA,tZ,tS]
   refine wpAnyH_ready (rs:=[6]) (oc) (by simp) ?_
   refine AllReadyH.cons (nP) (fun K hK=>?_) ?_
   ·skip
    go_simp
    (go_at_call 86;refine(dE 0 0 0 0 x4 _ HG).mono ?_;rintro e9 wa ⟨rfl,hbwa⟩)
    (try go_wp2_with fail)
    have zwa:=hbwa.size
    (try simp at zwa)
    replace bJ:=(hbwa.block (w.heap.size) (sB)).trans bJ
    replace bS:=(hbwa.block (w.heap.size+1) (sB)).trans bS
    replace bI:=(hbwa.block (w.heap.size+1+1) (sB)).trans bI
    replace bW:=(hbwa.block (w.heap.size+1+1+1) (sB)).trans bW
    replace bR:=(hbwa.block (w.heap.size+1+1+1+1) (sB)).trans bR
    replace bG:=(hbwa.block (w.heap.size+1+1+1+1+1) (sB)).trans bG
    replace hb:=am hb hbwa
    clear hHeld
    refine hK.out _ _ ?_ (fun hHeld=>?_)
    ·((try dsimp only);exact⟨bI,bW⟩)
    clear hK K
    try simp only[Act.put,tA,tZ,tS]
    refine wpAnyH_ready (rs:=[10]) (oc) (by simp) ?_
    refine AllReadyH.cons (nP) (fun K hK=>?_) ?_
    ·skip
     go_simp
     (go_at_call 86;refine(dE 0 0 0 0 x4 _ HG).mono ?_;rintro e9 wb ⟨rfl,hbwb⟩)
     (try go_wp2_with fail)
     have zwb:=hbwb.size
     (try simp at zwb)
     replace bJ:=(hbwb.block (w.heap.size) (sB)).trans bJ
     replace bS:=(hbwb.block (w.heap.size+1) (sB)).trans bS
     replace bI:=(hbwb.block (w.heap.size+1+1) (sB)).trans bI
     replace bW:=(hbwb.block (w.heap.size+1+1+1) (sB)).trans bW
     replace bR:=(hbwb.block (w.heap.size+1+1+1+1) (sB)).trans bR
     replace bG:=(hbwb.block (w.heap.size+1+1+1+1+1) (sB)).trans bG
     replace hb:=am hb hbwb
     clear hHeld
     refine hK.out _ _ ?_ (fun hHeld=>?_)
     ·((try dsimp only);exact⟨bI,bW⟩)
     clear hK K
     try simp only[Act.put,tA,tZ,tS]
     refine kV 11 ?_
     refine wpAnyH_ready (rs:=[13]) (oc) (by simp) ?_
     refine AllReadyH.cons (nP) (fun K hK=>?_) ?_
     ·skip
      obtain⟨u0,u1,u2,u3,u4,u5,u6,u7,u8,u9,u10,u11,u12⟩:=eu bG
      obtain⟨uf0,uf1,uf2,uf3,uf4,uf5,uf6,uf7,uf8,uf9,uf10,uf11,uf12⟩:=f13 bG
      have t0:=Joins.block_setCell (g:=w.heap.size+1+1+1+1+1) (i:=0) bG (.int .i64 x3)
      have t1:=Joins.block_setCell (g:=w.heap.size+1+1+1+1+1) (i:=1) t0 (.int .i64 ws)
      have t2:=Joins.block_setCell (g:=w.heap.size+1+1+1+1+1) (i:=2) t1 (.int .i64 we)
      have t3:=Joins.block_setCell (g:=w.heap.size+1+1+1+1+1) (i:=3) t2 (.int .i64 n1)
      have t4:(((((wb.setCell ⟨w.heap.size+1+1+1+1+1,0,none⟩ (.int .i64 x3)).setCell ⟨w.heap.size+1+1+1+1+1,1,none⟩ (.int .i64 ws)).setCell ⟨w.heap.size+1+1+1+1+1,2,none⟩ (.int .i64 we)).setCell ⟨w.heap.size+1+1+1+1+1,3,none⟩ (.int .i64 n1)).setCell ⟨w.heap.size+1+1+1+1+1,4,none⟩ (.int .i64 n2)).heap[w.heap.size+1+1+1+1+1]? =some (.cells #[.int .i64 x3,.int .i64 ws,.int .i64 we,.int .i64 n1,.int .i64 n2,.int .i64 0,.int .i64 0,.int .i64 0,.int .i64 0,.int .i64 0,.int .i64 0,.int .i64 0,.bool false] 57 (0,0)):=Joins.block_setCell t3 _
      have t5:=Joins.block_setCell (g:=w.heap.size+1+1+1+1+1) (i:=5) t4 (.int .i64 n3)
      have t6:=Joins.block_setCell (g:=w.heap.size+1+1+1+1+1) (i:=6) t5 (.int .i64 n4)
      have t7:=Joins.block_setCell (g:=w.heap.size+1+1+1+1+1) (i:=7) t6 (.int .i64 n1)
      have t8:=Joins.block_setCell (g:=w.heap.size+1+1+1+1+1) (i:=8) t7 (.int .i64 n2)
      have t9:((((((((((wb.setCell ⟨w.heap.size+1+1+1+1+1,0,none⟩ (.int .i64 x3)).setCell ⟨w.heap.size+1+1+1+1+1,1,none⟩ (.int .i64 ws)).setCell ⟨w.heap.size+1+1+1+1+1,2,none⟩ (.int .i64 we)).setCell ⟨w.heap.size+1+1+1+1+1,3,none⟩ (.int .i64 n1)).setCell ⟨w.heap.size+1+1+1+1+1,4,none⟩ (.int .i64 n2)).setCell ⟨w.heap.size+1+1+1+1+1,5,none⟩ (.int .i64 n3)).setCell ⟨w.heap.size+1+1+1+1+1,6,none⟩ (.int .i64 n4)).setCell ⟨w.heap.size+1+1+1+1+1,7,none⟩ (.int .i64 n1)).setCell ⟨w.heap.size+1+1+1+1+1,8,none⟩ (.int .i64 n2)).setCell ⟨w.heap.size+1+1+1+1+1,9,none⟩ (.int .i64 n3)).heap[w.heap.size+1+1+1+1+1]? =some (.cells #[.int .i64 x3,.int .i64 ws,.int .i64 we,.int .i64 n1,.int .i64 n2,.int .i64 n3,.int .i64 n4,.int .i64 n1,.int .i64 n2,.int .i64 n3,.int .i64 0,.int .i64 0,.bool false] 57 (0,0)):=Joins.block_setCell t8 _
      have t10:=Joins.block_setCell (g:=w.heap.size+1+1+1+1+1) (i:=10) t9 (.int .i64 n4)
      have t11:=Joins.block_setCell (g:=w.heap.size+1+1+1+1+1) (i:=11) t10 (.int .i64 0)
      have t12:(((((((((((((wb.setCell ⟨w.heap.size+1+1+1+1+1,0,none⟩ (.int .i64 x3)).setCell ⟨w.heap.size+1+1+1+1+1,1,none⟩ (.int .i64 ws)).setCell ⟨w.heap.size+1+1+1+1+1,2,none⟩ (.int .i64 we)).setCell ⟨w.heap.size+1+1+1+1+1,3,none⟩ (.int .i64 n1)).setCell ⟨w.heap.size+1+1+1+1+1,4,none⟩ (.int .i64 n2)).setCell ⟨w.heap.size+1+1+1+1+1,5,none⟩ (.int .i64 n3)).setCell ⟨w.heap.size+1+1+1+1+1,6,none⟩ (.int .i64 n4)).setCell ⟨w.heap.size+1+1+1+1+1,7,none⟩ (.int .i64 n1)).setCell ⟨w.heap.size+1+1+1+1+1,8,none⟩ (.int .i64 n2)).setCell ⟨w.heap.size+1+1+1+1+1,9,none⟩ (.int .i64 n3)).setCell ⟨w.heap.size+1+1+1+1+1,10,none⟩ (.int .i64 n4)).setCell ⟨w.heap.size+1+1+1+1+1,11,none⟩ (.int .i64 0)).setCell ⟨w.heap.size+1+1+1+1+1,12,none⟩ (.bool false)).heap[w.heap.size+1+1+1+1+1]? =some (.cells #[.int .i64 x3,.int .i64 ws,.int .i64 we,.int .i64 n1,.int .i64 n2,.int .i64 n3,.int .i64 n4,.int .i64 n1,.int .i64 n2,.int .i64 n3,.int .i64 n4,.int .i64 0,.bool false] 57 (0,0)):=Joins.block_setCell t11 _
      have mJ:(((((((((((((wb.setCell ⟨w.heap.size+1+1+1+1+1,0,none⟩ (.int .i64 x3)).setCell ⟨w.heap.size+1+1+1+1+1,1,none⟩ (.int .i64 ws)).setCell ⟨w.heap.size+1+1+1+1+1,2,none⟩ (.int .i64 we)).setCell ⟨w.heap.size+1+1+1+1+1,3,none⟩ (.int .i64 n1)).setCell ⟨w.heap.size+1+1+1+1+1,4,none⟩ (.int .i64 n2)).setCell ⟨w.heap.size+1+1+1+1+1,5,none⟩ (.int .i64 n3)).setCell ⟨w.heap.size+1+1+1+1+1,6,none⟩ (.int .i64 n4)).setCell ⟨w.heap.size+1+1+1+1+1,7,none⟩ (.int .i64 n1)).setCell ⟨w.heap.size+1+1+1+1+1,8,none⟩ (.int .i64 n2)).setCell ⟨w.heap.size+1+1+1+1+1,9,none⟩ (.int .i64 n3)).setCell ⟨w.heap.size+1+1+1+1+1,10,none⟩ (.int .i64 n4)).setCell ⟨w.heap.size+1+1+1+1+1,11,none⟩ (.int .i64 0)).setCell ⟨w.heap.size+1+1+1+1+1,12,none⟩ (.bool false)).heap[w.heap.size]? =some (.cells #[.int .i64 s,.int .i64 t,.int .i64 k,.int .i64 z,.int .i64 q,.int .i64 l,.int .i64 e,.bool b,.int .i64 v,.int .i64 r] 24 (0,0)):=sN<|sN<|sN<|sN<|sN<|sN<|sN<|sN<|sN<|sN<|sN<|sN<|sN<|bJ
      have mS:(((((((((((((wb.setCell ⟨w.heap.size+1+1+1+1+1,0,none⟩ (.int .i64 x3)).setCell ⟨w.heap.size+1+1+1+1+1,1,none⟩ (.int .i64 ws)).setCell ⟨w.heap.size+1+1+1+1+1,2,none⟩ (.int .i64 we)).setCell ⟨w.heap.size+1+1+1+1+1,3,none⟩ (.int .i64 n1)).setCell ⟨w.heap.size+1+1+1+1+1,4,none⟩ (.int .i64 n2)).setCell ⟨w.heap.size+1+1+1+1+1,5,none⟩ (.int .i64 n3)).setCell ⟨w.heap.size+1+1+1+1+1,6,none⟩ (.int .i64 n4)).setCell ⟨w.heap.size+1+1+1+1+1,7,none⟩ (.int .i64 n1)).setCell ⟨w.heap.size+1+1+1+1+1,8,none⟩ (.int .i64 n2)).setCell ⟨w.heap.size+1+1+1+1+1,9,none⟩ (.int .i64 n3)).setCell ⟨w.heap.size+1+1+1+1+1,10,none⟩ (.int .i64 n4)).setCell ⟨w.heap.size+1+1+1+1+1,11,none⟩ (.int .i64 0)).setCell ⟨w.heap.size+1+1+1+1+1,12,none⟩ (.bool false)).heap[w.heap.size+1]? =some (.cells #[.int .i64 m,.slice a len cap] 27 (0,0)):=sN<|sN<|sN<|sN<|sN<|sN<|sN<|sN<|sN<|sN<|sN<|sN<|sN<|bS
      have mI:(((((((((((((wb.setCell ⟨w.heap.size+1+1+1+1+1,0,none⟩ (.int .i64 x3)).setCell ⟨w.heap.size+1+1+1+1+1,1,none⟩ (.int .i64 ws)).setCell ⟨w.heap.size+1+1+1+1+1,2,none⟩ (.int .i64 we)).setCell ⟨w.heap.size+1+1+1+1+1,3,none⟩ (.int .i64 n1)).setCell ⟨w.heap.size+1+1+1+1+1,4,none⟩ (.int .i64 n2)).setCell ⟨w.heap.size+1+1+1+1+1,5,none⟩ (.int .i64 n3)).setCell ⟨w.heap.size+1+1+1+1+1,6,none⟩ (.int .i64 n4)).setCell ⟨w.heap.size+1+1+1+1+1,7,none⟩ (.int .i64 n1)).setCell ⟨w.heap.size+1+1+1+1+1,8,none⟩ (.int .i64 n2)).setCell ⟨w.heap.size+1+1+1+1+1,9,none⟩ (.int .i64 n3)).setCell ⟨w.heap.size+1+1+1+1+1,10,none⟩ (.int .i64 n4)).setCell ⟨w.heap.size+1+1+1+1+1,11,none⟩ (.int .i64 0)).setCell ⟨w.heap.size+1+1+1+1+1,12,none⟩ (.bool false)).heap[w.heap.size+1+1]? =some (.cells #[.int .i64 x1,.int .i64 x2,.int .i64 x3,.int .i64 x4,.int .i64 x5] 29 (0,0)):=sN<|sN<|sN<|sN<|sN<|sN<|sN<|sN<|sN<|sN<|sN<|sN<|sN<|bI
      have mW:(((((((((((((wb.setCell ⟨w.heap.size+1+1+1+1+1,0,none⟩ (.int .i64 x3)).setCell ⟨w.heap.size+1+1+1+1+1,1,none⟩ (.int .i64 ws)).setCell ⟨w.heap.size+1+1+1+1+1,2,none⟩ (.int .i64 we)).setCell ⟨w.heap.size+1+1+1+1+1,3,none⟩ (.int .i64 n1)).setCell ⟨w.heap.size+1+1+1+1+1,4,none⟩ (.int .i64 n2)).setCell ⟨w.heap.size+1+1+1+1+1,5,none⟩ (.int .i64 n3)).setCell ⟨w.heap.size+1+1+1+1+1,6,none⟩ (.int .i64 n4)).setCell ⟨w.heap.size+1+1+1+1+1,7,none⟩ (.int .i64 n1)).setCell ⟨w.heap.size+1+1+1+1+1,8,none⟩ (.int .i64 n2)).setCell ⟨w.heap.size+1+1+1+1+1,9,none⟩ (.int .i64 n3)).setCell ⟨w.heap.size+1+1+1+1+1,10,none⟩ (.int .i64 n4)).setCell ⟨w.heap.size+1+1+1+1+1,11,none⟩ (.int .i64 0)).setCell ⟨w.heap.size+1+1+1+1+1,12,none⟩ (.bool false)).heap[w.heap.size+1+1+1]? =some (.cells #[.int .i64 ws,.int .i64 we] 48 (0,0)):=sN<|sN<|sN<|sN<|sN<|sN<|sN<|sN<|sN<|sN<|sN<|sN<|sN<|bW
      have mR:(((((((((((((wb.setCell ⟨w.heap.size+1+1+1+1+1,0,none⟩ (.int .i64 x3)).setCell ⟨w.heap.size+1+1+1+1+1,1,none⟩ (.int .i64 ws)).setCell ⟨w.heap.size+1+1+1+1+1,2,none⟩ (.int .i64 we)).setCell ⟨w.heap.size+1+1+1+1+1,3,none⟩ (.int .i64 n1)).setCell ⟨w.heap.size+1+1+1+1+1,4,none⟩ (.int .i64 n2)).setCell ⟨w.heap.size+1+1+1+1+1,5,none⟩ (.int .i64 n3)).setCell ⟨w.heap.size+1+1+1+1+1,6,none⟩ (.int .i64 n4)).setCell ⟨w.heap.size+1+1+1+1+1,7,none⟩ (.int .i64 n1)).setCell ⟨w.heap.size+1+1+1+1+1,8,none⟩ (.int .i64 n2)).setCell ⟨w.heap.size+1+1+1+1+1,9,none⟩ (.int .i64 n3)).setCell ⟨w.heap.size+1+1+1+1+1,10,none⟩ (.int .i64 n4)).setCell ⟨w.heap.size+1+1+1+1+1,11,none⟩ (.int .i64 0)).setCell ⟨w.heap.size+1+1+1+1+1,12,none⟩ (.bool false)).heap[w.heap.size+1+1+1+1]? =some (.cells #[.int .i64 0,.slice none 0 0] 27 (0,0)):=sN<|sN<|sN<|sN<|sN<|sN<|sN<|sN<|sN<|sN<|sN<|sN<|sN<|bR
      have mb:Below w.heap.size w (((((((((((((wb.setCell ⟨w.heap.size+1+1+1+1+1,0,none⟩ (.int .i64 x3)).setCell ⟨w.heap.size+1+1+1+1+1,1,none⟩ (.int .i64 ws)).setCell ⟨w.heap.size+1+1+1+1+1,2,none⟩ (.int .i64 we)).setCell ⟨w.heap.size+1+1+1+1+1,3,none⟩ (.int .i64 n1)).setCell ⟨w.heap.size+1+1+1+1+1,4,none⟩ (.int .i64 n2)).setCell ⟨w.heap.size+1+1+1+1+1,5,none⟩ (.int .i64 n3)).setCell ⟨w.heap.size+1+1+1+1+1,6,none⟩ (.int .i64 n4)).setCell ⟨w.heap.size+1+1+1+1+1,7,none⟩ (.int .i64 n1)).setCell ⟨w.heap.size+1+1+1+1+1,8,none⟩ (.int .i64 n2)).setCell ⟨w.heap.size+1+1+1+1+1,9,none⟩ (.int .i64 n3)).setCell ⟨w.heap.size+1+1+1+1+1,10,none⟩ (.int .i64 n4)).setCell ⟨w.heap.size+1+1+1+1+1,11,none⟩ (.int .i64 0)).setCell ⟨w.heap.size+1+1+1+1+1,12,none⟩ (.bool false)):=av (av (av (av (av (av (av (av (av (av (av (av (av (hb) (sB) _) (sB) _) (sB) _) (sB) _) (sB) _) (sB) _) (sB) _) (sB) _) (sB) _) (sB) _) (sB) _) (sB) _) (sB) _
      have mG:=t12
      have mz:w.heap.size+1+1+1+1+1<(((((((((((((wb.setCell ⟨w.heap.size+1+1+1+1+1,0,none⟩ (.int .i64 x3)).setCell ⟨w.heap.size+1+1+1+1+1,1,none⟩ (.int .i64 ws)).setCell ⟨w.heap.size+1+1+1+1+1,2,none⟩ (.int .i64 we)).setCell ⟨w.heap.size+1+1+1+1+1,3,none⟩ (.int .i64 n1)).setCell ⟨w.heap.size+1+1+1+1+1,4,none⟩ (.int .i64 n2)).setCell ⟨w.heap.size+1+1+1+1+1,5,none⟩ (.int .i64 n3)).setCell ⟨w.heap.size+1+1+1+1+1,6,none⟩ (.int .i64 n4)).setCell ⟨w.heap.size+1+1+1+1+1,7,none⟩ (.int .i64 n1)).setCell ⟨w.heap.size+1+1+1+1+1,8,none⟩ (.int .i64 n2)).setCell ⟨w.heap.size+1+1+1+1+1,9,none⟩ (.int .i64 n3)).setCell ⟨w.heap.size+1+1+1+1+1,10,none⟩ (.int .i64 n4)).setCell ⟨w.heap.size+1+1+1+1+1,11,none⟩ (.int .i64 0)).setCell ⟨w.heap.size+1+1+1+1+1,12,none⟩ (.bool false)).heap.size:=(Array.getElem?_eq_some_iff.1 mG).1
      go_simp
      clear hHeld
      refine hK.out _ _ ?_ (fun hHeld=>?_)
      ·((try dsimp only);exact⟨mI,mW⟩)
      clear hK K
      try simp only[Act.put,tA,tZ,tS]
      refine wpAnyH_done (oc) ?_ _
      clear hHeld
      go_wp2_with fail
      go_meet
      exact⟨_,rfl,(sB),mz,mG,mJ,mS,mI,mW,mR,mb⟩
     exact AllReadyH.nil
    exact AllReadyH.nil
   exact AllReadyH.nil
  exact AllReadyH.nil
 case rest=>
  rename World=>w1
  obtain⟨g,rfl,hg5,hzg,bG,bJ,bS,bI,bW,bR,hb⟩:=hcut
  clear eJ eS eI eW eR HE hbE
  have L1:=(w1.alloc (.cells #[] 57))
  go_wp2
  go_loopw [12,13,14] (fun rv ov iv wr=>∃(i:Nat) (p1 p2:Int),i≤len∧iv= .int .i64 i∧Hid (aS wr w1.heap.size rv ((xs.take i).filter (fun y=> !bw x3 ws we y)))∧Hid (aS wr w1.heap.size ov ((xs.take i).filter (bw x3 ws we)))∧Hid (NeB rv ov)∧Hid (dq ws we ((xs.take i).filter (bw x3 ws we))=(p1,p2))∧(0≤p2∧p2≤1000)∧wr.heap[g]? =some (.cells #[.int .i64 x3,.int .i64 p1,.int .i64 p2,.int .i64 n1,.int .i64 n2,.int .i64 n3,.int .i64 n4,.int .i64 n1,.int .i64 n2,.int .i64 n3,.int .i64 n4,.int .i64 0,.bool false] 57 (0,0))∧wr.heap[w.heap.size]? =some (.cells #[.int .i64 s,.int .i64 t,.int .i64 k,.int .i64 z,.int .i64 q,.int .i64 l,.int .i64 e,.bool b,.int .i64 v,.int .i64 r] 24 (0,0))∧wr.heap[w.heap.size+1]? =some (.cells #[.int .i64 m,.slice a len cap] 27 (0,0))∧wr.heap[w.heap.size+1+1]? =some (.cells #[.int .i64 x1,.int .i64 x2,.int .i64 x3,.int .i64 x4,.int .i64 x5] 29 (0,0))∧wr.heap[w.heap.size+1+1+1]? =some (.cells #[.int .i64 ws,.int .i64 we] 48 (0,0))∧wr.heap[w.heap.size+1+1+1+1]? =some (.cells #[.int .i64 0,.slice none 0 0] 27 (0,0))∧Below w.heap.size w wr∧w1.heap.size≤wr.heap.size) (fun _ _ iv _=>len - (intOf iv).toNat)
  case atStart=>
   refine⟨0,ws,we,Nat.zero_le _,rfl,ae ?_,ae ?_,ae ?_,ae rfl,hwe,?_,?_,?_,?_,?_,?_,ag (ag hb _) _,by simp;omega⟩
   ·exact World.ownsRow.alloc (cE (B:=w1.heap.size) _ _ (by simp) (by simp)) _
   ·exact cE (B:=w1.heap.size) _ _ (by simp) (by simp)
   ·intro k9 h1 h2
    simp[Value.ownBlock]at h1 h2
    omega
   ·exact(Below.heap_alloc _ _ _ (oa)).trans ((Below.heap_alloc _ _ _ (by omega)).trans bG)
   ·exact(Below.heap_alloc _ _ _ (oa)).trans ((Below.heap_alloc _ _ _ (by omega)).trans bJ)
   ·exact(Below.heap_alloc _ _ _ (oa)).trans ((Below.heap_alloc _ _ _ (by omega)).trans bS)
   ·exact(Below.heap_alloc _ _ _ (oa)).trans ((Below.heap_alloc _ _ _ (by omega)).trans bI)
   ·exact(Below.heap_alloc _ _ _ (oa)).trans ((Below.heap_alloc _ _ _ (by omega)).trans bW)
   ·exact(Below.heap_alloc _ _ _ (oa)).trans ((Below.heap_alloc _ _ _ (by omega)).trans bR)
  case round=>
   obtain⟨i,p1,p2,hil,rfl,HRo,HOo,HNe,HSp,hp2,bG,bJ,bS,bI,bW,bR,hbw,hzr⟩:=hrel
   by_cases hlt:i<len
   ·obtain⟨_,_,hy⟩:=id h
    obtain⟨gr,o,rfl,hr⟩:=hy.resolve_left (by omega)
    obtain⟨x,hxk⟩:∃x,xs[i]? =some x:=⟨_,List.getElem?_eq_getElem (by omega)⟩
    have hgr:gr<w.heap.size:=hr.lt (by omega)
    have Hrow0:=ae (hr i _ hxk)
    have hrow:=(hr i _ hxk).below hbw hgr
    have hxb:=hxs x (List.mem_of_getElem? hxk)
    have HXK:=ae hxk
    obtain⟨yky,yst,yen,yan,yasu,yale,yamo,yfn,yfsu,yfle,yfmo,ytd,ytm⟩:=x
    dsimp only at hxb
    have hlr:=ae (Nat.le_trans (List.length_filter_le (fun y=> !bw x3 ws we y) (xs.take i)) (by rw[List.length_take];omega:(xs.take i).length≤i))
    have hlo:=ae (Nat.le_trans (List.length_filter_le (bw x3 ws we) (xs.take i)) (by rw[List.length_take];omega:(xs.take i).length≤i))
    clear hr hy hxk
    by_cases k1:yky=x3
    ·obtain⟨tb,htb⟩:∃tb,bg yst yen ws we=tb:=⟨_,rfl⟩
     have HT:=ae htb
     clear htb
     have kb:(yky==x3)=true:=by simp[k1]
     have ke:decide (yky=x3)=true:=by simp[k1]
     have HK1:=ae k1
     clear k1
     obtain⟨s0,s1⟩:=Go.Proofs.YtdmhihcipkhecaaGreat.c2 bS
     go_wp2_with fail
     clear s0 s1
     refine wp_region_held_drew (S:=(fun W=>W.heap[w.heap.size+1]? =some (.cells #[.int .i64 m,.slice (some ⟨gr,o,none⟩) len cap] 27 (0,0))∧W.heap[w.heap.size+1+1]? =some (.cells #[.int .i64 x1,.int .i64 x2,.int .i64 x3,.int .i64 x4,.int .i64 x5] 29 (0,0))∧W.heap[w.heap.size+1+1+1]? =some (.cells #[.int .i64 ws,.int .i64 we] 48 (0,0))∧dm W gr (o+i*13) (⟨yky,yst,yen,yan,yasu,yale,yamo,yfn,yfsu,yfle,yfmo,ytd,ytm⟩:aC))) (oc) ?_ (fun hHeld=>?_)
     ·((try dsimp only);exact⟨bS,bI,bW,hrow⟩)
     refine kV 0 ?_
     refine kT 1 ?_ ?_ ?_
     rotate_left
     ·(intro w9 hSw;(try dsimp only at hSw);obtain⟨q0,q1,q2,d0,d1,d2,d3,d4,d5,d6,d7,d8,d9,d10,d11,d12⟩:=hSw;obtain⟨ax0,ax1⟩:=Go.Proofs.YtdmhihcipkhecaaGreat.c2 q0;go_simp<;>with_reducible rfl)
     try simp only[Act.put,tA,tZ,tS]
     refine kV 2 ?_
     refine kV 3 ?_
     refine kV 4 ?_
     refine kT 5 ?_ ?_ ?_
     rotate_left
     ·(intro w9 hSw;(try dsimp only at hSw);obtain⟨q0,q1,q2,d0,d1,d2,d3,d4,d5,d6,d7,d8,d9,d10,d11,d12⟩:=hSw;go_simp<;>with_reducible rfl)
     try simp only[Act.put,tA,tZ,tS]
     refine kV 6 ?_
     refine kT 7 ?_ ?_ ?_
     rotate_left
     ·(intro w9 hSw;(try dsimp only at hSw);obtain⟨q0,q1,q2,d0,d1,d2,d3,d4,d5,d6,d7,d8,d9,d10,d11,d12⟩:=hSw;obtain⟨bx0,bx1,bx2,bx3,bx4⟩:=c5 q1;go_simp<;>with_reducible rfl)
     try simp only[Act.put,tA,tZ,tS]
     refine kV 8 ?_
     refine kV 9 ?_
     refine kV 10 ?_
     refine kT 11 ?_ ?_ ?_
     rotate_left
     ·(intro w9 hSw;(try dsimp only at hSw);obtain⟨q0,q1,q2,d0,d1,d2,d3,d4,d5,d6,d7,d8,d9,d10,d11,d12⟩:=hSw;obtain⟨ax0,ax1⟩:=Go.Proofs.YtdmhihcipkhecaaGreat.c2 q0;go_simp<;>with_reducible rfl)
     try simp only[Act.put,tA,tZ,tS]
     refine kV 12 ?_
     refine kV 13 ?_
     refine kV 14 ?_
     refine kT 15 ?_ ?_ ?_
     rotate_left
     ·(intro w9 hSw;(try dsimp only at hSw);obtain⟨q0,q1,q2,d0,d1,d2,d3,d4,d5,d6,d7,d8,d9,d10,d11,d12⟩:=hSw;go_simp<;>with_reducible rfl)
     try simp only[Act.put,tA,tZ,tS]
     refine kT 16 ?_ ?_ ?_
     rotate_left
     ·(intro w9 hSw;(try dsimp only at hSw);obtain⟨q0,q1,q2,d0,d1,d2,d3,d4,d5,d6,d7,d8,d9,d10,d11,d12⟩:=hSw;obtain⟨cx0,cx1⟩:=Go.Proofs.YtdmhihcipkhecaaGreat.c2 q2;go_simp<;>with_reducible rfl)
     try simp only[Act.put,tA,tZ,tS]
     refine rD 17 (fun K hK=>?_)
     go_simp
     (go_at_call 40;refine(lA _ _ _ _ _ HT).mono ?_;rintro e9 wt ⟨rfl,hbt⟩)
     (try go_wp2_with fail)
     replace hbt:Below wr.heap.size wr wt:=am (ap (Below.refl _ _)) hbt
     have zt:wr.heap.size≤wt.heap.size:=hbt.size
     replace bG:=(hbt.block g (by show g<wr.heap.size;omega)).trans bG
     replace bJ:=(hbt.block (w.heap.size) (by show _<wr.heap.size;omega)).trans bJ
     replace bS:=(hbt.block (w.heap.size+1) (by show _<wr.heap.size;omega)).trans bS
     replace bI:=(hbt.block (w.heap.size+1+1) (by show _<wr.heap.size;omega)).trans bI
     replace bW:=(hbt.block (w.heap.size+1+1+1) (by show _<wr.heap.size;omega)).trans bW
     replace bR:=(hbt.block (w.heap.size+1+1+1+1) (by show _<wr.heap.size;omega)).trans bR
     replace hrow:=hrow.below hbt (by show gr<wr.heap.size;have:=hbw.size;omega)
     replace HRo:=ae (aJ (ab HRo) (aB hbt) (fun _ e9=>by cases e9))
     replace HOo:=ae (aJ (ab HOo) (aB hbt) (fun _ e9=>by cases e9))
     replace hbw:Below w.heap.size w wt:=am hbw hbt
     replace hzr:w1.heap.size≤wt.heap.size:=by omega
     clear hHeld
     refine hK.out _ _ ?_ (fun hHeld=>?_)
     ·((try dsimp only);exact⟨bS,bI,bW,hrow⟩)
     clear hK K
     try simp only[Act.put,tA,tZ,tS]
     refine kV 18 ?_
     refine wpAnyH_done (oc) ?_ _
     clear hHeld hbt
     cases tb with
     |true=>
      have HT0:Hid (bw x3 ws we (⟨yky,yst,yen,yan,yasu,yale,yamo,yfn,yfsu,yfle,yfmo,ytd,ytm⟩:aC)=true):=ae (by unfold bw;rw[show decide (yky=x3)=true from ke];exact ab HT)
      obtain⟨d0,d1,d2,d3,d4,d5,d6,d7,d8,d9,d10,d11,d12⟩:=id hrow
      obtain⟨s0,s1⟩:=Go.Proofs.YtdmhihcipkhecaaGreat.c2 bS
      go_upto_region 9 with(at_builtin;go_loud (refine cV rfl _ _ 25 rfl w1.heap.size 57 i0 _ 13 104 Tryz.underlying25 hi hz0' hz1' hz2' rfl (by decide) u13 _ _ rfl (World.ownsRow.alloc (ab HOo) _) ⟨wt.heap.size,0,none⟩ 1 1 [.int .i64 yky,.int .i64 yst,.int .i64 yen,.int .i64 yan,.int .i64 yasu,.int .i64 yale,.int .i64 yamo,.int .i64 yfn,.int .i64 yfsu,.int .i64 yfle,.int .i64 yfmo,.int .i64 ytd,.bool ytm] rfl rfl (aX wt _ _ _ _ _ _ _ _ _ _ _ _ _ _) (nT) (by have:=ab hlo;unfold maxLen;omega) (by have:=ab hlo;omega) (oa) ?_);intro v5 w5 hown ml hat)
      clear s0 s1 d0 d1 d2 d3 d4 d5 d6 d7 d8 d9 d10 d11 d12 hrow
      have hge9:=ae (fun b9 (e9:(u13:Value).ownBlock=some b9)=>aE (ab HOo) b9 e9)
      replace bG:=(ml.block (g) (oa) (fun e9=>by have:=ab hge9 _ e9.symm;omega)).trans ((Below.heap_alloc _ _ _ (by omega)).trans bG)
      replace bJ:=(ml.block (w.heap.size) (oa) (fun e9=>by have:=ab hge9 _ e9.symm;omega)).trans ((Below.heap_alloc _ _ _ (by omega)).trans bJ)
      replace bS:=(ml.block (w.heap.size+1) (oa) (fun e9=>by have:=ab hge9 _ e9.symm;omega)).trans ((Below.heap_alloc _ _ _ (by omega)).trans bS)
      replace bI:=(ml.block (w.heap.size+1+1) (oa) (fun e9=>by have:=ab hge9 _ e9.symm;omega)).trans ((Below.heap_alloc _ _ _ (by omega)).trans bI)
      replace bW:=(ml.block (w.heap.size+1+1+1) (oa) (fun e9=>by have:=ab hge9 _ e9.symm;omega)).trans ((Below.heap_alloc _ _ _ (by omega)).trans bW)
      replace bR:=(ml.block (w.heap.size+1+1+1+1) (oa) (fun e9=>by have:=ab hge9 _ e9.symm;omega)).trans ((Below.heap_alloc _ _ _ (by omega)).trans bR)
      replace hbw:Below w.heap.size w w5:=(ag hbw _).grown ml (by have:=hbw.size;simp;omega) (fun b9 e9=>by have:=ab hge9 b9 e9;omega)
      have HN5:Hid (NeB u12 v5):=ae (fun k9 e8 e9=>by
       rcases hat with h9|h9
       ·rw[h9]at e9
        exact(ab HNe) _ e8 e9
       ·rw[h9]at e9
        have h8:=lp (ab HRo) k9 e8
        simp at e9
        omega)
      replace HRo:=ae (cU (World.ownsRow.alloc (ab HRo) _) ml (fun k9 e8 e9=>(ab HNe) _ e9 e8))
      replace HOo:=ae (bi (x:=(⟨yky,yst,yen,yan,yasu,yale,yamo,yfn,yfsu,yfle,yfmo,ytd,ytm⟩:aC)) hown)
      replace hzr:w1.heap.size≤w5.heap.size:=by have:=ml.size;simp at this;omega
      clear hown ml hat HNe hge9
      have hrow:=(ab Hrow0).below hbw hgr
      obtain⟨r1,hr1⟩:∃r1,ft p1 yst=r1:=⟨_,rfl⟩
      obtain⟨r2,hr2⟩:∃r2,fp p2 yen=r2:=⟨_,rfl⟩
      have hr2b:0≤r2∧r2≤1000:=by rw[←hr2];exact hiI_bd hp2 hxb.1
      have HP:Hid ((ft p1 yst,fp p2 yen)=(r1,r2)):=ae (by rw[hr1,hr2])
      clear hr1 hr2
      go_wp2_with fail
      refine wp_region_held_drew (S:=(fun W=>W.heap[w.heap.size+1]? =some (.cells #[.int .i64 m,.slice (some ⟨gr,o,none⟩) len cap] 27 (0,0))∧dm W gr (o+i*13) (⟨yky,yst,yen,yan,yasu,yale,yamo,yfn,yfsu,yfle,yfmo,ytd,ytm⟩:aC))) (oc) ?_ (fun hHeld=>?_)
      ·((try dsimp only);exact⟨bS,hrow⟩)
      refine kV 0 ?_
      refine kV 2 ?_
      refine kT 3 ?_ ?_ ?_
      rotate_left
      ·(intro w9 hSw;(try dsimp only at hSw);obtain⟨q1,d0,d1,d2,d3,d4,d5,d6,d7,d8,d9,d10,d11,d12⟩:=hSw;obtain⟨ax0,ax1⟩:=Go.Proofs.YtdmhihcipkhecaaGreat.c2 q1;go_simp<;>with_reducible rfl)
      try simp only[Act.put,tA,tZ,tS]
      refine kV 4 ?_
      refine kV 5 ?_
      refine kV 6 ?_
      refine kT 7 ?_ ?_ ?_
      rotate_left
      ·(intro w9 hSw;(try dsimp only at hSw);obtain⟨q1,d0,d1,d2,d3,d4,d5,d6,d7,d8,d9,d10,d11,d12⟩:=hSw;go_simp<;>with_reducible rfl)
      try simp only[Act.put,tA,tZ,tS]
      refine rD 1 (fun K hK=>?_)
      obtain⟨u0,u1,u2,u3,u4,u5,u6,u7,u8,u9,u10,u11,u12⟩:=eu bG
      go_simp
      clear u0 u1 u2 u3 u4 u5 u6 u7 u8 u9 u10 u11 u12
      clear hHeld
      refine hK.out _ _ ?_ (fun hHeld=>?_)
      ·((try dsimp only);exact⟨bS,hrow⟩)
      clear hK K
      try simp only[Act.put,tA,tZ,tS]
      refine rD 8 (fun K hK=>?_)
      go_simp
      (go_at_call 87;refine(specspan_is _ _ _ _ _ HP).mono ?_;rintro e9 w6 ⟨rfl,hb6⟩)
      (try go_wp2_with fail)
      replace hb6:Below w5.heap.size w5 w6:=am (ap (Below.refl _ _)) hb6
      replace hrow:=hrow.below hb6 (by have:=hbw.size;omega)
      have zw6:w5.heap.size≤w6.heap.size:=hb6.size
      replace bG:=(hb6.block g (by omega)).trans bG
      replace bJ:=(hb6.block (w.heap.size) (by omega)).trans bJ
      replace bS:=(hb6.block (w.heap.size+1) (by omega)).trans bS
      replace bI:=(hb6.block (w.heap.size+1+1) (by omega)).trans bI
      replace bW:=(hb6.block (w.heap.size+1+1+1) (by omega)).trans bW
      replace bR:=(hb6.block (w.heap.size+1+1+1+1) (by omega)).trans bR
      replace HRo:=ae (aJ (ab HRo) (aB hb6) (fun _ e9=>by cases e9))
      replace HOo:=ae (aJ (ab HOo) (aB hb6) (fun _ e9=>by cases e9))
      replace hbw:Below w.heap.size w w6:=am hbw hb6
      replace hzr:w1.heap.size≤w6.heap.size:=by omega
      clear hHeld
      refine hK.out _ _ ?_ (fun hHeld=>?_)
      ·((try dsimp only);exact⟨bS,hrow⟩)
      clear hK K
      try simp only[Act.put,tA,tZ,tS]
      refine kV 9 ?_
      refine rD 10 (fun K hK=>?_)
      obtain⟨u0,u1,u2,u3,u4,u5,u6,u7,u8,u9,u10,u11,u12⟩:=eu bG
      obtain⟨uf0,uf1,uf2,uf3,uf4,uf5,uf6,uf7,uf8,uf9,uf10,uf11,uf12⟩:=f13 bG
      go_simp
      clear u0 u1 u2 u3 u4 u5 u6 u7 u8 u9 u10 u11 u12 uf0 uf1 uf2 uf3 uf4 uf5 uf6 uf7 uf8 uf9 uf10 uf11 uf12
      have t0:=Joins.block_setCell (g:=g) (i:=1) bG (.int .i64 r1)
      have t1:((w6.setCell ⟨g,1,none⟩ (.int .i64 r1)).setCell ⟨g,2,none⟩ (.int .i64 r2)).heap[g]? =some (.cells #[.int .i64 x3,.int .i64 r1,.int .i64 r2,.int .i64 n1,.int .i64 n2,.int .i64 n3,.int .i64 n4,.int .i64 n1,.int .i64 n2,.int .i64 n3,.int .i64 n4,.int .i64 0,.bool false] 57 (0,0)):=Joins.block_setCell t0 _
      have mJ:((w6.setCell ⟨g,1,none⟩ (.int .i64 r1)).setCell ⟨g,2,none⟩ (.int .i64 r2)).heap[w.heap.size]? =some (.cells #[.int .i64 s,.int .i64 t,.int .i64 k,.int .i64 z,.int .i64 q,.int .i64 l,.int .i64 e,.bool b,.int .i64 v,.int .i64 r] 24 (0,0)):=sN<|sN<|bJ
      have mS:((w6.setCell ⟨g,1,none⟩ (.int .i64 r1)).setCell ⟨g,2,none⟩ (.int .i64 r2)).heap[w.heap.size+1]? =some (.cells #[.int .i64 m,.slice (some ⟨gr,o,none⟩) len cap] 27 (0,0)):=sN<|sN<|bS
      have mI:((w6.setCell ⟨g,1,none⟩ (.int .i64 r1)).setCell ⟨g,2,none⟩ (.int .i64 r2)).heap[w.heap.size+1+1]? =some (.cells #[.int .i64 x1,.int .i64 x2,.int .i64 x3,.int .i64 x4,.int .i64 x5] 29 (0,0)):=sN<|sN<|bI
      have mW:((w6.setCell ⟨g,1,none⟩ (.int .i64 r1)).setCell ⟨g,2,none⟩ (.int .i64 r2)).heap[w.heap.size+1+1+1]? =some (.cells #[.int .i64 ws,.int .i64 we] 48 (0,0)):=sN<|sN<|bW
      have mR:((w6.setCell ⟨g,1,none⟩ (.int .i64 r1)).setCell ⟨g,2,none⟩ (.int .i64 r2)).heap[w.heap.size+1+1+1+1]? =some (.cells #[.int .i64 0,.slice none 0 0] 27 (0,0)):=sN<|sN<|bR
      have mG:=t1
      have mb:Below w.heap.size w ((w6.setCell ⟨g,1,none⟩ (.int .i64 r1)).setCell ⟨g,2,none⟩ (.int .i64 r2)):=av (av (hbw) (by show w.heap.size≤g;omega) _) (by show w.heap.size≤g;omega) _
      have mz:w1.heap.size≤((w6.setCell ⟨g,1,none⟩ (.int .i64 r1)).setCell ⟨g,2,none⟩ (.int .i64 r2)).heap.size:=by simpa using hzr
      have mHRo:=ae (al (p:=⟨g,2,none⟩) (u:= .int .i64 r2) (al (p:=⟨g,1,none⟩) (u:= .int .i64 r1) (ab HRo) (fun e9=>by have h8:w1.heap.size≤g:=aE (ab HRo) _ e9;omega)) (fun e9=>by have h8:w1.heap.size≤g:=aE (ab HRo) _ e9;omega))
      have mHOo:=ae (al (p:=⟨g,2,none⟩) (u:= .int .i64 r2) (al (p:=⟨g,1,none⟩) (u:= .int .i64 r1) (ab HOo) (fun e9=>by have h8:w1.heap.size≤g:=aE (ab HOo) _ e9;omega)) (fun e9=>by have h8:w1.heap.size≤g:=aE (ab HOo) _ e9;omega))
      clear hHeld
      refine hK.out _ _ ?_ (fun hHeld=>?_)
      ·((try dsimp only);exact⟨mS,(ab Hrow0).below mb hgr⟩)
      clear hK K
      try simp only[Act.put,tA,tZ,tS]
      refine wpAnyH_done (oc) ?_ _
      clear hHeld hrow bG bJ bS bI bW bR HRo HOo hbw hzr hb6 t0
      generalize ((w6.setCell ⟨g,1,none⟩ (.int .i64 r1)).setCell ⟨g,2,none⟩ (.int .i64 r2))=w7 at mS mJ mI mW mR mG mb mz mHRo mHOo t1 ⊢
      go_wp2
      refine⟨⟨i+1,r1,r2,by omega,by go_num,ae ?_,ae ?_,HN5,ae ?_,hr2b,mG,mJ,mS,mI,mW,mR,mb,mz⟩,by simp[intOf];omega⟩
      ·rw[dt (ab HXK),ab HT0]
       simp only[Bool.not_true,Bool.false_eq_true,if_false,List.append_nil]
       exact ab mHRo
      ·rw[dt (ab HXK),ab HT0]
       exact ab mHOo
      ·rw[dt (ab HXK),ab HT0,if_pos rfl,spn_snoc,ab HSp]
       exact ab HP
     |false=>
      have HT0:Hid (bw x3 ws we (⟨yky,yst,yen,yan,yasu,yale,yamo,yfn,yfsu,yfle,yfmo,ytd,ytm⟩:aC)=false):=ae (by unfold bw;rw[show decide (yky=x3)=true from ke];exact ab HT)
      obtain⟨d0,d1,d2,d3,d4,d5,d6,d7,d8,d9,d10,d11,d12⟩:=id hrow
      obtain⟨s0,s1⟩:=Go.Proofs.YtdmhihcipkhecaaGreat.c2 bS
      go_wp2_with (at_builtin;go_loud (refine cV rfl _ _ 25 rfl w1.heap.size 57 i0 _ 13 104 Tryz.underlying25 hi hz0' hz1' hz2' rfl (by decide) u12 _ _ rfl (World.ownsRow.alloc (ab HRo) _) ⟨wt.heap.size,0,none⟩ 1 1 [.int .i64 yky,.int .i64 yst,.int .i64 yen,.int .i64 yan,.int .i64 yasu,.int .i64 yale,.int .i64 yamo,.int .i64 yfn,.int .i64 yfsu,.int .i64 yfle,.int .i64 yfmo,.int .i64 ytd,.bool ytm] rfl rfl (aX wt _ _ _ _ _ _ _ _ _ _ _ _ _ _) (nT) (by have:=ab hlr;unfold maxLen;omega) (by have:=ab hlr;omega) (oa) ?_);intro v5 w5 hown ml hat)
      clear s0 s1 d0 d1 d2 d3 d4 d5 d6 d7 d8 d9 d10 d11 d12 hrow
      have hge9:=ae (fun b9 (e9:(u12:Value).ownBlock=some b9)=>aE (ab HRo) b9 e9)
      replace bG:=(ml.block (g) (oa) (fun e9=>by have:=ab hge9 _ e9.symm;omega)).trans ((Below.heap_alloc _ _ _ (by omega)).trans bG)
      replace bJ:=(ml.block (w.heap.size) (oa) (fun e9=>by have:=ab hge9 _ e9.symm;omega)).trans ((Below.heap_alloc _ _ _ (by omega)).trans bJ)
      replace bS:=(ml.block (w.heap.size+1) (oa) (fun e9=>by have:=ab hge9 _ e9.symm;omega)).trans ((Below.heap_alloc _ _ _ (by omega)).trans bS)
      replace bI:=(ml.block (w.heap.size+1+1) (oa) (fun e9=>by have:=ab hge9 _ e9.symm;omega)).trans ((Below.heap_alloc _ _ _ (by omega)).trans bI)
      replace bW:=(ml.block (w.heap.size+1+1+1) (oa) (fun e9=>by have:=ab hge9 _ e9.symm;omega)).trans ((Below.heap_alloc _ _ _ (by omega)).trans bW)
      replace bR:=(ml.block (w.heap.size+1+1+1+1) (oa) (fun e9=>by have:=ab hge9 _ e9.symm;omega)).trans ((Below.heap_alloc _ _ _ (by omega)).trans bR)
      replace hbw:Below w.heap.size w w5:=(ag hbw _).grown ml (by have:=hbw.size;simp;omega) (fun b9 e9=>by have:=ab hge9 b9 e9;omega)
      have HN5:Hid (NeB u13 v5):=ae (fun k9 e8 e9=>by
       rcases hat with h9|h9
       ·rw[h9]at e9
        exact(ab HNe) _ e9 e8
       ·rw[h9]at e9
        have h8:=lp (ab HOo) k9 e8
        simp at e9
        omega)
      replace HOo:=ae (cU (World.ownsRow.alloc (ab HOo) _) ml (fun k9 e8 e9=>(ab HNe) _ e8 e9))
      replace HRo:=ae (bi (x:=(⟨yky,yst,yen,yan,yasu,yale,yamo,yfn,yfsu,yfle,yfmo,ytd,ytm⟩:aC)) hown)
      replace hzr:w1.heap.size≤w5.heap.size:=by have:=ml.size;simp at this;omega
      clear hown ml hat HNe hge9
      go_wp2
      refine⟨⟨i+1,p1,p2,by omega,by go_num,ae ?_,ae ?_,ae (ab HN5).symm,ae ?_,hp2,bG,bJ,bS,bI,bW,bR,hbw,hzr⟩,by simp[intOf];omega⟩
      ·rw[dt (ab HXK),ab HT0]
       exact ab HRo
      ·rw[dt (ab HXK),ab HT0]
       simp only[Bool.false_eq_true,if_false,List.append_nil]
       exact ab HOo
      ·rw[dt (ab HXK),ab HT0]
       simp only[Bool.false_eq_true,if_false,List.append_nil]
       exact ab HSp
    ·have kb:(yky==x3)=false:=by simp[k1]
     have ke:decide (yky=x3)=false:=by simp[k1]
     have HK1:=ae k1
     have HT0:Hid (bw x3 ws we (⟨yky,yst,yen,yan,yasu,yale,yamo,yfn,yfsu,yfle,yfmo,ytd,ytm⟩:aC)=false):=ae (by unfold bw;simp[ke])
     clear k1
     obtain⟨s0,s1⟩:=Go.Proofs.YtdmhihcipkhecaaGreat.c2 bS
     go_wp2_with fail
     clear s0 s1
     refine wp_region_held_drew (S:=(fun W=>W.heap[w.heap.size+1]? =some (.cells #[.int .i64 m,.slice (some ⟨gr,o,none⟩) len cap] 27 (0,0))∧W.heap[w.heap.size+1+1]? =some (.cells #[.int .i64 x1,.int .i64 x2,.int .i64 x3,.int .i64 x4,.int .i64 x5] 29 (0,0))∧W.heap[w.heap.size+1+1+1]? =some (.cells #[.int .i64 ws,.int .i64 we] 48 (0,0))∧dm W gr (o+i*13) (⟨yky,yst,yen,yan,yasu,yale,yamo,yfn,yfsu,yfle,yfmo,ytd,ytm⟩:aC))) (oc) ?_ (fun hHeld=>?_)
     ·((try dsimp only);exact⟨bS,bI,bW,hrow⟩)
     refine kV 0 ?_
     refine kT 1 ?_ ?_ ?_
     rotate_left
     ·(intro w9 hSw;(try dsimp only at hSw);obtain⟨q0,q1,q2,d0,d1,d2,d3,d4,d5,d6,d7,d8,d9,d10,d11,d12⟩:=hSw;obtain⟨ax0,ax1⟩:=Go.Proofs.YtdmhihcipkhecaaGreat.c2 q0;go_simp<;>with_reducible rfl)
     try simp only[Act.put,tA,tZ,tS]
     refine kV 2 ?_
     refine kV 3 ?_
     refine kV 4 ?_
     refine kT 5 ?_ ?_ ?_
     rotate_left
     ·(intro w9 hSw;(try dsimp only at hSw);obtain⟨q0,q1,q2,d0,d1,d2,d3,d4,d5,d6,d7,d8,d9,d10,d11,d12⟩:=hSw;go_simp<;>with_reducible rfl)
     try simp only[Act.put,tA,tZ,tS]
     refine kV 6 ?_
     refine kT 7 ?_ ?_ ?_
     rotate_left
     ·(intro w9 hSw;(try dsimp only at hSw);obtain⟨q0,q1,q2,d0,d1,d2,d3,d4,d5,d6,d7,d8,d9,d10,d11,d12⟩:=hSw;obtain⟨bx0,bx1,bx2,bx3,bx4⟩:=c5 q1;go_simp<;>with_reducible rfl)
     try simp only[Act.put,tA,tZ,tS]
     refine kV 8 ?_
     refine kV 9 ?_
     refine kU 10 ?_
     try simp only[Act.put,tA,tZ,tS]
     refine kU 11 ?_
     try simp only[Act.put,tA,tZ,tS]
     refine kU 12 ?_
     try simp only[Act.put,tA,tZ,tS]
     refine kU 13 ?_
     try simp only[Act.put,tA,tZ,tS]
     refine kU 14 ?_
     try simp only[Act.put,tA,tZ,tS]
     refine kU 15 ?_
     try simp only[Act.put,tA,tZ,tS]
     refine kU 16 ?_
     try simp only[Act.put,tA,tZ,tS]
     refine kU 17 ?_
     try simp only[Act.put,tA,tZ,tS]
     refine kV 18 ?_
     refine wpAnyH_done (oc) ?_ _
     have bear:Below wr.heap.size wr wr.drew:=ap (Below.refl _ _)
     clear hHeld
     generalize wr.drew=wt at bear ⊢
     replace hrow:=hrow.below bear (by have:=hbw.size;omega)
     have zwt:wr.heap.size≤wt.heap.size:=bear.size
     replace bG:=(bear.block g (by omega)).trans bG
     replace bJ:=(bear.block (w.heap.size) (by omega)).trans bJ
     replace bS:=(bear.block (w.heap.size+1) (by omega)).trans bS
     replace bI:=(bear.block (w.heap.size+1+1) (by omega)).trans bI
     replace bW:=(bear.block (w.heap.size+1+1+1) (by omega)).trans bW
     replace bR:=(bear.block (w.heap.size+1+1+1+1) (by omega)).trans bR
     replace HRo:=ae (aJ (ab HRo) (aB bear) (fun _ e9=>by cases e9))
     replace HOo:=ae (aJ (ab HOo) (aB bear) (fun _ e9=>by cases e9))
     replace hbw:Below w.heap.size w wt:=am hbw bear
     replace hzr:w1.heap.size≤wt.heap.size:=by omega
     clear bear
     obtain⟨d0,d1,d2,d3,d4,d5,d6,d7,d8,d9,d10,d11,d12⟩:=id hrow
     obtain⟨s0,s1⟩:=Go.Proofs.YtdmhihcipkhecaaGreat.c2 bS
     go_wp2_with (at_builtin;go_loud (refine cV rfl _ _ 25 rfl w1.heap.size 57 i0 _ 13 104 Tryz.underlying25 hi hz0' hz1' hz2' rfl (by decide) u12 _ _ rfl (World.ownsRow.alloc (ab HRo) _) ⟨wt.heap.size,0,none⟩ 1 1 [.int .i64 yky,.int .i64 yst,.int .i64 yen,.int .i64 yan,.int .i64 yasu,.int .i64 yale,.int .i64 yamo,.int .i64 yfn,.int .i64 yfsu,.int .i64 yfle,.int .i64 yfmo,.int .i64 ytd,.bool ytm] rfl rfl (aX wt _ _ _ _ _ _ _ _ _ _ _ _ _ _) (nT) (by have:=ab hlr;unfold maxLen;omega) (by have:=ab hlr;omega) (oa) ?_);intro v5 w5 hown ml hat)
     clear s0 s1 d0 d1 d2 d3 d4 d5 d6 d7 d8 d9 d10 d11 d12 hrow
     have hge9:=ae (fun b9 (e9:(u12:Value).ownBlock=some b9)=>aE (ab HRo) b9 e9)
     replace bG:=(ml.block (g) (oa) (fun e9=>by have:=ab hge9 _ e9.symm;omega)).trans ((Below.heap_alloc _ _ _ (by omega)).trans bG)
     replace bJ:=(ml.block (w.heap.size) (oa) (fun e9=>by have:=ab hge9 _ e9.symm;omega)).trans ((Below.heap_alloc _ _ _ (by omega)).trans bJ)
     replace bS:=(ml.block (w.heap.size+1) (oa) (fun e9=>by have:=ab hge9 _ e9.symm;omega)).trans ((Below.heap_alloc _ _ _ (by omega)).trans bS)
     replace bI:=(ml.block (w.heap.size+1+1) (oa) (fun e9=>by have:=ab hge9 _ e9.symm;omega)).trans ((Below.heap_alloc _ _ _ (by omega)).trans bI)
     replace bW:=(ml.block (w.heap.size+1+1+1) (oa) (fun e9=>by have:=ab hge9 _ e9.symm;omega)).trans ((Below.heap_alloc _ _ _ (by omega)).trans bW)
     replace bR:=(ml.block (w.heap.size+1+1+1+1) (oa) (fun e9=>by have:=ab hge9 _ e9.symm;omega)).trans ((Below.heap_alloc _ _ _ (by omega)).trans bR)
     replace hbw:Below w.heap.size w w5:=(ag hbw _).grown ml (by have:=hbw.size;simp;omega) (fun b9 e9=>by have:=ab hge9 b9 e9;omega)
     have HN5:Hid (NeB u13 v5):=ae (fun k9 e8 e9=>by
      rcases hat with h9|h9
      ·rw[h9]at e9
       exact(ab HNe) _ e9 e8
      ·rw[h9]at e9
       have h8:=lp (ab HOo) k9 e8
       simp at e9
       omega)
     replace HOo:=ae (cU (World.ownsRow.alloc (ab HOo) _) ml (fun k9 e8 e9=>(ab HNe) _ e8 e9))
     replace HRo:=ae (bi (x:=(⟨yky,yst,yen,yan,yasu,yale,yamo,yfn,yfsu,yfle,yfmo,ytd,ytm⟩:aC)) hown)
     replace hzr:w1.heap.size≤w5.heap.size:=by have:=ml.size;simp at this;omega
     clear hown ml hat HNe hge9
     go_wp2
     refine⟨⟨i+1,p1,p2,by omega,by go_num,ae ?_,ae ?_,ae (ab HN5).symm,ae ?_,hp2,bG,bJ,bS,bI,bW,bR,hbw,hzr⟩,by simp[intOf];omega⟩
     ·rw[dt (ab HXK),ab HT0]
      exact ab HRo
     ·rw[dt (ab HXK),ab HT0]
      simp only[Bool.false_eq_true,if_false,List.append_nil]
      exact ab HOo
     ·rw[dt (ab HXK),ab HT0]
      simp only[Bool.false_eq_true,if_false,List.append_nil]
      exact ab HSp
   ·skip
    obtain rfl:i=len:=by omega
    obtain⟨rest,hrest⟩:∃rest,xs.filter (fun y=> !bw x3 ws we y)=rest:=⟨_,rfl⟩
    obtain⟨old,hold⟩:∃old,xs.filter (bw x3 ws we)=old:=⟨_,rfl⟩
    rw[List.take_of_length_le (by omega),hrest]at HRo
    rw[List.take_of_length_le (by omega),hold]at HOo HSp
    have Hrest:=ae hrest
    have Hold:=ae hold
    have hlrest:Hid (rest.length≤800):=ae (by rw[←hrest];exact Nat.le_trans (List.length_filter_le _ _) (by omega))
    have hlold:Hid (old.length≤800):=ae (by rw[←hold];exact Nat.le_trans (List.length_filter_le _ _) (by omega))
    have hoxs:Hid (∀x ∈ old,x ∈ xs):=ae (fun x hx=>by rw[←hold]at hx;exact(List.mem_filter.1 hx).1)
    have hrxs:Hid (∀x ∈ rest,x ∈ xs):=ae (fun x hx=>by rw[←hrest]at hx;exact(List.mem_filter.1 hx).1)
    clear hrest hold
    have HSF:Hid (ku b l m xs x3 x4 ws we=(if p2+l≤m then(xs,[],false)else if dV (p1,p2) old=true then gb b l m xs x3 x4 p1 p2 else((eC b m rest (ff (x3,p1,p2) (dK x4 old))).1,dj old++(eC b m rest (ff (x3,p1,p2) (dK x4 old))).2,true))):=ae (by unfold ku;simp only[ab Hold,ab HSp,ab Hrest])
    obtain⟨s0,s1⟩:=Go.Proofs.YtdmhihcipkhecaaGreat.c2 bS
    obtain⟨sf0,sf1⟩:=f2 bS
    obtain⟨u0,u1,u2,u3,u4,u5,u6,u7,u8,u9,u10,u11,u12⟩:=eu bG
    obtain⟨j0,j1,j2,j3,j4,j5,j6,j7,j8,j9⟩:=cZ bJ
    obtain⟨r0,r1⟩:=Go.Proofs.YtdmhihcipkhecaaGreat.c2 bR
    obtain⟨rf0,rf1⟩:=f2 bR
    have zwr0:w.heap.size<wr.heap.size:=by omega
    have zwr1:w.heap.size+1<wr.heap.size:=by omega
    have zwr2:w.heap.size+1+1<wr.heap.size:=by omega
    have zwr3:w.heap.size+1+1+1<wr.heap.size:=by omega
    have zwr4:w.heap.size+1+1+1+1<wr.heap.size:=by omega
    by_cases hs:p2+l≤m
    ·have hsd:decide (p2+l≤m)=true:=by simp[hs]
     have hBF:Hid (Below w.heap.size w ((wr.setCell ⟨w.heap.size+1+1+1+1,0,none⟩ (.int .i64 m)).setCell ⟨w.heap.size+1+1+1+1,1,none⟩ (.slice a i cap))):=ae (av (av hbw (sA) _) (sA) _)
     clear bG bJ bS bI bW bR
     go_wp2
     refine bodyPost_ret (v:= .tuple #[.agg #[.int .i64 m,(.slice a i cap)],.slice (some ⟨wr.heap.size,0,none⟩) 0 0,.bool false]) (nh) rfl ?_
     rw[ab HSF,if_pos hs]
     exact⟨_,_,rfl,.inl ⟨rfl,rfl⟩,cE (B:=w.heap.size) _ _ (by have:=(ab hBF).size;exact this) (by simp),ag (ab hBF) _,_,_,_,rfl⟩
    ·have hsd:decide (p2+l≤m)=false:=decide_eq_false hs
     go_upto_region 13 with fail
     clear s0 s1 sf0 sf1 u0 u1 u2 u3 u4 u5 u6 u7 u8 u9 u10 u11 u12 j0 j1 j2 j3 j4 j5 j6 j7 j8 j9 r0 r1 rf0 rf1 hsd
     obtain⟨ao,co,hov,hOR,_,hOg⟩:=eo (ab HOo) (by have:=ab hlold;omega)
     obtain⟨no,hno⟩:∃no,old.length=no:=⟨_,rfl⟩
     rw[hno]at hov hOR hOg
     subst hov
     have hno8:no≤800:=by rw[←hno];exact ab hlold
     have HNo:=ae hno
     have HOR:=ae hOR
     clear hno hOR hOg
     obtain⟨ob,hob⟩:∃ob,dV (p1,p2) old=ob:=⟨_,rfl⟩
     have HOb:=ae hob
     clear hob
     go_cut [106] (fun pv W=>pv= .bool ob∧Below wr.heap.size wr W)
     case first=>
      go_wp2_with fail
      by_cases h1:no=1
      ·subst h1
       obtain⟨y,hy⟩:=List.length_eq_one_iff.1 (ab HNo)
       subst hy
       obtain⟨_,_,h9⟩:=ab HOR
       obtain⟨gq,oq,rfl,hr⟩:=h9.resolve_left (by decide)
       have hrow:dm wr gq oq y:=by have h8:=hr 0 y rfl;rwa [Nat.zero_mul,Nat.add_zero]at h8
       clear hr h9 HOR
       obtain⟨yky,yst,yen,yan,yasu,yale,yamo,yfn,yfsu,yfle,yfmo,ytd,ytm⟩:=y
       have HOne:Hid (dV (p1,p2) [(⟨yky,yst,yen,yan,yasu,yale,yamo,yfn,yfsu,yfle,yfmo,ytd,ytm⟩:aC)]=(decide (yst=p1)&&decide (yen=p2))):=ae rfl
       by_cases k1:yst=p1
       ·by_cases k2:yen=p2
        ·have HOne:Hid (dV (p1,p2) [(⟨yky,yst,yen,yan,yasu,yale,yamo,yfn,yfsu,yfle,yfmo,ytd,ytm⟩:aC)]=true):=ae (by rw[ab HOne];simp[k1,k2])
         have kb1:(yst==p1)=true:=by simp[k1]
         have kb2:(yen==p2)=true:=by simp[k2]
         clear k1 k2
         refine wp_region_held_drew (S:=(fun W=>W.heap[g]? =some (.cells #[.int .i64 x3,.int .i64 p1,.int .i64 p2,.int .i64 n1,.int .i64 n2,.int .i64 n3,.int .i64 n4,.int .i64 n1,.int .i64 n2,.int .i64 n3,.int .i64 n4,.int .i64 0,.bool false] 57 (0,0))∧dm W gq oq (⟨yky,yst,yen,yan,yasu,yale,yamo,yfn,yfsu,yfle,yfmo,ytd,ytm⟩:aC))) (oc) ?_ (fun hHeld=>?_)
         ·((try dsimp only);exact⟨bG,hrow⟩)
         refine kV 0 ?_
         refine kV 1 ?_
         refine kV 2 ?_
         refine kV 3 ?_
         refine kV 4 ?_
         refine kV 5 ?_
         refine kV 6 ?_
         refine kT 7 ?_ ?_ ?_
         rotate_left
         ·(intro w9 hSw;(try dsimp only at hSw);obtain⟨q0,d0,d1,d2,d3,d4,d5,d6,d7,d8,d9,d10,d11,d12⟩:=hSw;go_simp<;>with_reducible rfl)
         try simp only[Act.put,tA,tZ,tS]
         refine kV 8 ?_
         refine kT 9 ?_ ?_ ?_
         rotate_left
         ·(intro w9 hSw;(try dsimp only at hSw);obtain⟨q0,d0,d1,d2,d3,d4,d5,d6,d7,d8,d9,d10,d11,d12⟩:=hSw;obtain⟨ax0,ax1,ax2,ax3,ax4,ax5,ax6,ax7,ax8,ax9,ax10,ax11,ax12⟩:=eu q0;go_simp<;>with_reducible rfl)
         try simp only[Act.put,tA,tZ,tS]
         refine kV 10 ?_
         refine kV 11 ?_
         refine wpAnyH_done (oc) ?_ _
         clear hHeld
         go_wp2_with fail
         go_meet
         exact⟨by rw[←ab HOb];first|rfl|(rw[ab HOne])|(simp[ab HOne]),ap (Below.refl _ _)⟩
        ·have HOne:Hid (dV (p1,p2) [(⟨yky,yst,yen,yan,yasu,yale,yamo,yfn,yfsu,yfle,yfmo,ytd,ytm⟩:aC)]=false):=ae (by rw[ab HOne];simp[k2])
         have kb1:(yst==p1)=true:=by simp[k1]
         have kb2:(yen==p2)=false:=by simp[k2]
         clear k1 k2
         refine wp_region_held_drew (S:=(fun W=>W.heap[g]? =some (.cells #[.int .i64 x3,.int .i64 p1,.int .i64 p2,.int .i64 n1,.int .i64 n2,.int .i64 n3,.int .i64 n4,.int .i64 n1,.int .i64 n2,.int .i64 n3,.int .i64 n4,.int .i64 0,.bool false] 57 (0,0))∧dm W gq oq (⟨yky,yst,yen,yan,yasu,yale,yamo,yfn,yfsu,yfle,yfmo,ytd,ytm⟩:aC))) (oc) ?_ (fun hHeld=>?_)
         ·((try dsimp only);exact⟨bG,hrow⟩)
         refine kV 0 ?_
         refine kV 1 ?_
         refine kV 2 ?_
         refine kV 3 ?_
         refine kV 4 ?_
         refine kV 5 ?_
         refine kV 6 ?_
         refine kT 7 ?_ ?_ ?_
         rotate_left
         ·(intro w9 hSw;(try dsimp only at hSw);obtain⟨q0,d0,d1,d2,d3,d4,d5,d6,d7,d8,d9,d10,d11,d12⟩:=hSw;go_simp<;>with_reducible rfl)
         try simp only[Act.put,tA,tZ,tS]
         refine kV 8 ?_
         refine kT 9 ?_ ?_ ?_
         rotate_left
         ·(intro w9 hSw;(try dsimp only at hSw);obtain⟨q0,d0,d1,d2,d3,d4,d5,d6,d7,d8,d9,d10,d11,d12⟩:=hSw;obtain⟨ax0,ax1,ax2,ax3,ax4,ax5,ax6,ax7,ax8,ax9,ax10,ax11,ax12⟩:=eu q0;go_simp<;>with_reducible rfl)
         try simp only[Act.put,tA,tZ,tS]
         refine kV 10 ?_
         refine kV 11 ?_
         refine wpAnyH_done (oc) ?_ _
         clear hHeld
         go_wp2_with fail
         go_meet
         exact⟨by rw[←ab HOb];first|rfl|(rw[ab HOne])|(simp[ab HOne]),ap (Below.refl _ _)⟩
       ·have HOne:Hid (dV (p1,p2) [(⟨yky,yst,yen,yan,yasu,yale,yamo,yfn,yfsu,yfle,yfmo,ytd,ytm⟩:aC)]=false):=ae (by rw[ab HOne];simp[k1])
        have kb1:(yst==p1)=false:=by simp[k1]
        clear k1
        refine wp_region_held_drew (S:=(fun W=>W.heap[g]? =some (.cells #[.int .i64 x3,.int .i64 p1,.int .i64 p2,.int .i64 n1,.int .i64 n2,.int .i64 n3,.int .i64 n4,.int .i64 n1,.int .i64 n2,.int .i64 n3,.int .i64 n4,.int .i64 0,.bool false] 57 (0,0))∧dm W gq oq (⟨yky,yst,yen,yan,yasu,yale,yamo,yfn,yfsu,yfle,yfmo,ytd,ytm⟩:aC))) (oc) ?_ (fun hHeld=>?_)
        ·((try dsimp only);exact⟨bG,hrow⟩)
        refine kV 0 ?_
        refine kV 1 ?_
        refine kV 2 ?_
        refine kV 3 ?_
        refine kV 4 ?_
        refine kV 5 ?_
        refine kV 6 ?_
        refine kT 7 ?_ ?_ ?_
        rotate_left
        ·(intro w9 hSw;(try dsimp only at hSw);obtain⟨q0,d0,d1,d2,d3,d4,d5,d6,d7,d8,d9,d10,d11,d12⟩:=hSw;go_simp<;>with_reducible rfl)
        try simp only[Act.put,tA,tZ,tS]
        refine kV 8 ?_
        refine kT 9 ?_ ?_ ?_
        rotate_left
        ·(intro w9 hSw;(try dsimp only at hSw);obtain⟨q0,d0,d1,d2,d3,d4,d5,d6,d7,d8,d9,d10,d11,d12⟩:=hSw;obtain⟨ax0,ax1,ax2,ax3,ax4,ax5,ax6,ax7,ax8,ax9,ax10,ax11,ax12⟩:=eu q0;go_simp<;>with_reducible rfl)
        try simp only[Act.put,tA,tZ,tS]
        refine kV 10 ?_
        refine kV 11 ?_
        refine wpAnyH_done (oc) ?_ _
        clear hHeld
        go_wp2_with fail
        go_meet
        exact⟨by rw[←ab HOb];first|rfl|(rw[ab HOne])|(simp[ab HOne]),ap (Below.refl _ _)⟩
      ·have HOne:Hid (dV (p1,p2) old=false):=ae (by
        unfold dV
        split
        ·exact absurd (ab HNo).symm h1
        ·rfl)
       have kb1:((no:Int)==1)=false:=by simp;omega
       have kb2:decide ((no:Int)=1)=false:=by simp;omega
       have kb3:decide (no=1)=false:=by simp[h1]
       have kb4:(no==1)=false:=by simp[h1]
       refine wp_region_held_drew (S:=(fun W=>True)) (oc) trivial (fun hHeld=>?_)
       refine kV 0 ?_
       refine kV 1 ?_
       refine kV 2 ?_
       refine kV 3 ?_
       refine kU 4 ?_
       try simp only[Act.put,tA,tZ,tS]
       refine kU 5 ?_
       try simp only[Act.put,tA,tZ,tS]
       refine kU 6 ?_
       try simp only[Act.put,tA,tZ,tS]
       refine kU 7 ?_
       try simp only[Act.put,tA,tZ,tS]
       refine kU 8 ?_
       try simp only[Act.put,tA,tZ,tS]
       refine kU 9 ?_
       try simp only[Act.put,tA,tZ,tS]
       refine kU 10 ?_
       try simp only[Act.put,tA,tZ,tS]
       refine kV 11 ?_
       refine wpAnyH_done (oc) ?_ _
       clear hHeld
       go_wp2_with fail
       go_meet
       exact⟨by rw[←ab HOb];first|rfl|(rw[ab HOne])|(simp[ab HOne]),ap (Below.refl _ _)⟩
     case rest=>
      rename World=>w8
      obtain⟨rfl,hb8⟩:=hcut
      have zw8:wr.heap.size≤w8.heap.size:=hb8.size
      replace bG:=(hb8.block g (by omega)).trans bG
      replace bJ:=(hb8.block (w.heap.size) (by omega)).trans bJ
      replace bS:=(hb8.block (w.heap.size+1) (by omega)).trans bS
      replace bI:=(hb8.block (w.heap.size+1+1) (by omega)).trans bI
      replace bW:=(hb8.block (w.heap.size+1+1+1) (by omega)).trans bW
      replace bR:=(hb8.block (w.heap.size+1+1+1+1) (by omega)).trans bR
      replace HRo:=ae (aJ (ab HRo) (aB hb8) (fun _ e9=>by cases e9))
      replace HOo:=ae (aJ (ab HOo) (aB hb8) (fun _ e9=>by cases e9))
      replace hbw:Below w.heap.size w w8:=am hbw hb8
      replace hzr:w1.heap.size≤w8.heap.size:=by omega
      clear hb8 HNe HOR
      have hz8:w1.heap.size≤w8.heap.size:=hzr
      cases ob with
      |true=>
       have HX:=ae (h.below hbw)
       obtain⟨s0,s1⟩:=Go.Proofs.YtdmhihcipkhecaaGreat.c2 bS
       obtain⟨u0,u1,u2,u3,u4,u5,u6,u7,u8,u9,u10,u11,u12⟩:=eu bG
       obtain⟨j0,j1,j2,j3,j4,j5,j6,j7,j8,j9⟩:=cZ bJ
       obtain⟨i0,i1,i2,i3,i4⟩:=c5 bI
       go_wp2_with fail
       refine(jA s t k z q l e b v r m a i cap xs x1 x2 x3 x4 x5 p1 p2 _ (ab HX) (by omega) hl hp2 (fun x hx=>(hxs x hx).2)).mono ?_
       rintro e' w9 ⟨v1,v2,rfl,hS,hP,h9,hNn⟩
       clear s0 s1 u0 u1 u2 u3 u4 u5 u6 u7 u8 u9 u10 u11 u12 j0 j1 j2 j3 j4 j5 j6 j7 j8 j9 i0 i1 i2 i3 i4
       have bR9:=(h9.block (w.heap.size+1+1+1+1) (by omega)).trans bR
       have hB9:Below w.heap.size w w9:=am hbw h9
       have hz9:=hB9.size
       have hz98:=h9.size
       obtain⟨⟨ys,ps,ok⟩,hF⟩:∃r9,gb b l m xs x3 x4 p1 p2=r9:=⟨_,rfl⟩
       rw[hF]at hS hP ⊢
       dsimp only at hS hP ⊢
       have HRF:Hid (ku b l m xs x3 x4 ws we=(ys,ps,ok)):=ae (by rw[ab HSF,if_neg (by omega),if_pos (ab HOb),hF])
       obtain⟨a1,n1',c1,rfl⟩:=lB hS
       have HS9:=ae hS
       have HP9:=ae hP
       have HNn:=ae hNn
       clear hS hP hNn hF h9 bG bJ bS bI bW bR
       obtain⟨r0,r1⟩:=Go.Proofs.YtdmhihcipkhecaaGreat.c2 bR9
       obtain⟨rf0,rf1⟩:=f2 bR9
       have zr9:w.heap.size+1+1+1+1<w9.heap.size:=by omega
       have hSF:Hid (cg w ((w9.setCell ⟨w.heap.size+1+1+1+1,0,none⟩ (.int .i64 m)).setCell ⟨w.heap.size+1+1+1+1,1,none⟩ (.slice a1 n1' c1)) a i cap (.slice a1 n1' c1) xs ys):=ae (ei (ei (same_up (ab HS9) (by omega)) bR9 (by decide)) (Joins.block_setCell bR9 _) (by decide))
       have hPF:Hid (aR ((w9.setCell ⟨w.heap.size+1+1+1+1,0,none⟩ (.int .i64 m)).setCell ⟨w.heap.size+1+1+1+1,1,none⟩ (.slice a1 n1' c1)) w.heap.size v2 ps):=ae (al (al (World.ownsRow.mono (ab HP9) (by omega)) (af (ab HP9) bR9 (by decide))) (af (ab HP9) bR9 (by decide)))
       have hBF:Hid (Below w.heap.size w ((w9.setCell ⟨w.heap.size+1+1+1+1,0,none⟩ (.int .i64 m)).setCell ⟨w.heap.size+1+1+1+1,1,none⟩ (.slice a1 n1' c1))):=ae (av (av hB9 (sA) _) (sA) _)
       clear bR9
       go_wp2
       refine bodyPost_ret (v:= .tuple #[.agg #[.int .i64 m,(.slice a1 n1' c1)],v2,.bool ok]) (nh) rfl ?_
       rw[ab HRF]
       exact⟨_,_,rfl,ab hSF,ab hPF,ab hBF,ab HNn⟩
      |false=>
       go_wp2
       go_loopw [15,16] (fun pv iv wr=>∃(i2:Nat) (g1 g2 g3 g4:Int),i2≤no∧iv= .int .i64 i2∧Hid (aR wr w8.heap.size pv (dj (old.take i2)))∧Hid (∃k9,(pv:Value).ownBlock=some k9)∧Hid (aS wr w1.heap.size u12 rest)∧Hid (aS wr w1.heap.size (.slice ao no co) old)∧Hid (dK x4 (old.take i2)=(g1,g2,g3,g4))∧wr.heap[g]? =some (.cells #[.int .i64 x3,.int .i64 p1,.int .i64 p2,.int .i64 g1,.int .i64 g2,.int .i64 g3,.int .i64 g4,.int .i64 n1,.int .i64 n2,.int .i64 n3,.int .i64 n4,.int .i64 0,.bool false] 57 (0,0))∧wr.heap[w.heap.size]? =some (.cells #[.int .i64 s,.int .i64 t,.int .i64 k,.int .i64 z,.int .i64 q,.int .i64 l,.int .i64 e,.bool b,.int .i64 v,.int .i64 r] 24 (0,0))∧wr.heap[w.heap.size+1]? =some (.cells #[.int .i64 m,.slice a i cap] 27 (0,0))∧wr.heap[w.heap.size+1+1]? =some (.cells #[.int .i64 x1,.int .i64 x2,.int .i64 x3,.int .i64 x4,.int .i64 x5] 29 (0,0))∧wr.heap[w.heap.size+1+1+1]? =some (.cells #[.int .i64 ws,.int .i64 we] 48 (0,0))∧wr.heap[w.heap.size+1+1+1+1]? =some (.cells #[.int .i64 0,.slice none 0 0] 27 (0,0))∧Below w.heap.size w wr∧w8.heap.size≤wr.heap.size) (fun _ iv _=>no - (intOf iv).toNat)
       case atStart=>
        refine⟨0,n1,n2,n3,n4,Nat.zero_le _,rfl,ae ?_,ae ⟨_,rfl⟩,ae ?_,ae ?_,ae (ab HG),?_,?_,?_,?_,?_,?_,ag hbw _,by simp⟩
        ·exact cE (B:=w8.heap.size) _ _ (by omega) (by simp)
        ·exact World.ownsRow.alloc (ab HRo) _
        ·exact World.ownsRow.alloc (ab HOo) _
        ·exact(Below.heap_alloc _ _ _ (by omega)).trans bG
        ·exact(Below.heap_alloc _ _ _ (by omega)).trans bJ
        ·exact(Below.heap_alloc _ _ _ (by omega)).trans bS
        ·exact(Below.heap_alloc _ _ _ (by omega)).trans bI
        ·exact(Below.heap_alloc _ _ _ (by omega)).trans bW
        ·exact(Below.heap_alloc _ _ _ (by omega)).trans bR
       case round=>
        clear bG bJ bS bI bW bR HRo HOo hbw hzr
        obtain⟨i2,g1,g2,g3,g4,hi2,rfl,HPo,HNp,HRo,HOo,HAl,bG,bJ,bS,bI,bW,bR,hbw,hzr⟩:=hrel
        by_cases hlt:i2<no
        ·have hOR:=ja (ab HOo) (by have:=ab hlold;omega)
         obtain⟨_,_,hy⟩:=hOR
         obtain⟨gq,oq,rfl,hr⟩:=hy.resolve_left (by omega)
         obtain⟨y,hyk⟩:∃y,old[i2]? =some y:=⟨_,List.getElem?_eq_getElem (by rw[ab HNo];omega)⟩
         have hrow:=hr i2 y hyk
         have hgq:gq<wr.heap.size:=hrow.lt
         have hgg:g≠gq:=fun e9=>by have h9:w1.heap.size≤gq:=aE (ab HOo) gq rfl;omega
         have hgB:w.heap.size+5≤gq:=by have h9:w1.heap.size≤gq:=aE (ab HOo) gq rfl;omega
         have hyb:=hxs y (ab hoxs y (List.mem_of_getElem? hyk))
         have HYK:=ae hyk
         obtain⟨yky,yst,yen,yan,yasu,yale,yamo,yfn,yfsu,yfle,yfmo,ytd,ytm⟩:=y
         dsimp only at hyb
         obtain⟨⟨e1,e2,e3,e4⟩,he⟩:∃r9,eN (g1,g2,g3,g4) (yan,yasu,yale,yamo)=r9:=⟨_,rfl⟩
         have HB:=ae he
         have hlp:Hid ((dj (old.take i2)).length≤800):=ae (Nat.le_trans (gY _) (by rw[List.length_take];omega))
         clear hr hy hyk he
         go_wp2_with fail
         refine wp_region_held_drew (S:=(fun W=>dm W gq (oq+i2*13) (⟨yky,yst,yen,yan,yasu,yale,yamo,yfn,yfsu,yfle,yfmo,ytd,ytm⟩:aC))) (oc) ?_ (fun hHeld=>?_)
         ·((try dsimp only);exact hrow)
         refine kV 0 ?_
         refine kV 2 ?_
         refine kV 3 ?_
         refine kV 4 ?_
         refine kV 5 ?_
         refine kT 6 ?_ ?_ ?_
         rotate_left
         ·(intro w9 hSw;(try dsimp only at hSw);obtain⟨d0,d1,d2,d3,d4,d5,d6,d7,d8,d9,d10,d11,d12⟩:=hSw;go_simp<;>with_reducible rfl)
         try simp only[Act.put,tA,tZ,tS]
         refine rD 1 (fun K hK=>?_)
         obtain⟨u0,u1,u2,u3,u4,u5,u6,u7,u8,u9,u10,u11,u12⟩:=eu bG
         go_simp
         clear u0 u1 u2 u3 u4 u5 u6 u7 u8 u9 u10 u11 u12
         clear hHeld
         refine hK.out _ _ ?_ (fun hHeld=>?_)
         ·((try dsimp only);exact hrow)
         clear hK K
         try simp only[Act.put,tA,tZ,tS]
         refine rD 7 (fun K hK=>?_)
         go_simp
         (go_at_call 88;refine(specboth_is _ _ _ _ _ _ _ _ _ HB).mono ?_;rintro e9 w6 ⟨rfl,hb6⟩)
         (try go_wp2_with fail)
         replace hb6:Below wr.heap.size wr w6:=am (ap (Below.refl _ _)) hb6
         replace hrow:=hrow.below hb6 hgq
         have zw6:wr.heap.size≤w6.heap.size:=hb6.size
         replace bG:=(hb6.block g (by omega)).trans bG
         replace bJ:=(hb6.block (w.heap.size) (by omega)).trans bJ
         replace bS:=(hb6.block (w.heap.size+1) (by omega)).trans bS
         replace bI:=(hb6.block (w.heap.size+1+1) (by omega)).trans bI
         replace bW:=(hb6.block (w.heap.size+1+1+1) (by omega)).trans bW
         replace bR:=(hb6.block (w.heap.size+1+1+1+1) (by omega)).trans bR
         replace HRo:=ae (aJ (ab HRo) (aB hb6) (fun _ e9=>by cases e9))
         replace HOo:=ae (aJ (ab HOo) (aB hb6) (fun _ e9=>by cases e9))
         replace HPo:=ae (aJ (ab HPo) (aB hb6) (fun _ e9=>by cases e9))
         replace hbw:Below w.heap.size w w6:=am hbw hb6
         replace hzr:w8.heap.size≤w6.heap.size:=by omega
         clear hHeld
         refine hK.out _ _ ?_ (fun hHeld=>?_)
         ·((try dsimp only);exact hrow)
         clear hK K
         try simp only[Act.put,tA,tZ,tS]
         refine kV 8 ?_
         refine rD 9 (fun K hK=>?_)
         obtain⟨u0,u1,u2,u3,u4,u5,u6,u7,u8,u9,u10,u11,u12⟩:=eu bG
         obtain⟨uf0,uf1,uf2,uf3,uf4,uf5,uf6,uf7,uf8,uf9,uf10,uf11,uf12⟩:=f13 bG
         go_simp
         clear u0 u1 u2 u3 u4 u5 u6 u7 u8 u9 u10 u11 u12 uf0 uf1 uf2 uf3 uf4 uf5 uf6 uf7 uf8 uf9 uf10 uf11 uf12
         have t0:=Joins.block_setCell (g:=g) (i:=3) bG (.int .i64 e1)
         have t1:=Joins.block_setCell (g:=g) (i:=4) t0 (.int .i64 e2)
         have t2:=Joins.block_setCell (g:=g) (i:=5) t1 (.int .i64 e3)
         have t3:((((w6.setCell ⟨g,3,none⟩ (.int .i64 e1)).setCell ⟨g,4,none⟩ (.int .i64 e2)).setCell ⟨g,5,none⟩ (.int .i64 e3)).setCell ⟨g,6,none⟩ (.int .i64 e4)).heap[g]? =some (.cells #[.int .i64 x3,.int .i64 p1,.int .i64 p2,.int .i64 e1,.int .i64 e2,.int .i64 e3,.int .i64 e4,.int .i64 n1,.int .i64 n2,.int .i64 n3,.int .i64 n4,.int .i64 0,.bool false] 57 (0,0)):=Joins.block_setCell t2 _
         have mJ:((((w6.setCell ⟨g,3,none⟩ (.int .i64 e1)).setCell ⟨g,4,none⟩ (.int .i64 e2)).setCell ⟨g,5,none⟩ (.int .i64 e3)).setCell ⟨g,6,none⟩ (.int .i64 e4)).heap[w.heap.size]? =some (.cells #[.int .i64 s,.int .i64 t,.int .i64 k,.int .i64 z,.int .i64 q,.int .i64 l,.int .i64 e,.bool b,.int .i64 v,.int .i64 r] 24 (0,0)):=sN<|sN<|sN<|sN<|bJ
         have mS:((((w6.setCell ⟨g,3,none⟩ (.int .i64 e1)).setCell ⟨g,4,none⟩ (.int .i64 e2)).setCell ⟨g,5,none⟩ (.int .i64 e3)).setCell ⟨g,6,none⟩ (.int .i64 e4)).heap[w.heap.size+1]? =some (.cells #[.int .i64 m,.slice a i cap] 27 (0,0)):=sN<|sN<|sN<|sN<|bS
         have mI:((((w6.setCell ⟨g,3,none⟩ (.int .i64 e1)).setCell ⟨g,4,none⟩ (.int .i64 e2)).setCell ⟨g,5,none⟩ (.int .i64 e3)).setCell ⟨g,6,none⟩ (.int .i64 e4)).heap[w.heap.size+1+1]? =some (.cells #[.int .i64 x1,.int .i64 x2,.int .i64 x3,.int .i64 x4,.int .i64 x5] 29 (0,0)):=sN<|sN<|sN<|sN<|bI
         have mW:((((w6.setCell ⟨g,3,none⟩ (.int .i64 e1)).setCell ⟨g,4,none⟩ (.int .i64 e2)).setCell ⟨g,5,none⟩ (.int .i64 e3)).setCell ⟨g,6,none⟩ (.int .i64 e4)).heap[w.heap.size+1+1+1]? =some (.cells #[.int .i64 ws,.int .i64 we] 48 (0,0)):=sN<|sN<|sN<|sN<|bW
         have mR:((((w6.setCell ⟨g,3,none⟩ (.int .i64 e1)).setCell ⟨g,4,none⟩ (.int .i64 e2)).setCell ⟨g,5,none⟩ (.int .i64 e3)).setCell ⟨g,6,none⟩ (.int .i64 e4)).heap[w.heap.size+1+1+1+1]? =some (.cells #[.int .i64 0,.slice none 0 0] 27 (0,0)):=sN<|sN<|sN<|sN<|bR
         have mG:=t3
         have mb:Below w.heap.size w ((((w6.setCell ⟨g,3,none⟩ (.int .i64 e1)).setCell ⟨g,4,none⟩ (.int .i64 e2)).setCell ⟨g,5,none⟩ (.int .i64 e3)).setCell ⟨g,6,none⟩ (.int .i64 e4)):=av (av (av (av (hbw) (by show w.heap.size≤g;omega) _) (by show w.heap.size≤g;omega) _) (by show w.heap.size≤g;omega) _) (by show w.heap.size≤g;omega) _
         have mz:w8.heap.size≤((((w6.setCell ⟨g,3,none⟩ (.int .i64 e1)).setCell ⟨g,4,none⟩ (.int .i64 e2)).setCell ⟨g,5,none⟩ (.int .i64 e3)).setCell ⟨g,6,none⟩ (.int .i64 e4)).heap.size:=by simpa using hzr
         have mHRo:=ae (al (p:=⟨g,6,none⟩) (u:= .int .i64 e4) (al (p:=⟨g,5,none⟩) (u:= .int .i64 e3) (al (p:=⟨g,4,none⟩) (u:= .int .i64 e2) (al (p:=⟨g,3,none⟩) (u:= .int .i64 e1) (ab HRo) (fun e9=>by have h8:w1.heap.size≤g:=aE (ab HRo) _ e9;omega)) (fun e9=>by have h8:w1.heap.size≤g:=aE (ab HRo) _ e9;omega)) (fun e9=>by have h8:w1.heap.size≤g:=aE (ab HRo) _ e9;omega)) (fun e9=>by have h8:w1.heap.size≤g:=aE (ab HRo) _ e9;omega))
         have mHOo:=ae (al (p:=⟨g,6,none⟩) (u:= .int .i64 e4) (al (p:=⟨g,5,none⟩) (u:= .int .i64 e3) (al (p:=⟨g,4,none⟩) (u:= .int .i64 e2) (al (p:=⟨g,3,none⟩) (u:= .int .i64 e1) (ab HOo) (fun e9=>by have h8:w1.heap.size≤g:=aE (ab HOo) _ e9;omega)) (fun e9=>by have h8:w1.heap.size≤g:=aE (ab HOo) _ e9;omega)) (fun e9=>by have h8:w1.heap.size≤g:=aE (ab HOo) _ e9;omega)) (fun e9=>by have h8:w1.heap.size≤g:=aE (ab HOo) _ e9;omega))
         have mHPo:=ae (al (p:=⟨g,6,none⟩) (u:= .int .i64 e4) (al (p:=⟨g,5,none⟩) (u:= .int .i64 e3) (al (p:=⟨g,4,none⟩) (u:= .int .i64 e2) (al (p:=⟨g,3,none⟩) (u:= .int .i64 e1) (ab HPo) (fun e9=>by have h8:w8.heap.size≤g:=aE (ab HPo) _ e9;omega)) (fun e9=>by have h8:w8.heap.size≤g:=aE (ab HPo) _ e9;omega)) (fun e9=>by have h8:w8.heap.size≤g:=aE (ab HPo) _ e9;omega)) (fun e9=>by have h8:w8.heap.size≤g:=aE (ab HPo) _ e9;omega))
         have mrow:dm ((((w6.setCell ⟨g,3,none⟩ (.int .i64 e1)).setCell ⟨g,4,none⟩ (.int .i64 e2)).setCell ⟨g,5,none⟩ (.int .i64 e3)).setCell ⟨g,6,none⟩ (.int .i64 e4)) gq (oq+i2*13) (⟨yky,yst,yen,yan,yasu,yale,yamo,yfn,yfsu,yfle,yfmo,ytd,ytm⟩:aC):=jb (jb (jb (jb hrow hgg) hgg) hgg) hgg
         clear hHeld
         refine hK.out _ _ ?_ (fun hHeld=>?_)
         ·((try dsimp only);exact mrow)
         clear hK K
         try simp only[Act.put,tA,tZ,tS]
         refine wpAnyH_done (oc) ?_ _
         have zw7:wr.heap.size≤((((w6.setCell ⟨g,3,none⟩ (.int .i64 e1)).setCell ⟨g,4,none⟩ (.int .i64 e2)).setCell ⟨g,5,none⟩ (.int .i64 e3)).setCell ⟨g,6,none⟩ (.int .i64 e4)).heap.size:=by have:=hb6.size;simpa using this
         clear hHeld hrow bG bJ bS bI bW bR HRo HOo HPo hbw hzr hb6 t0 t1 t2 t3
         generalize ((((w6.setCell ⟨g,3,none⟩ (.int .i64 e1)).setCell ⟨g,4,none⟩ (.int .i64 e2)).setCell ⟨g,5,none⟩ (.int .i64 e3)).setCell ⟨g,6,none⟩ (.int .i64 e4))=w7 at mS mJ mI mW mR mG mb mz mHRo mHOo mHPo mrow zw7 ⊢
         have HA2:Hid (dK x4 (old.take (i2+1))=(e1,e2,e3,e4)):=ae (by rw[List.take_add_one,ab HYK];unfold dK at *;rw[Option.toList,List.foldl_append,ab HAl];exact ab HB)
         obtain⟨d0,d1,d2,d3,d4,d5,d6,d7,d8,d9,d10,d11,d12⟩:=id mrow
         by_cases htp:0<ytd
         ·have hdp:decide (0<ytd)=true:=decide_eq_true htp
          have HGo:Hid (dj (old.take (i2+1))=dj (old.take i2)++[⟨yky,yst,yen,ytd,3,0,0,0,0⟩]):=ae (gon_yes (ab HYK) htp)
          go_wp2_with fail
          clear d0 d1 d2 d3 d4 d5 d6 d7 d8 d9 d10 d11 d12 hdp
          refine wp_region_held_drew (S:=(fun W=>dm W gq (oq+i2*13) (⟨yky,yst,yen,yan,yasu,yale,yamo,yfn,yfsu,yfle,yfmo,ytd,ytm⟩:aC))) (oc) ?_ (fun hHeld=>?_)
          ·((try dsimp only);exact mrow)
          refine kV 0 ?_
          refine kV 1 ?_
          refine kV 2 ?_
          refine kV 3 ?_
          refine kV 4 ?_
          refine kT 5 ?_ ?_ ?_
          rotate_left
          ·(intro w9 hSw;(try dsimp only at hSw);obtain⟨d0,d1,d2,d3,d4,d5,d6,d7,d8,d9,d10,d11,d12⟩:=hSw;go_simp<;>with_reducible rfl)
          try simp only[Act.put,tA,tZ,tS]
          refine kV 6 ?_
          refine kV 7 ?_
          refine kV 8 ?_
          refine kV 9 ?_
          refine kT 10 ?_ ?_ ?_
          rotate_left
          ·(intro w9 hSw;(try dsimp only at hSw);obtain⟨d0,d1,d2,d3,d4,d5,d6,d7,d8,d9,d10,d11,d12⟩:=hSw;go_simp<;>with_reducible rfl)
          try simp only[Act.put,tA,tZ,tS]
          refine kV 11 ?_
          refine kV 12 ?_
          refine kV 13 ?_
          refine kV 14 ?_
          refine kT 15 ?_ ?_ ?_
          rotate_left
          ·(intro w9 hSw;(try dsimp only at hSw);obtain⟨d0,d1,d2,d3,d4,d5,d6,d7,d8,d9,d10,d11,d12⟩:=hSw;go_simp<;>with_reducible rfl)
          try simp only[Act.put,tA,tZ,tS]
          refine kV 16 ?_
          refine rD 17 (fun K hK=>?_)
          go_simp
          have srow:dm (w7.drew.alloc (.cells #[.int .i64 yky,.int .i64 yst,.int .i64 yen,.int .i64 ytd,.int .i64 3,.int .i64 0,.int .i64 0,.int .i64 0,.int .i64 0] 52)) gq (oq+i2*13) (⟨yky,yst,yen,yan,yasu,yale,yamo,yfn,yfsu,yfle,yfmo,ytd,ytm⟩:aC):=mrow.below (ag (ap (Below.refl w7.heap.size w7)) _) (by omega)
          clear hHeld
          refine hK.out _ _ ?_ (fun hHeld=>?_)
          ·((try dsimp only);exact srow)
          clear hK K
          try simp only[Act.put,tA,tZ,tS]
          refine rD 18 (fun K hK=>?_)
          refine ct rfl _ _ 32 rfl w8.heap.size 52 i1 _ 9 72 Tryz.underlying32 hi1 hy0 hy1 hy2 rfl (by decide) u15 _ _ rfl (gI (ab mHPo) _) ⟨w7.heap.size,0,none⟩ 1 1 [.int .i64 yky,.int .i64 yst,.int .i64 yen,.int .i64 ytd,.int .i64 3,.int .i64 0,.int .i64 0,.int .i64 0,.int .i64 0] rfl rfl (eM w7.drew _ _ _ _ _ _ _ _ _ _) (nT) (by have:=ab hlp;unfold maxLen;omega) (by have:=ab hlp;omega) (by show w8.heap.size≤(w7.drew.alloc _).heap.size;simp;omega) ?_
          intro v5 w5 hown ml hat
          have hge9:=ae (fun b9 (e9:(u15:Value).ownBlock=some b9)=>aE (ab mHPo) b9 e9)
          have srow5:dm w5 gq (oq+i2*13) (⟨yky,yst,yen,yan,yasu,yale,yamo,yfn,yfsu,yfle,yfmo,ytd,ytm⟩:aC):=srow.grown ml (fun e9=>cf (ab mHOo) (ab mHPo) (by decide) (k:=gq) rfl e9.symm)
          have cG:w5.heap[g]? =some (.cells #[.int .i64 x3,.int .i64 p1,.int .i64 p2,.int .i64 e1,.int .i64 e2,.int .i64 e3,.int .i64 e4,.int .i64 n1,.int .i64 n2,.int .i64 n3,.int .i64 n4,.int .i64 0,.bool false] 57 (0,0)):=(ml.block (g) (oa) (fun e9=>by have:=ab hge9 _ e9.symm;omega)).trans ((Below.heap_alloc w7.drew _ _ (by show _<w7.heap.size;omega)).trans mG)
          have cJ:w5.heap[w.heap.size]? =some (.cells #[.int .i64 s,.int .i64 t,.int .i64 k,.int .i64 z,.int .i64 q,.int .i64 l,.int .i64 e,.bool b,.int .i64 v,.int .i64 r] 24 (0,0)):=(ml.block (w.heap.size) (oa) (fun e9=>by have:=ab hge9 _ e9.symm;omega)).trans ((Below.heap_alloc w7.drew _ _ (by show _<w7.heap.size;omega)).trans mJ)
          have cS:w5.heap[w.heap.size+1]? =some (.cells #[.int .i64 m,.slice a i cap] 27 (0,0)):=(ml.block (w.heap.size+1) (oa) (fun e9=>by have:=ab hge9 _ e9.symm;omega)).trans ((Below.heap_alloc w7.drew _ _ (by show _<w7.heap.size;omega)).trans mS)
          have cI:w5.heap[w.heap.size+1+1]? =some (.cells #[.int .i64 x1,.int .i64 x2,.int .i64 x3,.int .i64 x4,.int .i64 x5] 29 (0,0)):=(ml.block (w.heap.size+1+1) (oa) (fun e9=>by have:=ab hge9 _ e9.symm;omega)).trans ((Below.heap_alloc w7.drew _ _ (by show _<w7.heap.size;omega)).trans mI)
          have cW:w5.heap[w.heap.size+1+1+1]? =some (.cells #[.int .i64 ws,.int .i64 we] 48 (0,0)):=(ml.block (w.heap.size+1+1+1) (oa) (fun e9=>by have:=ab hge9 _ e9.symm;omega)).trans ((Below.heap_alloc w7.drew _ _ (by show _<w7.heap.size;omega)).trans mW)
          have cR:w5.heap[w.heap.size+1+1+1+1]? =some (.cells #[.int .i64 0,.slice none 0 0] 27 (0,0)):=(ml.block (w.heap.size+1+1+1+1) (oa) (fun e9=>by have:=ab hge9 _ e9.symm;omega)).trans ((Below.heap_alloc w7.drew _ _ (by show _<w7.heap.size;omega)).trans mR)
          have cb:Below w.heap.size w w5:=(ag (ap mb) _).grown ml (by have:=mb.size;simp;omega) (fun b9 e9=>by have:=ab hge9 b9 e9;omega)
          have cRo:=ae (cU (gI (ab mHRo) (.cells #[.int .i64 yky,.int .i64 yst,.int .i64 yen,.int .i64 ytd,.int .i64 3,.int .i64 0,.int .i64 0,.int .i64 0,.int .i64 0] 52)) ml (fun k9 e8 e9=>cf (ab mHRo) (ab mHPo) (by decide) e9 e8))
          have cOo:=ae (cU (gI (ab mHOo) (.cells #[.int .i64 yky,.int .i64 yst,.int .i64 yen,.int .i64 ytd,.int .i64 3,.int .i64 0,.int .i64 0,.int .i64 0,.int .i64 0] 52)) ml (fun k9 e8 e9=>cf (ab mHOo) (ab mHPo) (by decide) e9 e8))
          have cPo:Hid (aR w5 w8.heap.size v5 (dj (old.take (i2+1)))):=ae (by rw[ab HGo];exact fw (x:=⟨yky,yst,yen,ytd,3,0,0,0,0⟩) hown)
          have cNp:Hid (∃k9,(v5:Value).ownBlock=some k9):=ae (hat.elim (fun h9=>by rw[h9];exact ab HNp) (fun h9=>⟨_,h9⟩))
          have cz:w8.heap.size≤w5.heap.size:=by have:=ml.size;simp at this;omega
          clear hHeld
          refine hK.out _ _ ?_ (fun hHeld=>?_)
          ·((try dsimp only);exact srow5)
          clear hK K
          try simp only[Act.put,tA,tZ,tS]
          refine rD 19 (fun K hK=>?_)
          go_simp
          clear hHeld
          refine hK.out _ _ ?_ (fun hHeld=>?_)
          ·((try dsimp only);exact srow5)
          clear hK K
          try simp only[Act.put,tA,tZ,tS]
          refine wpAnyH_done (oc) ?_ _
          clear hHeld ml hat hown hge9 srow srow5 mrow mS mJ mI mW mR mG mb mz mHRo mHOo mHPo
          go_wp2
          exact⟨⟨i2+1,e1,e2,e3,e4,by omega,by go_num,cPo,cNp,cRo,cOo,HA2,cG,cJ,cS,cI,cW,cR,cb,cz⟩,by simp[intOf];omega⟩
         ·have hdp:decide (0<ytd)=false:=decide_eq_false htp
          have HGo:Hid (dj (old.take (i2+1))=dj (old.take i2)):=ae (gon_no (ab HYK) htp)
          clear htp
          go_wp2
          exact⟨⟨i2+1,e1,e2,e3,e4,by omega,by go_num,ae (by rw[ab HGo];exact ab mHPo),HNp,mHRo,mHOo,HA2,mG,mJ,mS,mI,mW,mR,mb,mz⟩,by simp[intOf];omega⟩
        ·skip
         obtain rfl:i2=no:=by omega
         rw[List.take_of_length_le (by rw[ab HNo];exact Nat.le_refl _)]at HPo HAl
         obtain⟨ar,cr,hrv,hRR,_,_⟩:=eo (ab HRo) (by have:=ab hlrest;omega)
         obtain⟨nr,hnr⟩:∃nr,rest.length=nr:=⟨_,rfl⟩
         rw[hnr]at hrv hRR
         have hnr8:nr≤800:=by rw[←hnr];exact ab hlrest
         subst hrv
         clear hRR
         have Hnr:=ae hnr
         clear hnr
         obtain⟨u0,u1,u2,u3,u4,u5,u6,u7,u8,u9,u10,u11,u12⟩:=eu bG
         obtain⟨uf0,uf1,uf2,uf3,uf4,uf5,uf6,uf7,uf8,uf9,uf10,uf11,uf12⟩:=f13 bG
         obtain⟨s0,s1⟩:=Go.Proofs.YtdmhihcipkhecaaGreat.c2 bS
         obtain⟨sf0,sf1⟩:=f2 bS
         go_upto_region 24 with fail
         clear u0 u1 u2 u3 u4 u5 u6 u7 u8 u9 u10 u11 u12 uf0 uf1 uf2 uf3 uf4 uf5 uf6 uf7 uf8 uf9 uf10 uf11 uf12 s0 s1 sf0 sf1
         have t0:=Joins.block_setCell (g:=g) (i:=7) bG (.int .i64 g1)
         have t1:=Joins.block_setCell (g:=g) (i:=8) t0 (.int .i64 g2)
         have t2:=Joins.block_setCell (g:=g) (i:=9) t1 (.int .i64 g3)
         have t3:((((wr.setCell ⟨g,7,none⟩ (.int .i64 g1)).setCell ⟨g,8,none⟩ (.int .i64 g2)).setCell ⟨g,9,none⟩ (.int .i64 g3)).setCell ⟨g,10,none⟩ (.int .i64 g4)).heap[g]? =some (.cells #[.int .i64 x3,.int .i64 p1,.int .i64 p2,.int .i64 g1,.int .i64 g2,.int .i64 g3,.int .i64 g4,.int .i64 g1,.int .i64 g2,.int .i64 g3,.int .i64 g4,.int .i64 0,.bool false] 57 (0,0)):=Joins.block_setCell t2 _
         have mJ:((((wr.setCell ⟨g,7,none⟩ (.int .i64 g1)).setCell ⟨g,8,none⟩ (.int .i64 g2)).setCell ⟨g,9,none⟩ (.int .i64 g3)).setCell ⟨g,10,none⟩ (.int .i64 g4)).heap[w.heap.size]? =some (.cells #[.int .i64 s,.int .i64 t,.int .i64 k,.int .i64 z,.int .i64 q,.int .i64 l,.int .i64 e,.bool b,.int .i64 v,.int .i64 r] 24 (0,0)):=sN<|sN<|sN<|sN<|bJ
         have mS:((((wr.setCell ⟨g,7,none⟩ (.int .i64 g1)).setCell ⟨g,8,none⟩ (.int .i64 g2)).setCell ⟨g,9,none⟩ (.int .i64 g3)).setCell ⟨g,10,none⟩ (.int .i64 g4)).heap[w.heap.size+1]? =some (.cells #[.int .i64 m,.slice a i cap] 27 (0,0)):=sN<|sN<|sN<|sN<|bS
         have mI:((((wr.setCell ⟨g,7,none⟩ (.int .i64 g1)).setCell ⟨g,8,none⟩ (.int .i64 g2)).setCell ⟨g,9,none⟩ (.int .i64 g3)).setCell ⟨g,10,none⟩ (.int .i64 g4)).heap[w.heap.size+1+1]? =some (.cells #[.int .i64 x1,.int .i64 x2,.int .i64 x3,.int .i64 x4,.int .i64 x5] 29 (0,0)):=sN<|sN<|sN<|sN<|bI
         have mW:((((wr.setCell ⟨g,7,none⟩ (.int .i64 g1)).setCell ⟨g,8,none⟩ (.int .i64 g2)).setCell ⟨g,9,none⟩ (.int .i64 g3)).setCell ⟨g,10,none⟩ (.int .i64 g4)).heap[w.heap.size+1+1+1]? =some (.cells #[.int .i64 ws,.int .i64 we] 48 (0,0)):=sN<|sN<|sN<|sN<|bW
         have mR:((((wr.setCell ⟨g,7,none⟩ (.int .i64 g1)).setCell ⟨g,8,none⟩ (.int .i64 g2)).setCell ⟨g,9,none⟩ (.int .i64 g3)).setCell ⟨g,10,none⟩ (.int .i64 g4)).heap[w.heap.size+1+1+1+1]? =some (.cells #[.int .i64 0,.slice none 0 0] 27 (0,0)):=sN<|sN<|sN<|sN<|bR
         have mG:=t3
         have mb:Below w.heap.size w ((((wr.setCell ⟨g,7,none⟩ (.int .i64 g1)).setCell ⟨g,8,none⟩ (.int .i64 g2)).setCell ⟨g,9,none⟩ (.int .i64 g3)).setCell ⟨g,10,none⟩ (.int .i64 g4)):=av (av (av (av (hbw) (by show w.heap.size≤g;omega) _) (by show w.heap.size≤g;omega) _) (by show w.heap.size≤g;omega) _) (by show w.heap.size≤g;omega) _
         have mz:w8.heap.size≤((((wr.setCell ⟨g,7,none⟩ (.int .i64 g1)).setCell ⟨g,8,none⟩ (.int .i64 g2)).setCell ⟨g,9,none⟩ (.int .i64 g3)).setCell ⟨g,10,none⟩ (.int .i64 g4)).heap.size:=by simpa using hzr
         have mHRo:=ae (al (p:=⟨g,10,none⟩) (u:= .int .i64 g4) (al (p:=⟨g,9,none⟩) (u:= .int .i64 g3) (al (p:=⟨g,8,none⟩) (u:= .int .i64 g2) (al (p:=⟨g,7,none⟩) (u:= .int .i64 g1) (ab HRo) (fun e9=>by have h8:w1.heap.size≤g:=aE (ab HRo) _ e9;omega)) (fun e9=>by have h8:w1.heap.size≤g:=aE (ab HRo) _ e9;omega)) (fun e9=>by have h8:w1.heap.size≤g:=aE (ab HRo) _ e9;omega)) (fun e9=>by have h8:w1.heap.size≤g:=aE (ab HRo) _ e9;omega))
         have mHPo:=ae (al (p:=⟨g,10,none⟩) (u:= .int .i64 g4) (al (p:=⟨g,9,none⟩) (u:= .int .i64 g3) (al (p:=⟨g,8,none⟩) (u:= .int .i64 g2) (al (p:=⟨g,7,none⟩) (u:= .int .i64 g1) (ab HPo) (fun e9=>by have h8:w8.heap.size≤g:=aE (ab HPo) _ e9;omega)) (fun e9=>by have h8:w8.heap.size≤g:=aE (ab HPo) _ e9;omega)) (fun e9=>by have h8:w8.heap.size≤g:=aE (ab HPo) _ e9;omega)) (fun e9=>by have h8:w8.heap.size≤g:=aE (ab HPo) _ e9;omega))
         have pS:(((((wr.setCell ⟨g,7,none⟩ (.int .i64 g1)).setCell ⟨g,8,none⟩ (.int .i64 g2)).setCell ⟨g,9,none⟩ (.int .i64 g3)).setCell ⟨g,10,none⟩ (.int .i64 g4)).setCell ⟨w.heap.size+1,1,none⟩ (.slice ar nr cr)).heap[w.heap.size+1]? =some (.cells #[.int .i64 m,.slice ar nr cr] 27 (0,0)):=Joins.block_setCell mS _
         have pJ:(((((wr.setCell ⟨g,7,none⟩ (.int .i64 g1)).setCell ⟨g,8,none⟩ (.int .i64 g2)).setCell ⟨g,9,none⟩ (.int .i64 g3)).setCell ⟨g,10,none⟩ (.int .i64 g4)).setCell ⟨w.heap.size+1,1,none⟩ (.slice ar nr cr)).heap[w.heap.size]? =some (.cells #[.int .i64 s,.int .i64 t,.int .i64 k,.int .i64 z,.int .i64 q,.int .i64 l,.int .i64 e,.bool b,.int .i64 v,.int .i64 r] 24 (0,0)):=(Below.heap_setCell _ _ _ _ (by show _≠w.heap.size+1;omega)).trans mJ
         have pI:(((((wr.setCell ⟨g,7,none⟩ (.int .i64 g1)).setCell ⟨g,8,none⟩ (.int .i64 g2)).setCell ⟨g,9,none⟩ (.int .i64 g3)).setCell ⟨g,10,none⟩ (.int .i64 g4)).setCell ⟨w.heap.size+1,1,none⟩ (.slice ar nr cr)).heap[w.heap.size+1+1]? =some (.cells #[.int .i64 x1,.int .i64 x2,.int .i64 x3,.int .i64 x4,.int .i64 x5] 29 (0,0)):=(Below.heap_setCell _ _ _ _ (by show _≠w.heap.size+1;omega)).trans mI
         have pW:(((((wr.setCell ⟨g,7,none⟩ (.int .i64 g1)).setCell ⟨g,8,none⟩ (.int .i64 g2)).setCell ⟨g,9,none⟩ (.int .i64 g3)).setCell ⟨g,10,none⟩ (.int .i64 g4)).setCell ⟨w.heap.size+1,1,none⟩ (.slice ar nr cr)).heap[w.heap.size+1+1+1]? =some (.cells #[.int .i64 ws,.int .i64 we] 48 (0,0)):=(Below.heap_setCell _ _ _ _ (by show _≠w.heap.size+1;omega)).trans mW
         have pR:(((((wr.setCell ⟨g,7,none⟩ (.int .i64 g1)).setCell ⟨g,8,none⟩ (.int .i64 g2)).setCell ⟨g,9,none⟩ (.int .i64 g3)).setCell ⟨g,10,none⟩ (.int .i64 g4)).setCell ⟨w.heap.size+1,1,none⟩ (.slice ar nr cr)).heap[w.heap.size+1+1+1+1]? =some (.cells #[.int .i64 0,.slice none 0 0] 27 (0,0)):=(Below.heap_setCell _ _ _ _ (by show _≠w.heap.size+1;omega)).trans mR
         have pG:(((((wr.setCell ⟨g,7,none⟩ (.int .i64 g1)).setCell ⟨g,8,none⟩ (.int .i64 g2)).setCell ⟨g,9,none⟩ (.int .i64 g3)).setCell ⟨g,10,none⟩ (.int .i64 g4)).setCell ⟨w.heap.size+1,1,none⟩ (.slice ar nr cr)).heap[g]? =some (.cells #[.int .i64 x3,.int .i64 p1,.int .i64 p2,.int .i64 g1,.int .i64 g2,.int .i64 g3,.int .i64 g4,.int .i64 g1,.int .i64 g2,.int .i64 g3,.int .i64 g4,.int .i64 0,.bool false] 57 (0,0)):=(Below.heap_setCell _ _ _ _ (by show _≠w.heap.size+1;omega)).trans mG
         have pRo:Hid (aS (((((wr.setCell ⟨g,7,none⟩ (.int .i64 g1)).setCell ⟨g,8,none⟩ (.int .i64 g2)).setCell ⟨g,9,none⟩ (.int .i64 g3)).setCell ⟨g,10,none⟩ (.int .i64 g4)).setCell ⟨w.heap.size+1,1,none⟩ (.slice ar nr cr)) w1.heap.size (.slice ar nr cr) rest):=ae (al (ab mHRo) (af (ab mHRo) mS (by decide)))
         have pPo:Hid (aR (((((wr.setCell ⟨g,7,none⟩ (.int .i64 g1)).setCell ⟨g,8,none⟩ (.int .i64 g2)).setCell ⟨g,9,none⟩ (.int .i64 g3)).setCell ⟨g,10,none⟩ (.int .i64 g4)).setCell ⟨w.heap.size+1,1,none⟩ (.slice ar nr cr)) w8.heap.size u15 (dj old)):=ae (al (ab mHPo) (af (ab mHPo) mS (by decide)))
         have pb:Below w.heap.size w (((((wr.setCell ⟨g,7,none⟩ (.int .i64 g1)).setCell ⟨g,8,none⟩ (.int .i64 g2)).setCell ⟨g,9,none⟩ (.int .i64 g3)).setCell ⟨g,10,none⟩ (.int .i64 g4)).setCell ⟨w.heap.size+1,1,none⟩ (.slice ar nr cr)):=av mb (by show w.heap.size≤w.heap.size+1;omega) _
         have pz:w8.heap.size≤(((((wr.setCell ⟨g,7,none⟩ (.int .i64 g1)).setCell ⟨g,8,none⟩ (.int .i64 g2)).setCell ⟨g,9,none⟩ (.int .i64 g3)).setCell ⟨g,10,none⟩ (.int .i64 g4)).setCell ⟨w.heap.size+1,1,none⟩ (.slice ar nr cr)).heap.size:=by simpa using hzr
         clear bG bJ bS bI bW bR HRo HOo HPo hbw hzr mG mJ mS mI mW mR mb mz mHRo mHPo t0 t1 t2 t3
         generalize (((((wr.setCell ⟨g,7,none⟩ (.int .i64 g1)).setCell ⟨g,8,none⟩ (.int .i64 g2)).setCell ⟨g,9,none⟩ (.int .i64 g3)).setCell ⟨g,10,none⟩ (.int .i64 g4)).setCell ⟨w.heap.size+1,1,none⟩ (.slice ar nr cr))=w10 at pS pJ pI pW pR pG pRo pPo pb pz ⊢
         obtain⟨u0,u1,u2,u3,u4,u5,u6,u7,u8,u9,u10,u11,u12⟩:=eu pG
         obtain⟨s0,s1⟩:=Go.Proofs.YtdmhihcipkhecaaGreat.c2 pS
         obtain⟨j0,j1,j2,j3,j4,j5,j6,j7,j8,j9⟩:=cZ pJ
         have HX:=ae (ja (ab pRo) (by have:=ab hlrest;omega))
         have hlo8:Hid ((dj old).length≤800):=ae (Nat.le_trans (gY _) (ab hlold))
         obtain⟨⟨ys,ps⟩,hF⟩:∃r9,eC b m rest (⟨x3,p1,p2,g1,g2,g3,g4,g1,g2,g3,g4,0,false⟩:aC)=r9:=⟨_,rfl⟩
         have hps1:ps.length≤1:=by have h9:=tl_len b m rest (⟨x3,p1,p2,g1,g2,g3,g4,g1,g2,g3,g4,0,false⟩:aC);rw[hF]at h9;exact h9
         have HRF:Hid (ku b l m xs x3 x4 ws we=(ys,dj old++ps,true)):=ae (by rw[ab HSF,if_neg (by omega),if_neg (by rw[ab HOb];simp),show ff (x3,p1,p2) (dK x4 old)=(⟨x3,p1,p2,g1,g2,g3,g4,g1,g2,g3,g4,0,false⟩:aC)from by rw[ab HAl];rfl,hF])
         go_wp2_with fail
         refine(jy s t k z q l e b v r m ar nr cr rest (⟨x3,p1,p2,g1,g2,g3,g4,g1,g2,g3,g4,0,false⟩:aC) _ (ab HX) (by omega) ⟨Int.le_refl _,(show(0:Int)≤100000 by decide)⟩).mono ?_
         rintro e' w11 ⟨v1,v2,rfl,hO,hP,h9,hNn⟩
         rw[hF]at hO hP
         dsimp only at hO hP
         clear u0 u1 u2 u3 u4 u5 u6 u7 u8 u9 u10 u11 u12 s0 s1 j0 j1 j2 j3 j4 j5 j6 j7 j8 j9
         obtain⟨a1,c1,rfl⟩:=dr hO
         obtain⟨a2,n2,c2,rfl⟩:=hNn
         have hn2:n2=ps.length:=own_n hP
         subst hn2
         have pS1:=(h9.block (w.heap.size+1) (by omega)).trans pS
         have pR1:=(h9.block (w.heap.size+1+1+1+1) (by omega)).trans pR
         have pPo1:=ae (aJ (ab pPo) (aB h9) (fun _ e9=>by cases e9))
         have pb1:Below w.heap.size w w11:=am pb h9
         have pz1:=h9.size
         have zb1:=pb1.size
         obtain⟨s0,s1⟩:=Go.Proofs.YtdmhihcipkhecaaGreat.c2 pS1
         obtain⟨sf0,sf1⟩:=f2 pS1
         have zs11:w.heap.size+1<w11.heap.size:=by omega
         go_upto_region 25 with fail
         clear s0 s1 sf0 sf1
         have t0:=Joins.block_setCell (g:=w.heap.size+1) (i:=0) pS1 (.int .i64 m)
         have pS2:((w11.setCell ⟨w.heap.size+1,0,none⟩ (.int .i64 m)).setCell ⟨w.heap.size+1,1,none⟩ (.slice a1 ys.length c1)).heap[w.heap.size+1]? =some (.cells #[.int .i64 m,(.slice a1 ys.length c1)] 27 (0,0)):=Joins.block_setCell t0 _
         have pR2:((w11.setCell ⟨w.heap.size+1,0,none⟩ (.int .i64 m)).setCell ⟨w.heap.size+1,1,none⟩ (.slice a1 ys.length c1)).heap[w.heap.size+1+1+1+1]? =some (.cells #[.int .i64 0,.slice none 0 0] 27 (0,0)):=(Below.heap_setCell _ _ _ _ (by show _≠w.heap.size+1;omega)).trans ((Below.heap_setCell _ _ _ _ (by show _≠w.heap.size+1;omega)).trans pR1)
         have pO2:Hid (aS ((w11.setCell ⟨w.heap.size+1,0,none⟩ (.int .i64 m)).setCell ⟨w.heap.size+1,1,none⟩ (.slice a1 ys.length c1)) w10.heap.size (.slice a1 ys.length c1) ys):=ae (al (al hO (af hO pS1 (by decide))) (af hO pS1 (by decide)))
         have pP2:Hid (aR ((w11.setCell ⟨w.heap.size+1,0,none⟩ (.int .i64 m)).setCell ⟨w.heap.size+1,1,none⟩ (.slice a1 ys.length c1)) w10.heap.size (.slice (some a2) ps.length c2) ps):=ae (al (al hP (af hP pS1 (by decide))) (af hP pS1 (by decide)))
         have pQ2:Hid (aR ((w11.setCell ⟨w.heap.size+1,0,none⟩ (.int .i64 m)).setCell ⟨w.heap.size+1,1,none⟩ (.slice a1 ys.length c1)) w8.heap.size u15 (dj old)):=ae (al (al (ab pPo1) (af (ab pPo1) pS1 (by decide))) (af (ab pPo1) pS1 (by decide)))
         have pb2:Below w.heap.size w ((w11.setCell ⟨w.heap.size+1,0,none⟩ (.int .i64 m)).setCell ⟨w.heap.size+1,1,none⟩ (.slice a1 ys.length c1)):=av (av pb1 (sA) _) (sA) _
         have pz2:w10.heap.size≤((w11.setCell ⟨w.heap.size+1,0,none⟩ (.int .i64 m)).setCell ⟨w.heap.size+1,1,none⟩ (.slice a1 ys.length c1)).heap.size:=by simpa using pz1
         have hlt15:Hid (∀k9,(u15:Value).ownBlock=some k9→k9<w10.heap.size):=ae (lp (ab pPo))
         clear hO hP pS1 pR1 pPo1 pb1 pz1 pS pJ pI pW pR pG pRo pPo pb t0 HX h9
         generalize ((w11.setCell ⟨w.heap.size+1,0,none⟩ (.int .i64 m)).setCell ⟨w.heap.size+1,1,none⟩ (.slice a1 ys.length c1))=w12 at pS2 pR2 pO2 pP2 pQ2 pb2 pz2 ⊢
         go_wp2_with fail
         refine wp_region_held_drew (S:=(fun W=>W.heap[w.heap.size+1]? =some (.cells #[.int .i64 m,(.slice a1 ys.length c1)] 27 (0,0)))) (oc) ?_ (fun hHeld=>?_)
         ·((try dsimp only);exact pS2)
         refine kT 0 ?_ ?_ ?_
         rotate_left
         ·(intro w9 hSw;(try dsimp only at hSw);have q0:=hSw;obtain⟨ax0,ax1⟩:=Go.Proofs.YtdmhihcipkhecaaGreat.c2 q0;go_simp<;>with_reducible rfl)
         try simp only[Act.put,tA,tZ,tS]
         refine kV 1 ?_
         refine kV 2 ?_
         refine rD 3 (fun K hK=>?_)
         refine ct rfl _ _ 32 rfl w8.heap.size 52 i1 _ 9 72 Tryz.underlying32 hi1 hy0 hy1 hy2 rfl (by decide) u15 _ _ rfl (ab pQ2) a2 ps.length c2 (bs ps) rfl (by rw[gD]) (fun j9 u9 e9=>gW (W:=w12) (ab pP2) j9 u9 e9) (jB ps) (by have:=ab hlo8;unfold maxLen;omega) (by have:=ab hlo8;omega) (by show w8.heap.size≤w12.heap.size;omega) ?_
         intro v5 w5 hown ml hat
         have hge9:=ae (fun b9 (e9:(u15:Value).ownBlock=some b9)=>aE (ab pQ2) b9 e9)
         have zb2:=pb2.size
         have qS:w5.heap[w.heap.size+1]? =some (.cells #[.int .i64 m,(.slice a1 ys.length c1)] 27 (0,0)):=(ml.block (w.heap.size+1) (by show _<w12.heap.size;omega) (fun e9=>by have:=ab hge9 _ e9.symm;omega)).trans pS2
         have qR:w5.heap[w.heap.size+1+1+1+1]? =some (.cells #[.int .i64 0,.slice none 0 0] 27 (0,0)):=(ml.block (w.heap.size+1+1+1+1) (by show _<w12.heap.size;omega) (fun e9=>by have:=ab hge9 _ e9.symm;omega)).trans pR2
         have qO:Hid (aS w5 w10.heap.size (.slice a1 ys.length c1) ys):=ae (cU (W:=w12.drew) (ab pO2) ml (fun k9 e8 e9=>cf (ab pO2) (ab pQ2) (by decide) e9 e8))
         have qb:Below w.heap.size w w5:=(ap pb2).grown ml (by show w.heap.size≤w12.heap.size;omega) (fun b9 e9=>by have:=ab hge9 b9 e9;omega)
         have zg5:w12.heap.size≤w5.heap.size:=ml.size
         have hP5:Hid (aR w5 w8.heap.size v5 (dj old++ps)):=ae (iA hown)
         have hNn5:Hid (NnS v5):=ae (own_nn hown (hat.elim (fun h9=>by rw[h9];exact ab HNp) (fun h9=>⟨_,h9⟩)))
         clear hHeld
         refine hK.out _ _ ?_ (fun hHeld=>?_)
         ·((try dsimp only);exact qS)
         clear hK K
         try simp only[Act.put,tA,tZ,tS]
         refine rD 4 (fun K hK=>?_)
         obtain⟨r0,r1⟩:=Go.Proofs.YtdmhihcipkhecaaGreat.c2 qR
         obtain⟨rf0,rf1⟩:=f2 qR
         go_simp
         clear r0 r1 rf0 rf1
         have rS:((w5.setCell ⟨w.heap.size+1+1+1+1,0,none⟩ (.int .i64 m)).setCell ⟨w.heap.size+1+1+1+1,1,none⟩ (.slice a1 ys.length c1)).heap[w.heap.size+1]? =some (.cells #[.int .i64 m,(.slice a1 ys.length c1)] 27 (0,0)):=(Below.heap_setCell _ _ _ _ (by show _≠w.heap.size+1+1+1+1;omega)).trans ((Below.heap_setCell _ _ _ _ (by show _≠w.heap.size+1+1+1+1;omega)).trans qS)
         have hOF:Hid (aS ((w5.setCell ⟨w.heap.size+1+1+1+1,0,none⟩ (.int .i64 m)).setCell ⟨w.heap.size+1+1+1+1,1,none⟩ (.slice a1 ys.length c1)) w.heap.size (.slice a1 ys.length c1) ys):=ae (al (al (World.ownsRow.mono (ab qO) (by omega)) (af (ab qO) qR (by decide))) (af (ab qO) qR (by decide)))
         have hPF:Hid (aR ((w5.setCell ⟨w.heap.size+1+1+1+1,0,none⟩ (.int .i64 m)).setCell ⟨w.heap.size+1+1+1+1,1,none⟩ (.slice a1 ys.length c1)) w.heap.size v5 (dj old++ps)):=ae (al (al (World.ownsRow.mono (ab hP5) (by omega)) (af (ab hP5) qR (by decide))) (af (ab hP5) qR (by decide)))
         have hBF:Hid (Below w.heap.size w ((w5.setCell ⟨w.heap.size+1+1+1+1,0,none⟩ (.int .i64 m)).setCell ⟨w.heap.size+1+1+1+1,1,none⟩ (.slice a1 ys.length c1))):=ae (av (av qb (sA) _) (sA) _)
         have rR:((w5.setCell ⟨w.heap.size+1+1+1+1,0,none⟩ (.int .i64 m)).setCell ⟨w.heap.size+1+1+1+1,1,none⟩ (.slice a1 ys.length c1)).heap[w.heap.size+1+1+1+1]? =some (.cells #[.int .i64 m,(.slice a1 ys.length c1)] 27 (0,0)):=Joins.block_setCell (Joins.block_setCell qR _) _
         clear hHeld
         refine hK.out _ _ ?_ (fun hHeld=>?_)
         ·((try dsimp only);exact rS)
         clear hK K
         try simp only[Act.put,tA,tZ,tS]
         refine rD 5 (fun K hK=>?_)
         go_simp
         clear hHeld
         refine hK.out _ _ ?_ (fun hHeld=>?_)
         ·((try dsimp only);exact rS)
         clear hK K
         try simp only[Act.put,tA,tZ,tS]
         refine rD 6 (fun K hK=>?_)
         go_simp
         clear hHeld
         refine hK.out _ _ ?_ (fun hHeld=>?_)
         ·((try dsimp only);exact rS)
         clear hK K
         try simp only[Act.put,tA,tZ,tS]
         refine wpAnyH_done (oc) ?_ _
         clear hHeld rS qS qR
         generalize ((w5.setCell ⟨w.heap.size+1+1+1+1,0,none⟩ (.int .i64 m)).setCell ⟨w.heap.size+1+1+1+1,1,none⟩ (.slice a1 ys.length c1))=w13 at hOF hPF hBF rR ⊢
         obtain⟨r0,r1⟩:=Go.Proofs.YtdmhihcipkhecaaGreat.c2 rR
         clear rR pS2 pR2
         go_wp2
         refine bodyPost_ret (v:= .tuple #[.agg #[.int .i64 m,(.slice a1 ys.length c1)],v5,.bool true]) (nh) rfl ?_
         rw[ab HRF]
         exact⟨_,_,rfl,.inr (ab hOF),ab hPF,ab hBF,ab hNn5⟩
end Go.Proofs.YtdmhihcipkhecaaGreat
