/- Laid together: what the claim needs of the texts that were built one by one. -/
import Derived.Test.YtdmhihcipkhecaaGreatR23
import Derived.Test.YtdmhihcipkhecaaGreatR16
import Derived.Test.YtdmhihcipkhecaaGreatR9
import Derived.Test.YtdmhihcipkhecaaGreatR0
import Derived.Test.YtdmhihcipkhecaaGreatR4
import Derived.Test.YtdmhihcipkhecaaGreatR3
set_option linter.unusedVariables false
namespace Go.Proofs.YtdmhihcipkhecaaGreat
open Go.ChangeShapes Go.WideShapes Go.ChangeAt Go.RowKit Go.Shelf Go.Maps
set_option linter.unusedSimpArgs false
theorem mk_le(s t k z q l e:Int)(b:Bool)(v r m:Int)(xs:List aD)(mark:Int):(bM s t k z q l e b v r m xs mark).2.1.length≤xs.length∧(bM s t k z q l e b v r m xs mark).2.2.length≤xs.length:=by
 unfold bM
 split
 ·split
  ·exact⟨iC _ _ _,kN _ _ _⟩
  ·exact⟨Nat.le_refl _,Nat.zero_le _⟩
 ·exact⟨Nat.zero_le _,Nat.zero_le _⟩
theorem implmark_eq(s t k z q l e:Int)(b:Bool)(v r m:Int)(a:Option Addr)(len cap:Nat)(xs:List aD)(mark:Int)(w:World){M:Int}{R:List aD}{P:List cY}(h:bV w a len xs)(hl:len≤1048576)(hN:Hid (bM s t k z q l e b v r m xs mark=(M,R,P))):Calls Tryz.prog 14 #[.agg #[.int .i64 s,.int .i64 t,.int .i64 k,.int .i64 z,.int .i64 q,.int .i64 l,.int .i64 e,.bool b,.int .i64 v,.int .i64 r],.agg #[.int .i64 m,.slice a len cap],.int .i64 mark] w fun e' w'=>∃a1 c1 pa pc,e'= .returned (.tuple #[.agg #[.int .i64 M,.slice a1 R.length c1],.slice pa P.length pc])∧aR w' w.heap.size (.slice a1 R.length c1) R∧aQ w' w.heap.size (.slice pa P.length pc) P∧Below w.heap.size w w':=by
 refine(lQ s t k z q l e b v r m a len cap xs mark w h).mono ?_
 rintro e' w' ⟨v1,v2,rfl,hO,hP,hb⟩
 have hle:=mk_le s t k z q l e b v r m xs mark
 have hxl:=h.1
 rw[ab hN]at hO hP hle ⊢
 dsimp only at hO hP hle ⊢
 obtain⟨a1,c1,rfl,_⟩:=dP hO (by omega)
 obtain⟨pa,pc,rfl,_⟩:=jj hP (by omega)
 exact⟨a1,c1,pa,pc,rfl,hO,hP,hb⟩
theorem specmark_eq(s t k z q l e:Int)(b:Bool)(v r m:Int)(a:Option Addr)(len cap:Nat)(xs:List aD)(mark:Int)(w:World){M:Int}{R:List aD}{P:List cY}(h:bV w a len xs)(hl:len≤1048576)(hN:Hid (bM s t k z q l e b v r m xs mark=(M,R,P))):Calls Tryz.prog 15 #[.agg #[.int .i64 s,.int .i64 t,.int .i64 k,.int .i64 z,.int .i64 q,.int .i64 l,.int .i64 e,.bool b,.int .i64 v,.int .i64 r],.agg #[.int .i64 m,.slice a len cap],.int .i64 mark] w fun e' w'=>∃a1 c1 pa pc,e'= .returned (.tuple #[.agg #[.int .i64 M,.slice a1 R.length c1],.slice pa P.length pc])∧aR w' w.heap.size (.slice a1 R.length c1) R∧aQ w' w.heap.size (.slice pa P.length pc) P∧Below w.heap.size w w':=by
 refine(ia s t k z q l e b v r m a len cap xs mark w h).mono ?_
 rintro e' w' ⟨v1,v2,rfl,hO,hP,hb⟩
 have hle:=mk_le s t k z q l e b v r m xs mark
 have hxl:=h.1
 rw[ab hN]at hO hP hle ⊢
 dsimp only at hO hP hle ⊢
 obtain⟨a1,c1,rfl,_⟩:=dP hO (by omega)
 obtain⟨pa,pc,rfl,_⟩:=jj hP (by omega)
 exact⟨a1,c1,pa,pc,rfl,hO,hP,hb⟩
theorem orNil(W:World):bV W none 0 []:=⟨rfl,by unfold maxLen;omega,Or.inl rfl⟩
end Go.Proofs.YtdmhihcipkhecaaGreat
namespace Go.Proofs.YtdmhihcipkhecaaGreat
open Go.ChangeShapes Go.WideShapes Go.ChangeAt Go.RowKit
set_option linter.unusedSimpArgs false
theorem okAgg_le{n s l m:Int}(h:eB n s l m=true):0≤n∧n≤1000:=by
 unfold eB at h
 split at h
 ·omega
 ·simp only[Bool.and_eq_true]at h
  have:=bz.1 h.1.1.1
  omega
theorem lV{l m:Int}{x:aD}(h:x.okB l m=true):(0≤x.an∧x.an≤1000)∧(0≤x.fn∧x.fn≤1000):=by
 simp only[aD.okB,ba,Bool.and_eq_true,decide_eq_true_eq]at h
 obtain⟨⟨⟨⟨⟨⟨⟨⟨⟨⟨h1,h2⟩,h3⟩,h4⟩,h5⟩,h6⟩,h7⟩,h8⟩,h9⟩,h10⟩,h11⟩:=h
 exact⟨okAgg_le h3,okAgg_le h4⟩
theorem both_pos{g h:A4}(hg:1≤g.1∧g.1≤100000000)(hh:0≤h.1∧h.1≤1000):1≤(fO g h).1∧(fO g h).1≤g.1+1000:=by
 show 1≤bo g.1 h.1 g.1 h.1 (wrap64 (g.1+h.1))∧bo g.1 h.1 g.1 h.1 (wrap64 (g.1+h.1))≤g.1+1000
 unfold bo
 rw[if_neg (by omega)]
 split
 ·omega
 ·have:wrap64 (g.1+h.1)=g.1+h.1:=by unfold wrap64;omega
  rw[this]
  omega
theorem all_pos:∀(old:List aD) (g:A4),(∀x ∈ old,0≤x.an∧x.an≤1000)→1≤g.1→g.1+1000*(old.length:Int)≤100000000→1≤(old.foldl (fun g x=>fO g (kg x)) g).1
 | [],g,_,h,_=>h
 |x :: old,g,hx,h,hl=>by
  simp only[List.length_cons]at hl
  have h1:=both_pos (g:=g) (h:=kg x) ⟨h,by omega⟩ (hx x (by simp))
  exact all_pos old (fO g (kg x)) (fun y hy=>hx y (List.mem_cons_of_mem _ hy)) h1.1 (by omega)
theorem allO_pos{v:Int}{old:List aD}(h:∀x ∈ old,0≤x.an∧x.an≤1000)(hl:old.length≤1000):1≤(ep v old).1:=by
 have e1:(eF (0,0,0,0) v).1=1:=rfl
 exact all_pos old _ h (by rw[e1];decide) (by rw[e1];omega)
theorem tel_new{m:Int}{q:P3}{g:A4}(h:1≤g.1):bQ m (fk q g)=decide ((fk q g).en≤m):=by
 show(decide (q.2.2≤m)&&decide (0<g.1))=decide (q.2.2≤m)
 have:decide (0<g.1)=true:=decide_eq_true (by omega)
 rw[this,Bool.and_true]
theorem dU.inj{xs:List aD}(h:dU xs){a b:aD}(ha:a ∈ xs)(hb:b ∈ xs)(e:aT a=aT b):a=b:=by
 induction xs with
 |nil=>cases ha
 |cons x t ih=>
  have hc:=List.pairwise_cons.1 h
  rcases List.mem_cons.1 ha with rfl|h1<;>rcases List.mem_cons.1 hb with rfl|h2
  ·rfl
  ·have:=hc.1 b h2
   rw[e]at this
   exact absurd this (b5 _)
  ·have:=hc.1 a h1
   rw[e]at this
   exact absurd this (b5 _)
  ·exact ih hc.2 h1 h2
theorem rest_same{xs:List aD}(h:dU xs)(p:aD→Bool):xs.filter (fun x=> !(xs.filter p).any (fun y=>decide (aT y=aT x)))=xs.filter (fun x=> !p x):=by
 refine List.filter_congr (fun x hx=>?_)
 congr 1
 cases hp:p x with
 |true=>exact List.any_eq_true.2 ⟨x,List.mem_filter.2 ⟨hx,hp⟩,by simp⟩
 |false=>
  rw[List.any_eq_false]
  intro y hy h9
  have hy2:=List.mem_filter.1 hy
  have:=h.inj hy2.1 hx (by simpa using h9)
  subst this
  rw[hp]at hy2
  cases hy2.2
/-- What is gathered behind all. -/
def gaF(pc:Bool)(m:Int)(a:List aD×List cY×List dr):List aD×List cY×List dr:=(a.1.map (gTx m),a.2.1++(a.1.filter (bQ m)).map (dz pc),a.2.2)
theorem take_ses{pc:Bool}{l m ky v:Int}{xs:List aD}(h:dU xs)(hok:∀x ∈ xs,x.okB l m=true)(hl:xs.length≤1000)(w:dr):cH true pc l m ky v (xs,[],[]) w=gaF pc m (bH true l m ky v (xs,[],[]) w):=by
 have hf:∀x ∈ xs,x.fn≤1000000:=fun x hx=>by have:=(lV (hok x hx)).2.2;omega
 unfold cH bH gG seF gaF
 simp only[if_true]
 obtain⟨old,hold⟩:∃old,xs.filter (dh ky w.a w.b)=old:=⟨_,rfl⟩
 rw[hold]
 obtain⟨sp,hsp⟩:∃sp,ew w.a w.b old=sp:=⟨_,rfl⟩
 rw[hsp]
 by_cases hs:sp.2+l≤m
 ·have hT:=jW.start (pc:=pc) h hok hf (ky,sp.1,sp.2)
  simp only[if_pos hs,List.append_nil,List.nil_append]
  rw[←hT.rows,←hT.pans]
  rfl
 ·simp only[if_neg hs]
  cases ho:dZ sp old with
  |true=>
   have hT:=(jW.start (pc:=pc) h hok hf (ky,sp.1,sp.2)).step v (lr _)
   simp only[if_true,ie,if_neg hs,List.nil_append]
   have h1:=hT.rows
   have h2:=hT.pans
   rw[List.nil_append]at h2
   rw[h1,h2]
  |false=>
   have hm:∀x ∈ xs.filter (fun x=> !dh ky w.a w.b x),x ∈ xs:=fun x hx=>(List.mem_filter.1 hx).1
   have hrest:xs.filter (fun x=> !old.any (fun y=>decide (aT y=aT x)))=xs.filter (fun x=> !dh ky w.a w.b x):=by rw[←hold];exact rest_same h _
   have hpos:1≤(ep v old).1:=allO_pos (fun x hx=>by rw[←hold]at hx;exact(lV (hok x (List.mem_filter.1 hx).1)).1) (by rw[←hold];exact Nat.le_trans (List.length_filter_le _ _) hl)
   have hT:=(jW.start (pc:=pc) (h.sublist List.filter_sublist) (fun x hx=>hok x (hm x hx)) (fun x hx=>hf x (hm x hx)) (ky,sp.1,sp.2)).put (r:=fk (ky,sp.1,sp.2) (ep v old)) rfl (tel_new hpos) (lr _)
   simp only[Bool.false_eq_true,if_false,if_true,List.nil_append]
   have h1:=hT.rows
   have h2:=hT.pans
   rw[List.nil_append]at h2
   rw[hrest,h1,h2]
theorem take_same{ses pc:Bool}{l m ky v:Int}{xs:List aD}{ws:List dr}(h:dU xs)(hok:∀x ∈ xs,x.okB l m=true)(hl:xs.length≤1000)(h1:ses=true→ws.length≤1)(h2:ses=false→ws.Pairwise (fun x y=>bN (ky,x.a,x.b) (ky,y.a,y.b))):db ses pc l m ky v xs ws=gaF pc m (eD ses l m ky v xs ws):=by
 have hf:∀x ∈ xs,x.fn≤1000000:=fun x hx=>by have:=(lV (hok x hx)).2.2;omega
 unfold db eD
 cases ses with
 |true=>
  match ws,h1 rfl with
  | [],_=>
   have hT:=jW.start (pc:=pc) h hok hf (0,0,0)
   show(xs,[],[])=(xs.map (gTx m),[]++(xs.filter (bQ m)).map (dz pc),[])
   rw[List.nil_append,←hT.rows,←hT.pans]
  | [w],_=>exact take_ses h hok hl w
  |_ :: _ :: _,h9=>simp at h9
 |false=>
  match ws,h2 rfl with
  | [],_=>
   have hT:=jW.start (pc:=pc) h hok hf (0,0,0)
   show(xs,[],[])=(xs.map (gTx m),[]++(xs.filter (bQ m)).map (dz pc),[])
   rw[List.nil_append,←hT.rows,←hT.pans]
  |w :: ws,hw=>
   have hc:=List.pairwise_cons.1 hw
   obtain⟨q',hT,h3,h4⟩:=jy (l:=l) (v:=v) (w :: ws) (xs,[],[]) xs (ky,w.a,w.b) (jW.start (pc:=pc) h hok hf _) (fun w' hw'=>by
    rcases List.mem_cons.1 hw' with rfl|hw'
    ·exact .inl rfl
    ·exact .inr (hc.1 w' hw')) hw
   unfold gaF
   rw[h3,List.nil_append,←hT.rows,←hT.pans,←h4]
end Go.Proofs.YtdmhihcipkhecaaGreat
namespace Go.Proofs.YtdmhihcipkhecaaGreat
open Go.ChangeShapes Go.WideShapes Go.ChangeAt Go.RowKit Go.Shelf Go.Maps
set_option linter.unusedSimpArgs false
def aI(es:List bs):List aD:=es.map (fun e=>e.2)
def gv(a:bs):List bs→List bs
 | []=>[a]
 |x :: xs=>if bN (aT a.2) (aT x.2)then a :: x :: xs else x :: gv a xs
def ko(q:P3)(es:List bs):List bs:=es.filter (fun e=> !decide (aT e.2=q))
def knE(v:Int)(g:Nat)(es:List bs):List bs:=es.map (fun e=>(e.1,if decide (e.1=g)=true then eK e.2 v else e.2))
theorem kQ(a:bs):∀es:List bs,aI (gv a es)=eu a.2 (aI es)
 | []=>rfl
 |x :: xs=>by
  show(gv a (x :: xs)).map (fun e=>e.2)=eu a.2 (x.2 :: aI xs)
  unfold gv eu
  split
  ·rfl
  ·rw[List.map_cons]
   exact congrArg (x.2 :: ·) (kQ a xs)
theorem jT{a:bs}:∀ {xs:List bs} {y:bs},y ∈ gv a xs↔y=a∨y ∈ xs
 | [],y=>by simp[gv]
 |x :: xs,y=>by
  unfold gv
  split
  ·simp
  ·rw[List.mem_cons,jT,List.mem_cons]
   constructor
   ·rintro (h|h|h)<;>simp[h]
   ·rintro (h|h|h)<;>simp[h]
theorem kR(a:bs):∀es:List bs,(gv a es).Perm (a :: es)
 | []=>List.Perm.refl _
 |x :: xs=>by
  unfold gv
  split
  ·exact List.Perm.refl _
  ·exact((kR a xs).cons x).trans (List.Perm.swap a x xs)
theorem offE_mem{q:P3}{es:List bs}{y:bs}:y ∈ ko q es↔y ∈ es∧¬ aT y.2=q:=by
 unfold ko
 rw[List.mem_filter]
 simp
theorem iG{es:List bs}:cP es↔dU (aI es):=by
 unfold cP aI
 exact(List.pairwise_map (f:=fun e:bs=>e.2) (R:=fun x y=>bN (aT x) (aT y))).symm
theorem mapE_ins{a:bs}(q:P3):∀ {es:List bs},(∀x ∈ es,¬ aT x.2=aT a.2)→cf (gv a es) q=if q=aT a.2 then some (ptrE a)else cf es q
 | [],_=>by
  unfold cf gv
  by_cases h:q=aT a.2
  ·simp[h]
  ·have h':¬ aT a.2=q:=fun e=>h e.symm
   simp[h,h']
 |x :: xs,hn=>by
  have ih:=mapE_ins q (fun y hy=>hn y (List.mem_cons_of_mem _ hy)) (es:=xs) (a:=a)
  have hx:=hn x (by simp)
  unfold gv
  split
  ·unfold cf
   rw[List.find?_cons]
   by_cases h:q=aT a.2
   ·simp[h]
   ·have h':¬ aT a.2=q:=fun e=>h e.symm
    simp[h,h']
  ·unfold cf at ih ⊢
   rw[List.find?_cons,List.find?_cons]
   by_cases h:aT x.2=q
   ·have h2:¬ q=aT a.2:=fun e=>hx (h.trans e)
    simp[h,h2]
   ·simp only[h,decide_false]
    exact ih
theorem mapE_off(q p:P3)(es:List bs):cf (ko q es) p=if p=q then none else cf es p:=by
 unfold cf ko
 rw[List.find?_filter]
 by_cases h:p=q
 ·subst h
  rw[if_pos rfl,List.find?_eq_none.2 (fun x _=>by simp)]
  rfl
 ·rw[if_neg h]
  congr 1
  congr 1
  funext x
  by_cases h2:aT x.2=p
  ·have:¬ aT x.2=q:=fun e=>h (h2.symm.trans e)
   simp[h2,h]
  ·simp[h2]
theorem mapE_kn(v:Int)(g:Nat)(es:List bs):cf (knE v g es)=cf es:=kB (fun x=>eK x v) (fun _=>rfl) (fun e=>decide (e.1=g)) es
/-- A row put in the place of one that is there. -/
theorem put_at{y y':aD}(hp:aT y'=aT y):∀ {xs:List aD},dU xs→y ∈ xs→cn y' xs=xs.map (fun x=>if aT x=aT y then y' else x)
 | [],_,hy=>by cases hy
 |x :: xs,h,hy=>by
  have hc:=List.pairwise_cons.1 h
  by_cases hx:aT x=aT y
  ·have hno:∀z ∈ xs,¬ aT z=aT y:=fun z hz e=>by
    have:=hc.1 z hz
    rw[hx,e]at this
    exact b5 _ this
   have e1:eo (aT y') (x :: xs)=xs:=by
    unfold eo
    rw[List.filter_cons,if_neg (by simp[hp,hx])]
    exact List.filter_eq_self.2 (fun z hz=>by simp[hp,hno z hz])
   have e2:xs.map (fun x=>if aT x=aT y then y' else x)=xs:=by
    have:xs.map (fun x=>if aT x=aT y then y' else x)=xs.map id:=List.map_congr_left (fun z hz=>by rw[if_neg (hno z hz)];rfl)
    rw[this,List.map_id]
   unfold cn
   rw[e1,List.map_cons,if_pos hx,e2]
   cases xs with
   |nil=>rfl
   |cons z t=>
    have:=hc.1 z (by simp)
    unfold eu
    rw[if_pos (by rw[hp,←hx];exact this)]
  ·have hy':y ∈ xs:=(List.mem_cons.1 hy).resolve_left (fun e=>hx (by rw[e]))
   have hl:¬ bN (aT y') (aT x):=fun h9=>by
    rw[hp]at h9
    exact b5 _ (dG h9 (hc.1 y hy'))
   have ih:=put_at hp hc.2 hy'
   unfold cn at ih ⊢
   have e1:eo (aT y') (x :: xs)=x :: eo (aT y') xs:=by
    unfold eo
    rw[List.filter_cons,if_pos (by simp[hp,hx])]
   rw[e1,List.map_cons,if_neg hx]
   show(if _ then _ else _)=_
   rw[if_neg hl,ih]
theorem fnd_at{y:aD}{xs:List aD}(h:dU xs)(hy:y ∈ xs):fH (aT y) xs=some y:=by
 unfold fH
 cases hf:xs.find? (fun x=>decide (aT x=aT y))with
 |none=>
  have:=List.find?_eq_none.1 hf y hy
  simp at this
 |some x=>
  have h1:x ∈ xs:=List.mem_of_find?_eq_some hf
  have h2:aT x=aT y:=by simpa using List.find?_some hf
  rw[h.inj h1 hy h2]
theorem kn_rows{v:Int}{g:Nat}{y:aD}{es:List bs}(h:cP es)(hn:(es.map (fun e=>e.1)).Nodup)(hy:(g,y) ∈ es):aI (knE v g es)=cn (dA (aT y) v (aI es)) (aI es):=by
 have hr:=iG.1 h
 have hyr:y ∈ aI es:=List.mem_map.2 ⟨(g,y),hy,rfl⟩
 have e1:dA (aT y) v (aI es)=eK y v:=by unfold dA;rw[fnd_at hr hyr];rfl
 rw[e1,put_at (y:=y) (y':=eK y v) rfl hr hyr]
 unfold aI knE
 rw[List.map_map,List.map_map]
 refine List.map_congr_left (fun e he=>?_)
 simp only[Function.comp]
 by_cases hg:e.1=g
 ·have:e=(g,y):=by
   have hinj:∀(l:List bs),(l.map (fun e=>e.1)).Nodup→∀a b,a ∈ l→b ∈ l→a.1=b.1→a=b:=by
    intro l hl a b ha hb hab
    induction l with
    |nil=>cases ha
    |cons x t ih=>
     rw[List.map_cons,List.nodup_cons]at hl
     rcases List.mem_cons.1 ha with rfl|h1<;>rcases List.mem_cons.1 hb with rfl|h2
     ·rfl
     ·exact absurd (List.mem_map.2 ⟨b,h2,hab.symm⟩) hl.1
     ·exact absurd (List.mem_map.2 ⟨a,h1,hab⟩) hl.1
     ·exact ih hl.2 h1 h2
   exact hinj es hn e (g,y) he hy hg
  subst this
  simp
 ·have hne:¬ aT e.2=aT y:=fun e9=>hg (by have:=h.inj he hy e9;rw[this])
  simp[hg,hne]
/-- What a map of entries is behind each. -/
theorem bL.drop{w:World}{b n:Nat}{m:P3→Option Value}(h:bL w b n m)(q:P3)(hq:fe q)(ty:TypeId):∃w',(Builtin.delete_ #[73,87] ty #[.map (some b),v3 q]).run Tryz.prog w= .ok (.tuple #[]) w'∧bL w' b n (fun x=>if x=q then none else m x)∧w.grownBy w' (some b):=bp.drop h ik Tryz.underlying73 ks inj3 q hq ty
theorem bu.put{W W':World}{B mb nn:Nat}{es:List bs}(h:bu W B mb nn es)(g:Nat)(x:aD)(hx:et W g x)(hg:B≤g)(hn:∀e ∈ es,e.1≠g)(hp:∀e ∈ es,¬ aT e.2=aT x)(hm:bL W' mb (nn+1) (fun q=>if q=aT x then some (Value.pointer (some ⟨g,0,none⟩))else(cf es q).map Value.pointer))(hgr:W.grownBy W' (some mb)):bu W' B mb (nn+1) (gv (g,x) es):=by
 have hkeep:∀k y,et W k y→et W' k y:=fun k y hy=>(hgr.block k hy.lt (fun e9=>h.map.ne_cells hy (Option.some.inj e9))).trans hy
 have e1:(fun q=>(cf (gv (g,x) es) q).map Value.pointer)=fun q=>if q=aT x then some (Value.pointer (some ⟨g,0,none⟩))else(cf es q).map Value.pointer:=by
  funext q
  rw[mapE_ins (a:=(g,x)) q hp]
  split<;>rfl
 refine⟨by rw[e1];exact hm,fun e he=>?_,fun e he=>?_,?_⟩
 ·rcases jT.1 he with rfl|he
  ·exact hkeep _ _ hx
  ·exact hkeep _ _ (h.box e he)
 ·rcases jT.1 he with rfl|he
  ·exact hg
  ·exact h.ge e he
 ·refine(((kR (g,x) es).map (fun e=>e.1)).nodup_iff).2 ?_
  rw[List.map_cons,List.nodup_cons]
  refine⟨fun h9=>?_,h.nd⟩
  obtain⟨e,he,e9⟩:=List.mem_map.1 h9
  exact hn e he e9
theorem bu.off{W W':World}{B mb nn:Nat}{es:List bs}(h:bu W B mb nn es)(q:P3)(hm:bL W' mb nn (fun p=>if p=q then none else(cf es p).map Value.pointer))(hgr:W.grownBy W' (some mb)):bu W' B mb nn (ko q es):=by
 have hkeep:∀k y,et W k y→et W' k y:=fun k y hy=>(hgr.block k hy.lt (fun e9=>h.map.ne_cells hy (Option.some.inj e9))).trans hy
 have e1:(fun p=>(cf (ko q es) p).map Value.pointer)=fun p=>if p=q then none else(cf es p).map Value.pointer:=by
  funext p
  rw[mapE_off]
  split<;>rfl
 refine⟨by rw[e1];exact hm,fun e he=>hkeep _ _ (h.box e (offE_mem.1 he).1),fun e he=>h.ge e (offE_mem.1 he).1,?_⟩
 exact List.Nodup.sublist (List.Sublist.map _ List.filter_sublist) h.nd
theorem bu.know{W W':World}{B mb nn g:Nat}{y:aD}{v:Int}{es:List bs}(h:bu W B mb nn es)(hy:(g,y) ∈ es)(hb:et W' g (eK y v))(hgr:W.grownBy W' (some g))(hrise:cP es):bu W' B mb nn (knE v g es):=by
 refine⟨?_,fun e he=>?_,fun e he=>?_,?_⟩
 ·rw[show cf (knE v g es)=cf es from mapE_kn v g es]
  exact bp.grown h.map hgr (fun e9=>h.map.ne_cells (h.box _ hy) (Option.some.inj e9).symm)
 ·obtain⟨x,hx,rfl⟩:=List.mem_map.1 he
  by_cases hg:x.1=g
  ·have:x=(g,y):=by
    have hinj:∀(l:List bs),(l.map (fun e=>e.1)).Nodup→∀a b,a ∈ l→b ∈ l→a.1=b.1→a=b:=by
     intro l hl a b ha hb hab
     induction l with
     |nil=>cases ha
     |cons x t ih=>
      rw[List.map_cons,List.nodup_cons]at hl
      rcases List.mem_cons.1 ha with rfl|h1<;>rcases List.mem_cons.1 hb with rfl|h2
      ·rfl
      ·exact absurd (List.mem_map.2 ⟨b,h2,hab.symm⟩) hl.1
      ·exact absurd (List.mem_map.2 ⟨a,h1,hab⟩) hl.1
      ·exact ih hl.2 h1 h2
    exact hinj es h.nd x (g,y) hx hy hg
   subst this
   simpa using hb
  ·have h9:=h.box x hx
   simp only[hg,decide_false,Bool.false_eq_true,if_false]
   exact(hgr.block x.1 h9.lt (fun e9=>hg (Option.some.inj e9))).trans h9
 ·obtain⟨x,hx,rfl⟩:=List.mem_map.1 he
  exact h.ge x hx
 ·have:(knE v g es).map (fun e=>e.1)=es.map (fun e=>e.1):=by
   unfold knE
   rw[List.map_map]
   rfl
  rw[this]
  exact h.nd
end Go.Proofs.YtdmhihcipkhecaaGreat
