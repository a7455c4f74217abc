/- Laid together: what the claim needs of the texts that were built one by one. -/
import Derived.Test.YtdmhihcipkhecaaGreatT4
import Derived.Test.YtdmhihcipkhecaaGreatT0
import Derived.Test.YtdmhihcipkhecaaGreatT3
set_option linter.unusedVariables false
namespace Go.Proofs.YtdmhihcipkhecaaGreat
open Go.ChangeShapes Go.WideShapes Go.ChangeAt Go.RowKit
set_option linter.unusedSimpArgs false
theorem okAgg_le{n s l m:Int}(h:eA n s l m=true):0≤n∧n≤1000:=by
 unfold eA at h
 split at h
 ·omega
 ·simp only[Bool.and_eq_true]at h
  have:=br.1 h.1.1.1
  omega
theorem ig{l m:Int}{x:aC}(h:x.okB l m=true):(0≤x.an∧x.an≤1000)∧(0≤x.fn∧x.fn≤1000):=by
 simp only[aC.okB,aY,Bool.and_eq_true,decide_eq_true_eq]at h
 obtain⟨⟨⟨⟨⟨⟨⟨⟨⟨⟨h1,h2⟩,h3⟩,h4⟩,h5⟩,h6⟩,h7⟩,h8⟩,h9⟩,h10⟩,h11⟩:=h
 exact⟨okAgg_le h3,okAgg_le h4⟩
theorem both_pos{g h:A4}(hg:1≤g.1∧g.1≤100000000)(hh:0≤h.1∧h.1≤1000):1≤(eN g h).1∧(eN g h).1≤g.1+1000:=by
 show 1≤bo g.1 h.1 g.1 h.1 (wrap64 (g.1+h.1))∧bo g.1 h.1 g.1 h.1 (wrap64 (g.1+h.1))≤g.1+1000
 unfold bo
 rw[if_neg (by omega)]
 split
 ·omega
 ·have:wrap64 (g.1+h.1)=g.1+h.1:=by unfold wrap64;omega
  rw[this]
  omega
theorem all_pos:∀(old:List aC) (g:A4),(∀x ∈ old,0≤x.an∧x.an≤1000)→1≤g.1→g.1+1000*(old.length:Int)≤100000000→1≤(old.foldl (fun g x=>eN g (gl x)) g).1
 | [],g,_,h,_=>h
 |x :: old,g,hx,h,hl=>by
  simp only[List.length_cons]at hl
  have h1:=both_pos (g:=g) (h:=gl x) ⟨h,by omega⟩ (hx x (by simp))
  exact all_pos old (eN g (gl x)) (fun y hy=>hx y (List.mem_cons_of_mem _ hy)) h1.1 (by omega)
theorem allO_pos{v:Int}{old:List aC}(h:∀x ∈ old,0≤x.an∧x.an≤1000)(hl:old.length≤1000):1≤(dK v old).1:=by
 have e1:(dU (0,0,0,0) v).1=1:=rfl
 exact all_pos old _ h (by rw[e1];decide) (by rw[e1];omega)
theorem tel_new{m:Int}{q:P3}{g:A4}(h:1≤g.1):cy m (ff q g)=decide ((ff q g).en≤m):=by
 show(decide (q.2.2≤m)&&decide (0<g.1))=decide (q.2.2≤m)
 have:decide (0<g.1)=true:=decide_eq_true (by omega)
 rw[this,Bool.and_true]
theorem cH.inj{xs:List aC}(h:cH xs){a b:aC}(ha:a ∈ xs)(hb:b ∈ xs)(e:aU a=aU b):a=b:=by
 induction xs with
 |nil=>cases ha
 |cons x t ih=>
  have hc:=List.pairwise_cons.1 h
  rcases List.mem_cons.1 ha with rfl|h1<;>rcases List.mem_cons.1 hb with rfl|h2
  ·rfl
  ·have:=hc.1 b h2
   rw[e]at this
   exact absurd this (bL _)
  ·have:=hc.1 a h1
   rw[e]at this
   exact absurd this (bL _)
  ·exact ih hc.2 h1 h2
theorem rest_same{xs:List aC}(h:cH xs)(p:aC→Bool):xs.filter (fun x=> !(xs.filter p).any (fun y=>decide (aU y=aU x)))=xs.filter (fun x=> !p x):=by
 refine List.filter_congr (fun x hx=>?_)
 congr 1
 cases hp:p x with
 |true=>exact List.any_eq_true.2 ⟨x,List.mem_filter.2 ⟨hx,hp⟩,by simp⟩
 |false=>
  rw[List.any_eq_false]
  intro y hy h9
  have hy2:=List.mem_filter.1 hy
  have:=h.inj hy2.1 hx (by simpa using h9)
  subst this
  rw[hp]at hy2
  cases hy2.2
/-- What is gathered behind all. -/
def gaF(pc:Bool)(m:Int)(a:List aC×List cY×List dp):List aC×List cY×List dp:=(a.1.map (gTx m),a.2.1++(a.1.filter (cy m)).map (dJ pc),a.2.2)
theorem take_ses{pc:Bool}{l m ky v:Int}{xs:List aC}(h:cH xs)(hok:∀x ∈ xs,x.okB l m=true)(hl:xs.length≤1000)(w:dp):b5 true pc l m ky v (xs,[],[]) w=gaF pc m (bE true l m ky v (xs,[],[]) w):=by
 have hf:∀x ∈ xs,x.fn≤1000000:=fun x hx=>by have:=(ig (hok x hx)).2.2;omega
 unfold b5 bE gF ku gaF
 simp only[if_true]
 obtain⟨old,hold⟩:∃old,xs.filter (bw ky w.a w.b)=old:=⟨_,rfl⟩
 rw[hold]
 obtain⟨sp,hsp⟩:∃sp,dq w.a w.b old=sp:=⟨_,rfl⟩
 rw[hsp]
 by_cases hs:sp.2+l≤m
 ·have hT:=jT.start (pc:=pc) h hok hf (ky,sp.1,sp.2)
  simp only[if_pos hs,List.append_nil,List.nil_append]
  rw[←hT.rows,←hT.pans]
  rfl
 ·simp only[if_neg hs]
  cases ho:dV sp old with
  |true=>
   have hT:=(jT.start (pc:=pc) h hok hf (ky,sp.1,sp.2)).step v (lj _)
   simp only[if_true,gb,if_neg hs,List.nil_append]
   have h1:=hT.rows
   have h2:=hT.pans
   rw[List.nil_append]at h2
   rw[h1,h2]
  |false=>
   have hm:∀x ∈ xs.filter (fun x=> !bw ky w.a w.b x),x ∈ xs:=fun x hx=>(List.mem_filter.1 hx).1
   have hrest:xs.filter (fun x=> !old.any (fun y=>decide (aU y=aU x)))=xs.filter (fun x=> !bw ky w.a w.b x):=by rw[←hold];exact rest_same h _
   have hpos:1≤(dK v old).1:=allO_pos (fun x hx=>by rw[←hold]at hx;exact(ig (hok x (List.mem_filter.1 hx).1)).1) (by rw[←hold];exact Nat.le_trans (List.length_filter_le _ _) hl)
   have hT:=(jT.start (pc:=pc) (h.sublist List.filter_sublist) (fun x hx=>hok x (hm x hx)) (fun x hx=>hf x (hm x hx)) (ky,sp.1,sp.2)).put (r:=ff (ky,sp.1,sp.2) (dK v old)) rfl (tel_new hpos) (lj _)
   simp only[Bool.false_eq_true,if_false,if_true,List.nil_append]
   have h1:=hT.rows
   have h2:=hT.pans
   rw[List.nil_append]at h2
   rw[hrest,h1,h2]
theorem take_same{ses pc:Bool}{l m ky v:Int}{xs:List aC}{ws:List dp}(h:cH xs)(hok:∀x ∈ xs,x.okB l m=true)(hl:xs.length≤1000)(h1:ses=true→ws.length≤1)(h2:ses=false→ws.Pairwise (fun x y=>bQ (ky,x.a,x.b) (ky,y.a,y.b))):cm ses pc l m ky v xs ws=gaF pc m (eE ses l m ky v xs ws):=by
 have hf:∀x ∈ xs,x.fn≤1000000:=fun x hx=>by have:=(ig (hok x hx)).2.2;omega
 unfold cm eE
 cases ses with
 |true=>
  match ws,h1 rfl with
  | [],_=>
   have hT:=jT.start (pc:=pc) h hok hf (0,0,0)
   show(xs,[],[])=(xs.map (gTx m),[]++(xs.filter (cy m)).map (dJ pc),[])
   rw[List.nil_append,←hT.rows,←hT.pans]
  | [w],_=>exact take_ses h hok hl w
  |_ :: _ :: _,h9=>simp at h9
 |false=>
  match ws,h2 rfl with
  | [],_=>
   have hT:=jT.start (pc:=pc) h hok hf (0,0,0)
   show(xs,[],[])=(xs.map (gTx m),[]++(xs.filter (cy m)).map (dJ pc),[])
   rw[List.nil_append,←hT.rows,←hT.pans]
  |w :: ws,hw=>
   have hc:=List.pairwise_cons.1 hw
   obtain⟨q',hT,h3,h4⟩:=ju (l:=l) (v:=v) (w :: ws) (xs,[],[]) xs (ky,w.a,w.b) (jT.start (pc:=pc) h hok hf _) (fun w' hw'=>by
    rcases List.mem_cons.1 hw' with rfl|hw'
    ·exact .inl rfl
    ·exact .inr (hc.1 w' hw')) hw
   unfold gaF
   rw[h3,List.nil_append,←hT.rows,←hT.pans,←h4]
end Go.Proofs.YtdmhihcipkhecaaGreat
namespace Go.Proofs.YtdmhihcipkhecaaGreat
open Go.ChangeShapes Go.WideShapes Go.ChangeAt Go.RowKit Go.Shelf Go.Maps
set_option linter.unusedSimpArgs false
def aH(es:List bz):List aC:=es.map (fun e=>e.2)
def go(a:bz):List bz→List bz
 | []=>[a]
 |x :: xs=>if bQ (aU a.2) (aU x.2)then a :: x :: xs else x :: go a xs
def kg(q:P3)(es:List bz):List bz:=es.filter (fun e=> !decide (aU e.2=q))
def knE(v:Int)(g:Nat)(es:List bz):List bz:=es.map (fun e=>(e.1,if decide (e.1=g)=true then eO e.2 v else e.2))
theorem kJ(a:bz):∀es:List bz,aH (go a es)=dP a.2 (aH es)
 | []=>rfl
 |x :: xs=>by
  show(go a (x :: xs)).map (fun e=>e.2)=dP a.2 (x.2 :: aH xs)
  unfold go dP
  split
  ·rfl
  ·rw[List.map_cons]
   exact congrArg (x.2 :: ·) (kJ a xs)
theorem jO{a:bz}:∀ {xs:List bz} {y:bz},y ∈ go a xs↔y=a∨y ∈ xs
 | [],y=>by simp[go]
 |x :: xs,y=>by
  unfold go
  split
  ·simp
  ·rw[List.mem_cons,jO,List.mem_cons]
   constructor
   ·rintro (h|h|h)<;>simp[h]
   ·rintro (h|h|h)<;>simp[h]
theorem kK(a:bz):∀es:List bz,(go a es).Perm (a :: es)
 | []=>List.Perm.refl _
 |x :: xs=>by
  unfold go
  split
  ·exact List.Perm.refl _
  ·exact((kK a xs).cons x).trans (List.Perm.swap a x xs)
theorem offE_mem{q:P3}{es:List bz}{y:bz}:y ∈ kg q es↔y ∈ es∧¬ aU y.2=q:=by
 unfold kg
 rw[List.mem_filter]
 simp
theorem iE{es:List bz}:eb es↔cH (aH es):=by
 unfold eb aH
 exact(List.pairwise_map (f:=fun e:bz=>e.2) (R:=fun x y=>bQ (aU x) (aU y))).symm
theorem mapE_ins{a:bz}(q:P3):∀ {es:List bz},(∀x ∈ es,¬ aU x.2=aU a.2)→cP (go a es) q=if q=aU a.2 then some (ptrE a)else cP es q
 | [],_=>by
  unfold cP go
  by_cases h:q=aU a.2
  ·simp[h]
  ·have h':¬ aU a.2=q:=fun e=>h e.symm
   simp[h,h']
 |x :: xs,hn=>by
  have ih:=mapE_ins q (fun y hy=>hn y (List.mem_cons_of_mem _ hy)) (es:=xs) (a:=a)
  have hx:=hn x (by simp)
  unfold go
  split
  ·unfold cP
   rw[List.find?_cons]
   by_cases h:q=aU a.2
   ·simp[h]
   ·have h':¬ aU a.2=q:=fun e=>h e.symm
    simp[h,h']
  ·unfold cP at ih ⊢
   rw[List.find?_cons,List.find?_cons]
   by_cases h:aU x.2=q
   ·have h2:¬ q=aU a.2:=fun e=>hx (h.trans e)
    simp[h,h2]
   ·simp only[h,decide_false]
    exact ih
theorem mapE_off(q p:P3)(es:List bz):cP (kg q es) p=if p=q then none else cP es p:=by
 unfold cP kg
 rw[List.find?_filter]
 by_cases h:p=q
 ·subst h
  rw[if_pos rfl,List.find?_eq_none.2 (fun x _=>by simp)]
  rfl
 ·rw[if_neg h]
  congr 1
  congr 1
  funext x
  by_cases h2:aU x.2=p
  ·have:¬ aU x.2=q:=fun e=>h (h2.symm.trans e)
   simp[h2,h]
  ·simp[h2]
theorem mapE_kn(v:Int)(g:Nat)(es:List bz):cP (knE v g es)=cP es:=ki (fun x=>eO x v) (fun _=>rfl) (fun e=>decide (e.1=g)) es
/-- A row put in the place of one that is there. -/
theorem put_at{y y':aC}(hp:aU y'=aU y):∀ {xs:List aC},cH xs→y ∈ xs→ci y' xs=xs.map (fun x=>if aU x=aU y then y' else x)
 | [],_,hy=>by cases hy
 |x :: xs,h,hy=>by
  have hc:=List.pairwise_cons.1 h
  by_cases hx:aU x=aU y
  ·have hno:∀z ∈ xs,¬ aU z=aU y:=fun z hz e=>by
    have:=hc.1 z hz
    rw[hx,e]at this
    exact bL _ this
   have e1:dQ (aU y') (x :: xs)=xs:=by
    unfold dQ
    rw[List.filter_cons,if_neg (by simp[hp,hx])]
    exact List.filter_eq_self.2 (fun z hz=>by simp[hp,hno z hz])
   have e2:xs.map (fun x=>if aU x=aU y then y' else x)=xs:=by
    have:xs.map (fun x=>if aU x=aU y then y' else x)=xs.map id:=List.map_congr_left (fun z hz=>by rw[if_neg (hno z hz)];rfl)
    rw[this,List.map_id]
   unfold ci
   rw[e1,List.map_cons,if_pos hx,e2]
   cases xs with
   |nil=>rfl
   |cons z t=>
    have:=hc.1 z (by simp)
    unfold dP
    rw[if_pos (by rw[hp,←hx];exact this)]
  ·have hy':y ∈ xs:=(List.mem_cons.1 hy).resolve_left (fun e=>hx (by rw[e]))
   have hl:¬ bQ (aU y') (aU x):=fun h9=>by
    rw[hp]at h9
    exact bL _ (dC h9 (hc.1 y hy'))
   have ih:=put_at hp hc.2 hy'
   unfold ci at ih ⊢
   have e1:dQ (aU y') (x :: xs)=x :: dQ (aU y') xs:=by
    unfold dQ
    rw[List.filter_cons,if_pos (by simp[hp,hx])]
   rw[e1,List.map_cons,if_neg hx]
   show(if _ then _ else _)=_
   rw[if_neg hl,ih]
theorem fnd_at{y:aC}{xs:List aC}(h:cH xs)(hy:y ∈ xs):dw (aU y) xs=some y:=by
 unfold dw
 cases hf:xs.find? (fun x=>decide (aU x=aU y))with
 |none=>
  have:=List.find?_eq_none.1 hf y hy
  simp at this
 |some x=>
  have h1:x ∈ xs:=List.mem_of_find?_eq_some hf
  have h2:aU x=aU y:=by simpa using List.find?_some hf
  rw[h.inj h1 hy h2]
theorem kn_rows{v:Int}{g:Nat}{y:aC}{es:List bz}(h:eb es)(hn:(es.map (fun e=>e.1)).Nodup)(hy:(g,y) ∈ es):aH (knE v g es)=ci (di (aU y) v (aH es)) (aH es):=by
 have hr:=iE.1 h
 have hyr:y ∈ aH es:=List.mem_map.2 ⟨(g,y),hy,rfl⟩
 have e1:di (aU y) v (aH es)=eO y v:=by unfold di;rw[fnd_at hr hyr];rfl
 rw[e1,put_at (y:=y) (y':=eO y v) rfl hr hyr]
 unfold aH knE
 rw[List.map_map,List.map_map]
 refine List.map_congr_left (fun e he=>?_)
 simp only[Function.comp]
 by_cases hg:e.1=g
 ·have:e=(g,y):=by
   have hinj:∀(l:List bz),(l.map (fun e=>e.1)).Nodup→∀a b,a ∈ l→b ∈ l→a.1=b.1→a=b:=by
    intro l hl a b ha hb hab
    induction l with
    |nil=>cases ha
    |cons x t ih=>
     rw[List.map_cons,List.nodup_cons]at hl
     rcases List.mem_cons.1 ha with rfl|h1<;>rcases List.mem_cons.1 hb with rfl|h2
     ·rfl
     ·exact absurd (List.mem_map.2 ⟨b,h2,hab.symm⟩) hl.1
     ·exact absurd (List.mem_map.2 ⟨a,h1,hab⟩) hl.1
     ·exact ih hl.2 h1 h2
   exact hinj es hn e (g,y) he hy hg
  subst this
  simp
 ·have hne:¬ aU e.2=aU y:=fun e9=>hg (by have:=h.inj he hy e9;rw[this])
  simp[hg,hne]
/-- What a map of entries is behind each. -/
theorem b6.drop{w:World}{b n:Nat}{m:P3→Option Value}(h:b6 w b n m)(q:P3)(hq:gx q)(ty:TypeId):∃w',(Builtin.delete_ #[73,87] ty #[.map (some b),v3 q]).run Tryz.prog w= .ok (.tuple #[]) w'∧b6 w' b n (fun x=>if x=q then none else m x)∧w.grownBy w' (some b):=bp.drop h key3 Tryz.underlying73 some3 inj3 q hq ty
theorem bD.put{W W':World}{B mb nn:Nat}{es:List bz}(h:bD W B mb nn es)(g:Nat)(x:aC)(hx:ew W g x)(hg:B≤g)(hn:∀e ∈ es,e.1≠g)(hp:∀e ∈ es,¬ aU e.2=aU x)(hm:b6 W' mb (nn+1) (fun q=>if q=aU x then some (Value.pointer (some ⟨g,0,none⟩))else(cP es q).map Value.pointer))(hgr:W.grownBy W' (some mb)):bD W' B mb (nn+1) (go (g,x) es):=by
 have hkeep:∀k y,ew W k y→ew W' k y:=fun k y hy=>(hgr.block k hy.lt (fun e9=>h.map.ne_cells hy (Option.some.inj e9))).trans hy
 have e1:(fun q=>(cP (go (g,x) es) q).map Value.pointer)=fun q=>if q=aU x then some (Value.pointer (some ⟨g,0,none⟩))else(cP es q).map Value.pointer:=by
  funext q
  rw[mapE_ins (a:=(g,x)) q hp]
  split<;>rfl
 refine⟨by rw[e1];exact hm,fun e he=>?_,fun e he=>?_,?_⟩
 ·rcases jO.1 he with rfl|he
  ·exact hkeep _ _ hx
  ·exact hkeep _ _ (h.box e he)
 ·rcases jO.1 he with rfl|he
  ·exact hg
  ·exact h.ge e he
 ·refine(((kK (g,x) es).map (fun e=>e.1)).nodup_iff).2 ?_
  rw[List.map_cons,List.nodup_cons]
  refine⟨fun h9=>?_,h.nd⟩
  obtain⟨e,he,e9⟩:=List.mem_map.1 h9
  exact hn e he e9
theorem bD.off{W W':World}{B mb nn:Nat}{es:List bz}(h:bD W B mb nn es)(q:P3)(hm:b6 W' mb nn (fun p=>if p=q then none else(cP es p).map Value.pointer))(hgr:W.grownBy W' (some mb)):bD W' B mb nn (kg q es):=by
 have hkeep:∀k y,ew W k y→ew W' k y:=fun k y hy=>(hgr.block k hy.lt (fun e9=>h.map.ne_cells hy (Option.some.inj e9))).trans hy
 have e1:(fun p=>(cP (kg q es) p).map Value.pointer)=fun p=>if p=q then none else(cP es p).map Value.pointer:=by
  funext p
  rw[mapE_off]
  split<;>rfl
 refine⟨by rw[e1];exact hm,fun e he=>hkeep _ _ (h.box e (offE_mem.1 he).1),fun e he=>h.ge e (offE_mem.1 he).1,?_⟩
 exact List.Nodup.sublist (List.Sublist.map _ List.filter_sublist) h.nd
theorem bD.know{W W':World}{B mb nn g:Nat}{y:aC}{v:Int}{es:List bz}(h:bD W B mb nn es)(hy:(g,y) ∈ es)(hb:ew W' g (eO y v))(hgr:W.grownBy W' (some g))(hrise:eb es):bD W' B mb nn (knE v g es):=by
 refine⟨?_,fun e he=>?_,fun e he=>?_,?_⟩
 ·rw[show cP (knE v g es)=cP es from mapE_kn v g es]
  exact bp.grown h.map hgr (fun e9=>h.map.ne_cells (h.box _ hy) (Option.some.inj e9).symm)
 ·obtain⟨x,hx,rfl⟩:=List.mem_map.1 he
  by_cases hg:x.1=g
  ·have:x=(g,y):=by
    have hinj:∀(l:List bz),(l.map (fun e=>e.1)).Nodup→∀a b,a ∈ l→b ∈ l→a.1=b.1→a=b:=by
     intro l hl a b ha hb hab
     induction l with
     |nil=>cases ha
     |cons x t ih=>
      rw[List.map_cons,List.nodup_cons]at hl
      rcases List.mem_cons.1 ha with rfl|h1<;>rcases List.mem_cons.1 hb with rfl|h2
      ·rfl
      ·exact absurd (List.mem_map.2 ⟨b,h2,hab.symm⟩) hl.1
      ·exact absurd (List.mem_map.2 ⟨a,h1,hab⟩) hl.1
      ·exact ih hl.2 h1 h2
    exact hinj es h.nd x (g,y) hx hy hg
   subst this
   simpa using hb
  ·have h9:=h.box x hx
   simp only[hg,decide_false,Bool.false_eq_true,if_false]
   exact(hgr.block x.1 h9.lt (fun e9=>hg (Option.some.inj e9))).trans h9
 ·obtain⟨x,hx,rfl⟩:=List.mem_map.1 he
  exact h.ge x hx
 ·have:(knE v g es).map (fun e=>e.1)=es.map (fun e=>e.1):=by
   unfold knE
   rw[List.map_map]
   rfl
  rw[this]
  exact h.nd
end Go.Proofs.YtdmhihcipkhecaaGreat
