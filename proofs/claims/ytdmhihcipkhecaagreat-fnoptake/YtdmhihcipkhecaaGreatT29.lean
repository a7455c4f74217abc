/- Laid together: what the claim needs of the texts that were built one by one. -/
import Derived.Test.YtdmhihcipkhecaaGreatT14
import Derived.Test.YtdmhihcipkhecaaGreatT28
import Derived.Test.YtdmhihcipkhecaaGreatT0
import Derived.Test.YtdmhihcipkhecaaGreatT24
import Derived.Test.YtdmhihcipkhecaaGreatT15
import Derived.Test.YtdmhihcipkhecaaGreatT11
import Derived.DefersIn
set_option linter.unusedVariables false
namespace Go.Proofs.YtdmhihcipkhecaaGreat
open Go.ChangeShapes Go.WideShapes Go.ChangeAt Go.RowKit Go.Shelf Go.Maps
set_option linter.unusedSimpArgs false
theorem iF{z p t:Int}:∀(n:Nat) (s:Int),∀x ∈ bj z p t n s,t<x.b
 |0,_,x,hx=>by cases hx
 |n+1,s,x,hx=>by
  unfold bj at hx
  split at hx
  ·split at hx
   ·rename_i h2
    rcases List.mem_cons.1 hx with rfl|hx
    ·exact h2
    ·exact iF n (s+p) x hx
   ·exact iF n (s+p) x hx
  ·cases hx
theorem wins_has{s t k z p l e v r T:Int}(hj:aV s t k z p l e v r=true):∀x ∈ aQ k z p T,T<x.b:=by
 obtain⟨hk,hz,hp⟩:=bN hj
 intro x hx
 unfold aQ at hx
 split at hx
 ·rw[List.mem_singleton]at hx
  subst hx
  have:=Int.emod_lt_of_pos T (show 0<z by omega)
  show T<T - T % z+z
  omega
 ·split at hx
  ·rw[List.mem_singleton]at hx
   subst hx
   show T<T+z
   omega
  ·exact iF 61 0 x hx
set_option linter.unusedSimpArgs false
/-- How many values rows know of. -/
def dL:List aC→Int
 | []=>0
 |x :: xs=>x.an+dL xs
theorem cnO_app(xs ys:List aC):dL (xs++ys)=dL xs+dL ys:=by
 induction xs with
 |nil=>simp[dL]
 |cons x xs ih=>
  show x.an+dL (xs++ys)=x.an+dL xs+dL ys
  omega
theorem cnO_take{xs:List aC}{i:Nat}{x:aC}(h:xs[i]? =some x):dL (xs.take (i+1))=dL (xs.take i)+x.an:=by
 rw[List.take_add_one,h,cnO_app]
 simp[dL]
theorem kL(p:aC→Bool)(xs:List aC):dL (xs.filter p)+dL (xs.filter (fun x=> !p x))=dL xs:=by
 induction xs with
 |nil=>rfl
 |cons x xs ih=>
  cases h:p x<;>simp[List.filter_cons,h,dL]<;>omega
theorem lO(r:aC):∀xs:List aC,dL (dP r xs)=r.an+dL xs
 | []=>rfl
 |x :: xs=>by
  have ih:=lO r xs
  unfold dP
  split
  ·rfl
  ·show x.an+dL (dP r xs)=r.an+(x.an+dL xs)
   omega
theorem one_at{xs:List aC}(h:cH xs)(q:P3):xs.filter (fun x=>decide (aU x=q))=(dw q xs).toList:=by
 induction xs with
 |nil=>rfl
 |cons x xs ih=>
  have hc:=List.pairwise_cons.1 h
  by_cases e:aU x=q
  ·have hno:xs.filter (fun y=>decide (aU y=q))=[]:=by
    rw[List.filter_eq_nil_iff]
    intro y hy h9
    have h8:=hc.1 y hy
    rw[e,of_decide_eq_true h9]at h8
    exact bL _ h8
   rw[List.filter_cons_of_pos (by simp[e]),hno]
   unfold dw
   rw[List.find?_cons_of_pos (by simp[e])]
   rfl
  ·have h9:=ih hc.2
   unfold dw at h9 ⊢
   rw[List.filter_cons_of_neg (by simp[e]),List.find?_cons_of_neg (by simp[e])]
   exact h9
theorem cnO_bd{T:Int}:∀ {xs:List aC},(∀x ∈ xs,0≤x.an∧x.an≤T)→0≤dL xs∧dL xs≤T*(xs.length:Int)
 | [],_=>by simp[dL]
 |x :: xs,h=>by
  have h1:=h x (by simp)
  have h2:=cnO_bd (xs:=xs) (fun y hy=>h y (List.mem_cons_of_mem _ hy))
  have h3:T*((x :: xs).length:Int)=T*(xs.length:Int)+T:=by rw[List.length_cons,Int.natCast_succ,Int.mul_add,Int.mul_one]
  rw[h3]
  show 0≤x.an+dL xs∧x.an+dL xs≤_
  omega
theorem jR{xs:List aC}(h:∀x ∈ xs,0≤x.an)(i:Nat):0≤dL (xs.take i)∧dL (xs.take i)≤dL xs:=by
 have h1:∀ys:List aC,(∀x ∈ ys,0≤x.an)→0≤dL ys:=by
  intro ys hy
  induction ys with
  |nil=>exact Int.le_refl _
  |cons y ys ih=>
   have h2:=hy y (by simp)
   have h3:=ih (fun z hz=>hy z (List.mem_cons_of_mem _ hz))
   show 0≤y.an+dL ys
   omega
 have h2:=h1 (xs.take i) (fun x hx=>h x (List.mem_of_mem_take hx))
 have h3:=h1 (xs.drop i) (fun x hx=>h x (List.mem_of_mem_drop hx))
 have h4:dL (xs.take i++xs.drop i)=dL xs:=by rw[List.take_append_drop]
 rw[cnO_app]at h4
 omega
def anQ:Option aC→Int
 |none=>0
 |some x=>x.an
theorem cnO_off{xs:List aC}(h:cH xs)(q:P3):dL (dQ q xs)=dL xs - anQ (dw q xs):=by
 have h1:=kL (fun x=>decide (aU x=q)) xs
 rw[one_at h q]at h1
 have h2:dL (dw q xs).toList=anQ (dw q xs):=by
  cases dw q xs with
  |none=>rfl
  |some y=>
   show y.an+0=y.an
   omega
 have h3:dL (dQ q xs)=dL (xs.filter (fun x=> !decide (aU x=q))):=rfl
 omega
def BnO(T:Int)(xs:List aC):Prop:=∀x ∈ xs,0≤x.an∧x.an≤T
theorem add_one{g:A4}{v:Int}(h:0≤g.1∧g.1≤1000000000):(dU g v).1=g.1+1:=by
 show bo g.1 1 g.1 1 (wrap64 (g.1+1))=g.1+1
 unfold bo
 split
 ·omega
 ·rw[if_neg (by decide)]
  unfold wrap64
  omega
theorem nex_an{q:P3}{v T:Int}{xs:List aC}(h:BnO T xs)(hT:0≤T∧T≤1000000000):(di q v xs).an=anQ (dw q xs)+1∧0≤anQ (dw q xs)∧anQ (dw q xs)≤T:=by
 have e:(di q v xs).an=(dU (gl ((dw q xs).getD (zerO q))) v).1:=rfl
 rw[e]
 cases hf:dw q xs with
 |none=>exact⟨rfl,Int.le_refl _,hT.1⟩
 |some x=>
  have hx:=h x (er hf).2
  exact⟨add_one (g:=gl x) ⟨hx.1,by show x.an≤_;omega⟩,hx⟩
theorem tl_cn{pc:Bool}{m:Int}{xs:List aC}{r:aC}(h:cH xs):dL (eC pc m xs r).1=r.an+dL xs - anQ (dw (aU r) xs):=by
 unfold eC
 split
 ·show dL (dP r (dQ (aU r) xs))=_
  rw[lO,cnO_off h]
  omega
 ·show dL (dP (cT r) (dQ (aU r) xs))=_
  rw[lO,cnO_off h]
  have e2:(cT r).an=r.an:=rfl
  omega
theorem tl_rise{pc:Bool}{m:Int}{xs:List aC}{r:aC}(h:cH xs):cH (eC pc m xs r).1:=by
 unfold eC
 split
 ·exact fk h
 ·exact fk h
theorem tl_bn{pc:Bool}{m T:Int}{xs:List aC}{r:aC}(h:BnO T xs)(hr:0≤r.an∧r.an≤T):BnO T (eC pc m xs r).1:=by
 unfold eC
 split
 ·intro x hx
  rcases eD.1 hx with rfl|⟨hx,_⟩
  ·exact hr
  ·exact h x hx
 ·intro x hx
  rcases eD.1 hx with rfl|⟨hx,_⟩
  ·exact hr
  ·exact h x hx
theorem in_cn{pc:Bool}{l m:Int}{xs:List aC}{ky v st en T:Int}(h:cH xs)(hb:BnO T xs)(hT:0≤T∧T≤1000000000):cH (gb pc l m xs ky v st en).1∧BnO (T+1) (gb pc l m xs ky v st en).1∧(((gb pc l m xs ky v st en).2.2=true∧dL (gb pc l m xs ky v st en).1=dL xs+1)∨(gb pc l m xs ky v st en=(xs,[],false)∧en+l≤m)):=by
 have hb2:BnO (T+1) xs:=fun x hx=>⟨(hb x hx).1,by have:=(hb x hx).2;omega⟩
 unfold gb
 split
 ·rename_i h9
  exact⟨h,hb2,.inr ⟨rfl,h9⟩⟩
 ·obtain⟨n1,n2,n3⟩:=nex_an (q:=(ky,st,en)) (v:=v) hb hT
  refine⟨tl_rise h,tl_bn hb2 ⟨by omega,by omega⟩,.inl ⟨rfl,?_⟩⟩
  show dL (eC pc m xs (di (ky,st,en) v xs)).1=_
  rw[tl_cn h,nexO_pl,n1]
  omega
theorem sp_cn(pc:Bool)(l m ky v:Int):∀(ws:List dp) (ys:List aC) (ps:List cY) (ls:List dp) (T:Int),cH ys→BnO T ys→0≤T→T+(ws.length:Int)≤1000000000→(dL (ws.foldl (b5 false pc l m ky v) (ys,ps,ls)).1+((ws.foldl (b5 false pc l m ky v) (ys,ps,ls)).2.2.length:Int)=dL ys+(ws.length:Int)+(ls.length:Int))∧(ws.foldl (b5 false pc l m ky v) (ys,ps,ls)).2.2.length≤ls.length+ws.length∧((ws.foldl (b5 false pc l m ky v) (ys,ps,ls)).2.2.length=ls.length+ws.length→(ws.foldl (b5 false pc l m ky v) (ys,ps,ls)).1=ys∧(ws.foldl (b5 false pc l m ky v) (ys,ps,ls)).2.1=ps)∧(∀x ∈ (ws.foldl (b5 false pc l m ky v) (ys,ps,ls)).2.2,x ∈ ls∨(x ∈ ws∧x.b+l≤m))∧∀x ∈ (ws.foldl (b5 false pc l m ky v) (ys,ps,ls)).1,0≤x.an
 | [],ys,ps,ls,T,_,hB,_,_=>⟨by simp,by simp,fun _=>⟨rfl,rfl⟩,fun x hx=> .inl hx,fun x hx=>(hB x hx).1⟩
 |x :: ws,ys,ps,ls,T,hR,hB,hT,hW=>by
  rw[List.length_cons]at hW
  obtain⟨⟨ys2,ps2,ok⟩,hs⟩:∃r9,stF false pc l m ys ky v x.a x.b=r9:=⟨_,rfl⟩
  obtain⟨c1,c2,c3⟩:=in_cn (pc:=pc) (l:=l) (m:=m) (ky:=ky) (v:=v) (st:=x.a) (en:=x.b) hR hB ⟨hT,by omega⟩
  have hs2:gb pc l m ys ky v x.a x.b=(ys2,ps2,ok):=hs
  rw[hs2]at c1 c2 c3
  dsimp only at c1 c2 c3
  rw[List.foldl_cons,hU false pc l m ky v ys ps ls x hs]
  rcases c3 with⟨rfl,h9⟩|⟨h9,h8⟩
  ·obtain⟨i1,i2,i3,i4,i5⟩:=sp_cn pc l m ky v ws ys2 (ps++ps2) ls (T+1) c1 c2 (by omega) (by omega)
   simp only[if_true]at i1 i2 i3 i4 i5 ⊢
   rw[List.length_cons]
   refine⟨by omega,by omega,fun h7=>by omega,fun y hy=>?_,i5⟩
   rcases i4 y hy with h7|⟨h7,h6⟩
   ·exact .inl h7
   ·exact .inr ⟨List.mem_cons_of_mem _ h7,h6⟩
  ·cases h9
   obtain⟨i1,i2,i3,i4,i5⟩:=sp_cn pc l m ky v ws ys (ps++[]) (ls++[x]) (T+1) c1 c2 (by omega) (by omega)
   simp only[Bool.false_eq_true,if_false,List.append_nil,List.length_append,List.length_singleton]at i1 i2 i3 i4 i5 ⊢
   rw[List.length_cons]
   refine⟨by omega,by omega,fun h7=>i3 (by omega),fun y hy=>?_,i5⟩
   rcases i4 y hy with h7|⟨h7,h5⟩
   ·rcases List.mem_append.1 h7 with h6|h6
    ·exact .inl h6
    ·rw[List.mem_singleton]at h6
     subst h6
     exact .inr ⟨List.mem_cons_self ..,h8⟩
   ·exact .inr ⟨List.mem_cons_of_mem _ h7,h5⟩
theorem both_sum{g h:A4}(hg:1≤g.1∧g.1≤100000000)(hh:0≤h.1∧h.1≤1000):(eN g h).1=g.1+h.1:=by
 show bo g.1 h.1 g.1 h.1 (wrap64 (g.1+h.1))=g.1+h.1
 unfold bo
 rw[if_neg (by omega)]
 split
 ·omega
 ·unfold wrap64
  omega
theorem all_sum:∀(old:List aC) (g:A4),BnO 1000 old→1≤g.1→g.1+1000*(old.length:Int)≤100000000→(old.foldl (fun g x=>eN g (gl x)) g).1=g.1+dL old
 | [],g,_,_,_=>by simp[dL]
 |x :: old,g,hx,h,hl=>by
  simp only[List.length_cons]at hl
  have h0:=hx x (by simp)
  have h1:=both_sum (g:=g) (h:=gl x) ⟨h,by omega⟩ h0
  have h2:(gl x).1=x.an:=rfl
  have h3:=all_sum old (eN g (gl x)) (fun y hy=>hx y (List.mem_cons_of_mem _ hy)) (by omega) (by omega)
  rw[List.foldl_cons,h3,h1,h2]
  show g.1+x.an+dL old=g.1+(x.an+dL old)
  omega
theorem se_cn{pc:Bool}{l m:Int}{xs:List aC}{ky v st en:Int}(h:cH xs)(hb:BnO 1000 xs)(hl:xs.length≤1000)(hse:st<en):((ku pc l m xs ky v st en).2.2=true∧dL (ku pc l m xs ky v st en).1=dL xs+1∧∀x ∈ (ku pc l m xs ky v st en).1,0≤x.an)∨ku pc l m xs ky v st en=(xs,[],false):=by
 obtain⟨w1,w2⟩:=jQ (xs.filter (bw ky st en)) st en
 unfold ku
 dsimp only
 split
 ·exact .inr rfl
 ·split
  ·rcases(in_cn (pc:=pc) (l:=l) (m:=m) (ky:=ky) (v:=v) (st:=(dq st en (xs.filter (bw ky st en))).1) (en:=(dq st en (xs.filter (bw ky st en))).2) h hb ⟨by decide,by decide⟩)with⟨_,h8,h9|h9⟩
   ·exact .inl ⟨h9.1,h9.2,fun x hx=>(h8 x hx).1⟩
   ·exact .inr h9.1
  ·have hr:cH (xs.filter (fun x=> !bw ky st en x)):=h.sublist List.filter_sublist
   have hno:dw (ky,(dq st en (xs.filter (bw ky st en))).1,(dq st en (xs.filter (bw ky st en))).2) (xs.filter (fun x=> !bw ky st en x))=none:=by
    cases hf:dw (ky,(dq st en (xs.filter (bw ky st en))).1,(dq st en (xs.filter (bw ky st en))).2) (xs.filter (fun x=> !bw ky st en x))with
    |none=>rfl
    |some y=>
     exfalso
     obtain⟨e1,e2⟩:=er hf
     have e3:=(List.mem_filter.1 e2).2
     have e4:y.ky=ky:=congrArg (fun p=>p.1) e1
     have e5:y.st=(dq st en (xs.filter (bw ky st en))).1:=congrArg (fun p=>p.2.1) e1
     have e6:y.en=(dq st en (xs.filter (bw ky st en))).2:=congrArg (fun p=>p.2.2) e1
     have e7:bw ky st en y=true:=by
      unfold bw
      have e8:bg y.st y.en st en=true:=by
       unfold bg
       rw[decide_eq_true (show y.st<en by omega),decide_eq_true (show st<y.en by omega)]
       rfl
      rw[decide_eq_true e4,e8]
      rfl
     rw[e7]at e3
     cases e3
   have hsum:=all_sum (xs.filter (bw ky st en)) (dU (0,0,0,0) v) (fun x hx=>hb x (List.mem_filter.1 hx).1) (by show(1:Int)≤1;exact Int.le_refl _) (by
    have h1:(dU (0,0,0,0) v).1=1:=rfl
    have h2:=List.length_filter_le (bw ky st en) xs
    rw[h1]
    omega)
   have hsp:=kL (bw ky st en) xs
   have hbo:=cnO_bd (T:=1000) (xs:=xs.filter (bw ky st en)) (fun x hx=>hb x (List.mem_filter.1 hx).1)
   have hlo:=List.length_filter_le (bw ky st en) xs
   have h1:(dU (0,0,0,0) v).1=1:=rfl
   have h2:(dK v (xs.filter (bw ky st en))).1=1+dL (xs.filter (bw ky st en)):=by rw[←h1];exact hsum
   refine .inl ⟨rfl,?_,fun x hx=>(tl_bn (T:=1000000000) (fun y hy=>by have:=hb y (List.mem_filter.1 hy).1;omega) ⟨by show 0≤(dK v (xs.filter (bw ky st en))).1;omega,by show(dK v (xs.filter (bw ky st en))).1≤_;omega⟩ x hx).1⟩
   show dL (eC pc m (xs.filter (fun x=> !bw ky st en x)) (ff (ky,(dq st en (xs.filter (bw ky st en))).1,(dq st en (xs.filter (bw ky st en))).2) (dK v (xs.filter (bw ky st en))))).1=_
   rw[tl_cn hr]
   show(dK v (xs.filter (bw ky st en))).1+dL (xs.filter (fun x=> !bw ky st en x)) - anQ (dw (ky,(dq st en (xs.filter (bw ky st en))).1,(dq st en (xs.filter (bw ky st en))).2) (xs.filter (fun x=> !bw ky st en x)))=_
   rw[hno]
   have h3:anQ none=0:=rfl
   omega
/-- What a record does, in numbers. -/
theorem take_cn{s t k z q l e:Int}{b:Bool}{v r m:Int}{xs:List aC}{x1 x2 x3 x4 x5:Int}{M:Int}{R:List aC}{P:List cY}{L:List gv}(hok:cB s t k z q l e v r m xs=true)(hx:dd x1 x2 x3 x4 x5=true)(hl:xs.length≤261)(h:de s t k z q l e b v r m xs x1 x2 x3 x4 x5=(M,R,P,L)):M=m∧dL R+(L.length:Int)=dL xs+((aQ k z q x2).length:Int)∧L.length≤(aQ k z q x2).length∧(L.length=(aQ k z q x2).length→R=xs∧P=[])∧(∀y ∈ L,(y.kd=x1∧y.tm=x2∧y.ke=x3∧y.va=x4∧y.nn=x5)∧(k≠3→x2<y.en∧y.en+l≤m))∧(∀x ∈ R,0≤x.an):=by
 obtain⟨_,_,_,hrow,hrise⟩:=ga hok
 have hb:BnO 1000 xs:=fun x hx9=>(ig (hrow x hx9)).1
 have htb:ep s t k z q l e v r m xs x1 x2 x3 x4 x5=true:=by
  unfold ep
  rw[hok,hx,decide_eq_true (show xs.length≤280 by omega)]
  rfl
 unfold de at h
 rw[if_pos htb]at h
 have h1:=(congrArg (fun p=>p.1) h).symm
 have h2:=(congrArg (fun p=>p.2.1) h).symm
 have h3:=(congrArg (fun p=>p.2.2.1) h).symm
 have h4:=(congrArg (fun p=>p.2.2.2) h).symm
 dsimp only at h1 h2 h3 h4
 subst h1 h2 h3 h4
 rw[List.length_map]
 have hlat:∀y ∈ (cm (decide (k=3)) b l M x3 x4 xs (aQ k z q x2)).2.2.map (eH x1 x2 x3 x4 x5),∃w ∈ (cm (decide (k=3)) b l M x3 x4 xs (aQ k z q x2)).2.2,y=eH x1 x2 x3 x4 x5 w:=fun y hy=>by
  obtain⟨w,hw,rfl⟩:=List.mem_map.1 hy
  exact⟨w,hw,rfl⟩
 refine⟨rfl,?_⟩
 by_cases hk:k=3
 ·have hd:decide (k=3)=true:=decide_eq_true hk
  have hz:=(bN (fl hok)).2.1
  have hw:aQ k z q x2=[⟨x2,x2+z⟩]:=by
   unfold aQ
   rw[if_neg (by omega),if_pos hk]
  rw[hd,hw]at hlat ⊢
  unfold cm at hlat ⊢
  rw[List.foldl_cons,List.foldl_nil]at hlat ⊢
  obtain⟨⟨ys2,ps2,ok⟩,hs⟩:∃r9,stF true b l M xs x3 x4 (⟨x2,x2+z⟩:dp).a (⟨x2,x2+z⟩:dp).b=r9:=⟨_,rfl⟩
  rw[hU true b l M x3 x4 xs [] [] ⟨x2,x2+z⟩ hs]at hlat ⊢
  have hs2:ku b l M xs x3 x4 x2 (x2+z)=(ys2,ps2,ok):=hs
  have hc:=se_cn (pc:=b) (l:=l) (m:=M) (ky:=x3) (v:=x4) (st:=x2) (en:=x2+z) hrise hb (by omega) (by omega)
  rw[hs2]at hc
  rcases hc with⟨rfl,h9,h10⟩|h9
  ·dsimp only at h9 h10
   simp only[if_true,List.nil_append,List.length_nil,List.length_singleton]at hlat ⊢
   exact⟨by simp;omega,by omega,fun h8=>by omega,(fun y hy=>by obtain⟨w,hw9,_⟩:=hlat y hy;cases hw9),h10⟩
  ·cases h9
   simp only[Bool.false_eq_true,if_false,List.nil_append,List.length_singleton]at hlat ⊢
   refine⟨by simp,by first|omega|simp,by first|(simp;done)|exact fun _=>⟨rfl,rfl⟩,fun y hy=>?_,fun x hx=>(hb x hx).1⟩
   obtain⟨w,_,rfl⟩:=hlat y hy
   exact⟨⟨rfl,rfl,rfl,rfl,rfl⟩,fun h8=>absurd hk h8⟩
 ·have hd:decide (k=3)=false:=decide_eq_false hk
  rw[hd]at hlat ⊢
  have hwl:=jD k z q x2
  obtain⟨i1,i2,i3,i4,i5⟩:=sp_cn b l M x3 x4 (aQ k z q x2) xs [] [] 1000 hrise hb (by decide) (by omega)
  simp only[List.length_nil,Int.natCast_zero,Int.add_zero,Nat.zero_add]at i1 i2 i3 i4 i5
  refine⟨by unfold cm;omega,i2,i3,fun y hy=>?_,i5⟩
  obtain⟨w,hw,rfl⟩:=hlat y hy
  rcases i4 w hw with h9|⟨h8,h9⟩
  ·cases h9
  ·exact⟨⟨rfl,rfl,rfl,rfl,rfl⟩,fun _=>⟨wins_has (fl hok) w h8,h9⟩⟩
set_option linter.unusedSimpArgs false
attribute [local go_sem] Oper.semAt_some
def InvO(T:Int)(xs:List aC):Prop:=cH xs∧∀x ∈ xs,(0≤x.en∧x.en≤1000)∧(-1000≤x.st∧x.st≤1000)∧(-1000≤x.ky∧x.ky≤1000)∧0≤x.td∧x.td≤T
theorem spn_bd1:∀(old:List aC) (st en:Int),-1000≤st∧st≤1000→(∀x ∈ old,-1000≤x.st∧x.st≤1000)→ -1000≤(dq st en old).1∧(dq st en old).1≤1000
 | [],_,_,h,_=>h
 |x :: old,st,en,h,hx=>by
  have h1:=hx x (by simp)
  exact spn_bd1 old (ft st x.st) (fp en x.en) (by unfold ft;split<;>omega) (fun y hy=>hx y (List.mem_cons_of_mem _ hy))
theorem met_mem{ses:Bool}{ky st en:Int}{xs:List aC}{x:aC}(h:x ∈ gF ses ky st en xs):x ∈ xs:=by
 unfold gF at h
 split at h
 ·exact(List.mem_filter.1 h).1
 ·cases hf:dw (ky,st,en) xs with
  |none=>rw[hf]at h;cases h
  |some y=>
   rw[hf]at h
   simp only[Option.toList,List.mem_singleton]at h
   subst h
   exact(er hf).2
theorem put_inv{T:Int}{xs:List aC}{r:aC}(h:InvO T xs)(hr:(0≤r.en∧r.en≤1000)∧(-1000≤r.st∧r.st≤1000)∧(-1000≤r.ky∧r.ky≤1000)∧0≤r.td∧r.td≤T):InvO T (ci r xs):=by
 refine⟨fk h.1,fun x hx=>?_⟩
 rcases eD.1 hx with rfl|⟨hx,_⟩
 ·exact hr
 ·exact h.2 x hx
theorem im_inv{ses:Bool}{l m ky v T:Int}{xs:List aC}{ps:List cY}{lw:List dp}{w:dp}(h:InvO T xs)(hT:0≤T)(hk: -1000≤ky∧ky≤1000)(ha: -1000≤w.a∧w.a≤1000)(hb:0≤w.b∧w.b≤1000):InvO T (bE ses l m ky v (xs,ps,lw) w).1∧(bE ses l m ky v (xs,ps,lw) w).1.length≤xs.length+1∧(bE ses l m ky v (xs,ps,lw) w).2.1.length≤ps.length+(if ses=true then xs.length else 0)∧(bE ses l m ky v (xs,ps,lw) w).2.2.length≤lw.length+1:=by
 have h2:=spn_bd (gF ses ky w.a w.b xs) w.a w.b hb (fun x hx=>(h.2 x (met_mem hx)).1)
 have h1:=spn_bd1 (gF ses ky w.a w.b xs) w.a w.b ha (fun x hx=>(h.2 x (met_mem hx)).2.1)
 refine⟨?_,?_,?_,?_⟩
 ·unfold bE
  dsimp only
  split
  ·exact h
  ·split
   ·refine put_inv h ?_
    unfold di
    cases hf:dw (ky,(dq w.a w.b (gF ses ky w.a w.b xs)).1,(dq w.a w.b (gF ses ky w.a w.b xs)).2) xs with
    |none=>exact⟨h2,h1,hk,Int.le_refl _,hT⟩
    |some y=>exact h.2 y (er hf).2
   ·exact put_inv (xs:=xs.filter _) ⟨h.1.sublist List.filter_sublist,fun x hx=>h.2 x (List.mem_filter.1 hx).1⟩ ⟨h2,h1,hk,Int.le_refl _,hT⟩
 ·unfold bE
  dsimp only
  split
  ·simp
  ·split
   ·exact jq _ _
   ·exact Nat.le_trans (jq _ _) (Nat.succ_le_succ (List.length_filter_le _ _))
 ·cases ses with
  |false=>
   rw[jt]
   split<;>simp
  |true=>
   unfold bE
   dsimp only
   split
   ·simp
   ·split
    ·simp
    ·rw[List.length_append,if_pos rfl]
     have h3:=gY (gF true ky w.a w.b xs)
     have h4:(gF true ky w.a w.b xs).length≤xs.length:=by unfold gF;rw[if_pos rfl];exact List.length_filter_le _ _
     omega
 ·unfold bE
  dsimp only
  split
  ·simp
  ·split<;>simp
theorem slide_a{z p t:Int}(hp:0≤p):∀(n:Nat) (s:Int),0≤s→∀x ∈ bj z p t n s,0≤x.a∧x.a≤t∧x.b=x.a+z
 |0,_,_,x,hx=>by cases hx
 |n+1,s,hs,x,hx=>by
  have ih:=slide_a (z:=z) (t:=t) hp n (s+p) (by omega)
  unfold bj at hx
  split at hx
  ·rename_i h1
   split at hx
   ·rcases List.mem_cons.1 hx with rfl|hx
    ·exact⟨hs,h1,rfl⟩
    ·exact ih x hx
   ·exact ih x hx
  ·cases hx
theorem wins_a{s t k z p l e v r T:Int}(hj:aV s t k z p l e v r=true)(hT:0≤T∧T≤60):∀x ∈ aQ k z p T,0≤x.a∧x.a≤T∧x.b=x.a+z:=by
 obtain⟨hk,hz,hp⟩:=bN hj
 unfold aQ
 split
 ·intro x hx
  simp only[List.mem_singleton]at hx
  subst hx
  have h1:=Int.emod_nonneg T (show z≠0 by omega)
  have h3:0≤z*(T / z):=Int.mul_nonneg (by omega) (Int.ediv_nonneg hT.1 (by omega))
  have h4:T % z+z*(T / z)=T:=by first|exact Int.emod_add_ediv T z|exact Int.emod_add_mul_ediv T z
  exact⟨by show 0≤T - T % z;omega,by show T - T % z≤T;omega,rfl⟩
 ·split
  ·intro x hx
   simp only[List.mem_singleton]at hx
   subst hx
   exact⟨hT.1,Int.le_refl _,rfl⟩
  ·refine slide_a ?_ 61 0 (by omega)
   unfold fD at hp
   split at hp
   ·simp only[Bool.and_eq_true]at hp
    have:=br.1 hp.1
    omega
   ·simp at hp
    omega
theorem wins_one{k z q T:Int}(hk:k=3):(aQ k z q T).length≤1:=by
 unfold aQ
 rw[if_neg (by omega),if_pos hk]
 simp
theorem gi.own{W W':World}{B size n:Nat}{e:TypeId}{v:Value}{ys:List Value}(h:W.ownsRow B e size v n ys)(hk:gi W W')(he:ks e=false):W'.ownsRow B e size v n ys:=by
 rcases h with⟨hl,h|⟨q,cap,cur,rfl,hB,hblk,r⟩⟩
 ·exact⟨hl,Or.inl h⟩
 ·exact⟨hl,Or.inr ⟨q,cap,cur,rfl,hB,hk.2 q _ hblk (.inr ⟨_,_,he,rfl⟩),r⟩⟩
theorem gEs_rows(m:Int)(es:List bz):aH (gEs m es)=(aH es).map (gTx m):=by
 unfold aH gEs
 rw[List.map_map,List.map_map]
 rfl
theorem gEs_pans(m:Int)(pc:Bool)(es:List bz):(es.filter (fun e=>cy m e.2)).map (fun e=>dJ pc e.2)=((aH es).filter (cy m)).map (dJ pc):=by
 unfold aH
 rw[List.filter_map,List.map_map]
 rfl
set_option maxRecDepth 100000 in
set_option maxHeartbeats 8000000 in
theorem take_any(Bo B mb nn:Nat)(s t k z q l e:Int)(b:Bool)(v r m:Int)(pv lv:Value)(es:List bz)(x1 x2 x3 x4 x5:Int)(w:World)(hO:w.heap[Bo]? =some (.cells #[.int .i64 s,.int .i64 t,.int .i64 k,.int .i64 z,.int .i64 q,.int .i64 l,.int .i64 e,.bool b,.int .i64 v,.int .i64 r,.int .i64 m,.map (some (mb)),pv,lv] 75 (0,0)))(hBo:B≤Bo)(hBw:B≤w.heap.size)(hmb:B≤mb)(hR:bD w B mb nn es)(hP:aR w B pv [])(hL:bT w B lv [])(hj:aV s t k z q l e v r=true)(hT:0≤x2∧x2≤60)(hx3: -1000≤x3∧x3≤1000)(hI0:InvO 1500 (aH es))(hnn:nn≤800)(hesl:es.length≤300)(hen:es.length≤nn):Calls Tryz.prog 30 #[.pointer (some ⟨Bo,0,none⟩),.agg #[.int .i64 x1,.int .i64 x2,.int .i64 x3,.int .i64 x4,.int .i64 x5]] w fun e' w'=>e'= .returned (.tuple #[])∧∃pv' lv' es',w'.heap[Bo]? =some (.cells #[.int .i64 s,.int .i64 t,.int .i64 k,.int .i64 z,.int .i64 q,.int .i64 l,.int .i64 e,.bool b,.int .i64 v,.int .i64 r,.int .i64 m,.map (some (mb)),pv',lv'] 75 (0,0))∧bD w' B mb (nn+61) es'∧aR w' B pv' (gaF b m (eE (decide (k=3)) l m x3 x4 (aH es) (aQ k z q x2))).2.1∧bT w' B lv' ((gaF b m (eE (decide (k=3)) l m x3 x4 (aH es) (aQ k z q x2))).2.2.map (eH x1 x2 x3 x4 x5))∧aH es'=(gaF b m (eE (decide (k=3)) l m x3 x4 (aH es) (aQ k z q x2))).1∧eb es'∧(∀e ∈ es',gx (aU e.2))∧es'.length≤nn+61∧(gaF b m (eE (decide (k=3)) l m x3 x4 (aH es) (aQ k z q x2))).2.1.length≤2000∧(gaF b m (eE (decide (k=3)) l m x3 x4 (aH es) (aQ k z q x2))).2.2.length≤61∧Below B w w':=by
 have zBo:Bo<w.heap.size:=(Array.getElem?_eq_some_iff.1 hO).1
 have hl:=gQ hj
 have hwf:∀a:Int,-1000≤a→a≤1000→(Lit.int .i64 a).wf=true:=fun a h1 h2=>WalkArith.wf_i64 (show _ from⟨by omega,by omega⟩)
 have HWa:=ae (wins_a hj hT)
 have HWb:=ae (wins_bd hj hT)
 have hz20:=(bN hj).2.1
 obtain⟨ws,hws⟩:∃ws,aQ k z q x2=ws:=⟨_,rfl⟩
 have hwl:ws.length≤61:=by rw[←hws];exact jI k z q x2
 have HW1:Hid (decide (k=3)=true→ws.length≤1):=ae (fun h9=>by rw[←hws];exact wins_one (by simpa using h9))
 rw[hws]at HWa HWb
 have HIM:Hid (eE (decide (k=3)) l m x3 x4 (aH es) (aQ k z q x2)=ws.foldl (bE (decide (k=3)) l m x3 x4) (aH es,[],[])):=ae (by unfold eE;rw[hws])
 have HC:Hid (∀W:World,Calls Tryz.prog 21 #[.agg #[.int .i64 s,.int .i64 t,.int .i64 k,.int .i64 z,.int .i64 q,.int .i64 l,.int .i64 e,.bool b,.int .i64 v,.int .i64 r],.int .i64 x2] W fun e' w'=>∃v',e'= .returned v'∧db w' W.heap.size v' ws∧Below W.heap.size W w'):=ae (fun W=>by
  have h9:=gu s t k z q l e b v r x2 W
  rw[gK hj (br.2 hT),hws]at h9
  exact h9)
 obtain⟨nw,hnw⟩:∃nw,ws.length=nw:=⟨_,rfl⟩
 rw[hnw]at hwl
 have HNw:=ae hnw
 have HIV:=ae hI0
 clear hws hnw hI0
 refine(callsIn_wide (n:=26)).1 ?_
 refine callsIn_of_wp_defers Tryz.func30 rfl trivial ?_ rfl
 simp only[Tryz.ntmps30,List.size_toArray,List.length_cons,List.length_nil,Nat.reduceAdd,Nat.reduceSub,Array.replicate_succ,Array.replicate_zero,List.push_toArray,List.append_toArray,List.nil_append,List.cons_append]
 gi_wp2
 refine bM (oc) (oc) (fun L a' W'=>∃V:Nat→Value,a'=({tmps:=#[.pointer (some ⟨Bo,0,none⟩),.agg #[.int .i64 x1,.int .i64 x2,.int .i64 x3,.int .i64 x4,.int .i64 x5],undef,.pointer (some ⟨w.heap.size,0,none⟩),undef,undef,.pointer (some ⟨Bo,0,none⟩),V 0,V 1,V 2,V 3,V 4,V 5,V 6,V 7,V 8,undef,undef,undef,undef,undef,undef,undef,undef],defers:=[{target:=Target.fn (Fn.func 59) #[],args:=#[.pointer (some ⟨Bo,0,none⟩)]}]}:Act)∧((L 0=true→V 0= .pointer (some ⟨Bo,0,none⟩))∧(L 1=true→V 1= .pointer (some ⟨Bo,0,none⟩))∧(L 2=true→V 2= .pointer (some ⟨Bo,0,none⟩))∧(L 3=true→V 3= .agg #[.int .i64 s,.int .i64 t,.int .i64 k,.int .i64 z,.int .i64 q,.int .i64 l,.int .i64 e,.bool b,.int .i64 v,.int .i64 r])∧(L 4=true→V 4= .pointer (some ⟨w.heap.size,1,none⟩))∧(L 5=true→V 5= .int .i64 x2)∧(L 7=true→V 7= .int .i64 nw)∧(L 8=true→V 8= .int .i64 0))∧(L 6=true→Hid (∃aw cw,V 6= .slice aw nw cw∧db W' B (.slice aw nw cw) ws))∧Below w.heap.size w W'∧W'.heap[w.heap.size]? =some (.cells #[.int .i64 x1,.int .i64 x2,.int .i64 x3,.int .i64 x4,.int .i64 x5] 29 (0,0))∧w.heap.size<W'.heap.size) ?_ ?_ ?_
 ·exact⟨fun _=>undef,rfl,⟨(fun h9=>(by cases h9)),(fun h9=>(by cases h9)),(fun h9=>(by cases h9)),(fun h9=>(by cases h9)),(fun h9=>(by cases h9)),(fun h9=>(by cases h9)),(fun h9=>(by cases h9)),(fun h9=>(by cases h9))⟩,(fun h9=>(by cases h9)),ap (aq _ _),World.alloc_heap_new w _,by simp⟩
 ·refine⟨?_,?_,?_,?_,?_,?_,?_,?_,?_,trivial⟩
  ·intro L a' W' hI hLj hE K' hK
   obtain⟨V,rfl,⟨mq,mr,mD,mE,mF,mH,mQ,mT⟩,hT6,hbW,bIW,hzW⟩:=hI
   go_simp
   exact hK.out _ _ ⟨fun m9=>if m9=0 then .pointer (some ⟨Bo,0,none⟩)else V m9,rfl,⟨fun _=>rfl,mO mr,mO mD,mO mE,mO mF,mO mH,mO mQ,mO mT⟩,mO hT6,hbW,bIW,hzW⟩
  ·intro L a' W' hI hLj hE K' hK
   obtain⟨V,rfl,⟨mq,mr,mD,mE,mF,mH,mQ,mT⟩,hT6,hbW,bIW,hzW⟩:=hI
   have lQ:=mq (hE ⟨0,.data⟩ (by simp) rfl)
   rw[lQ]
   go_simp
   exact hK.out _ _ ⟨fun m9=>if m9=1 then .pointer (some ⟨Bo,0,none⟩)else V m9,(by simp[Act.put,lQ]),⟨mO mq,fun _=>rfl,mO mD,mO mE,mO mF,mO mH,mO mQ,mO mT⟩,mO hT6,hbW,bIW,hzW⟩
  ·intro L a' W' hI hLj hE K' hK
   obtain⟨V,rfl,⟨mq,mr,mD,mE,mF,mH,mQ,mT⟩,hT6,hbW,bIW,hzW⟩:=hI
   have lR:=mr (hE ⟨1,.data⟩ (by simp) rfl)
   rw[lR]
   go_simp
   exact hK.out _ _ ⟨fun m9=>if m9=2 then .pointer (some ⟨Bo,0,none⟩)else V m9,(by simp[Act.put,lR]),⟨mO mq,mO mr,fun _=>rfl,mO mE,mO mF,mO mH,mO mQ,mO mT⟩,mO hT6,hbW,bIW,hzW⟩
  ·intro L a' W' hI hLj hE K' hK
   obtain⟨V,rfl,⟨mq,mr,mD,mE,mF,mH,mQ,mT⟩,hT6,hbW,bIW,hzW⟩:=hI
   have lZ:=mD (hE ⟨2,.data⟩ (by simp) rfl)
   have bOW:=(hbW.block Bo zBo).trans hO
   have k0:W'.cell? ⟨Bo,0,none⟩=some (.int .i64 s):=cA bOW 0
   have k1:W'.cell? ⟨Bo,1,none⟩=some (.int .i64 t):=cA bOW 1
   have k2:W'.cell? ⟨Bo,2,none⟩=some (.int .i64 k):=cA bOW 2
   have k3:W'.cell? ⟨Bo,3,none⟩=some (.int .i64 z):=cA bOW 3
   have k4:W'.cell? ⟨Bo,4,none⟩=some (.int .i64 q):=cA bOW 4
   have k5:W'.cell? ⟨Bo,5,none⟩=some (.int .i64 l):=cA bOW 5
   have k6:W'.cell? ⟨Bo,6,none⟩=some (.int .i64 e):=cA bOW 6
   have k7:W'.cell? ⟨Bo,7,none⟩=some (.bool b):=cA bOW 7
   have k8:W'.cell? ⟨Bo,8,none⟩=some (.int .i64 v):=cA bOW 8
   have k9:W'.cell? ⟨Bo,9,none⟩=some (.int .i64 r):=cA bOW 9
   rw[lZ]
   go_simp
   exact hK.out _ _ ⟨fun m9=>if m9=3 then .agg #[.int .i64 s,.int .i64 t,.int .i64 k,.int .i64 z,.int .i64 q,.int .i64 l,.int .i64 e,.bool b,.int .i64 v,.int .i64 r]else V m9,(by simp[Act.put,lZ]),⟨mO mq,mO mr,mO mD,fun _=>rfl,mO mF,mO mH,mO mQ,mO mT⟩,mO hT6,hbW,bIW,hzW⟩
  ·intro L a' W' hI hLj hE K' hK
   obtain⟨V,rfl,⟨mq,mr,mD,mE,mF,mH,mQ,mT⟩,hT6,hbW,bIW,hzW⟩:=hI
   go_simp
   exact hK.out _ _ ⟨fun m9=>if m9=4 then .pointer (some ⟨w.heap.size,1,none⟩)else V m9,rfl,⟨mO mq,mO mr,mO mD,mO mE,fun _=>rfl,mO mH,mO mQ,mO mT⟩,mO hT6,hbW,bIW,hzW⟩
  ·intro L a' W' hI hLj hE K' hK
   obtain⟨V,rfl,⟨mq,mr,mD,mE,mF,mH,mQ,mT⟩,hT6,hbW,bIW,hzW⟩:=hI
   have mc:=mF (hE ⟨4,.data⟩ (by simp) rfl)
   have k1:W'.cell? ⟨w.heap.size,1,none⟩=some (.int .i64 x2):=cA bIW 1
   rw[mc]
   go_simp
   exact hK.out _ _ ⟨fun m9=>if m9=5 then .int .i64 x2 else V m9,(by simp[Act.put,mc]),⟨mO mq,mO mr,mO mD,mO mE,mO mF,fun _=>rfl,mO mQ,mO mT⟩,mO hT6,hbW,bIW,hzW⟩
  ·intro L a' W' hI hLj hE K' hK
   obtain⟨V,rfl,⟨mq,mr,mD,mE,mF,mH,mQ,mT⟩,hT6,hbW,bIW,hzW⟩:=hI
   have ma:=mE (hE ⟨3,.data⟩ (by simp) rfl)
   have me:=mH (hE ⟨5,.data⟩ (by simp) rfl)
   rw[ma]
   rw[me]
   go_simp
   (first|(gi_at_call 21)|(refine⟨trivial,?_⟩;gi_at_call 21)|(refine⟨trivial,fun _=>(by omega),?_⟩;gi_at_call 21))
   refine(callsIn_wide.2 (ab HC W')).mono ?_
   rintro e9 Wt ⟨vt,rfl,hOt,hbt⟩
   (try gi_wp2_with fail)
   obtain⟨aw,cw,hvt⟩:=dr hOt
   rw[ab HNw]at hvt
   subst hvt
   exact hK.out _ _ ⟨fun m9=>if m9=6 then .slice aw nw cw else V m9,(by simp[Act.put,ma,me]),⟨mO mq,mO mr,mO mD,mO mE,mO mF,mO mH,mO mQ,mO mT⟩,fun _=>ae ⟨aw,cw,rfl,World.ownsRow.mono hOt (by have:=hbW.size;omega)⟩,am hbW hbt,(hbt.block _ hzW).trans bIW,by have:=hbt.size;omega⟩
  ·intro L a' W' hI hLj hE K' hK
   obtain⟨V,rfl,⟨mq,mr,mD,mE,mF,mH,mQ,mT⟩,hT6,hbW,bIW,hzW⟩:=hI
   obtain⟨aw,cw,mf,hOt⟩:=ab (hT6 (hE ⟨6,.data⟩ (by simp) rfl))
   rw[mf]
   go_simp
   exact hK.out _ _ ⟨fun m9=>if m9=7 then .int .i64 nw else V m9,(by simp[mf]),⟨mO mq,mO mr,mO mD,mO mE,mO mF,mO mH,fun _=>rfl,mO mT⟩,mO hT6,hbW,bIW,hzW⟩
  ·intro L a' W' hI hLj hE K' hK
   obtain⟨V,rfl,⟨mq,mr,mD,mE,mF,mH,mQ,mT⟩,hT6,hbW,bIW,hzW⟩:=hI
   go_simp
   exact hK.out _ _ ⟨fun m9=>if m9=8 then .int .i64 0 else V m9,rfl,⟨mO mq,mO mr,mO mD,mO mE,mO mF,mO mH,mO mQ,fun _=>rfl⟩,mO hT6,hbW,bIW,hzW⟩
 intro L a' W' hI hall
 obtain⟨V,rfl,⟨mq,mr,mD,mE,mF,mH,mQ,mT⟩,hT6,hbW,bIW,hzW⟩:=hI
 have lQ:=mq (hall 0 (by decide))
 have lR:=mr (hall 1 (by decide))
 have lZ:=mD (hall 2 (by decide))
 have ma:=mE (hall 3 (by decide))
 have mc:=mF (hall 4 (by decide))
 have me:=mH (hall 5 (by decide))
 have mg:=mQ (hall 7 (by decide))
 have mh:=mT (hall 8 (by decide))
 obtain⟨aw,cw,mf,hOw⟩:=ab (hT6 (hall 6 (by decide)))
 rw[lQ,lR,lZ,ma,mc,me,mf,mg,mh]
 clear lQ lR lZ ma mc me mf mg mh mq mr mD mE mF mH mQ mT hall hT6
 have HOw:=ae hOw
 have HBw:=ae (hbW.mono hBw)
 have HO1:Hid (W'.heap[Bo]? =some (.cells #[.int .i64 s,.int .i64 t,.int .i64 k,.int .i64 z,.int .i64 q,.int .i64 l,.int .i64 e,.bool b,.int .i64 v,.int .i64 r,.int .i64 m,.map (some (mb)),pv,lv] 75 (0,0))):=ae ((hbW.block Bo zBo).trans hO)
 have HR1:=ae (hR.bel hbW)
 have HP1:Hid (aR W' B pv []):=ae (aJ hP (aB hbW) (fun _ e9=>by cases e9))
 have HL1:Hid (bT W' B lv []):=ae (aJ hL (aB hbW) (fun _ e9=>by cases e9))
 have HI1:=ae bIW
 clear hOw hbW bIW hO hR hP hL
 gi_wp2
 gi_loopw [15] (fun iv wr=>∃(i2:Nat) (pv' lv':Value) (es':List bz) (ps:List cY) (lw:List dp),i2≤nw∧iv= .int .i64 i2∧Hid ((ws.take i2).foldl (bE (decide (k=3)) l m x3 x4) (aH es,[],[])=(aH es',ps,lw))∧Hid (InvO 1500 (aH es'))∧Hid (es'.length≤es.length+i2)∧Hid (ps.length≤(if decide (k=3)=true then 400*i2 else 0))∧Hid (lw.length≤i2)∧Hid (wr.heap[Bo]? =some (.cells #[.int .i64 s,.int .i64 t,.int .i64 k,.int .i64 z,.int .i64 q,.int .i64 l,.int .i64 e,.bool b,.int .i64 v,.int .i64 r,.int .i64 m,.map (some (mb)),pv',lv'] 75 (0,0)))∧Hid (bD wr B mb (nn+i2) es')∧Hid (aR wr B pv' ps)∧Hid (bT wr B lv' (lw.map (eH x1 x2 x3 x4 x5)))∧Hid (db wr B (.slice aw nw cw) ws)∧Hid (wr.heap[w.heap.size]? =some (.cells #[.int .i64 x1,.int .i64 x2,.int .i64 x3,.int .i64 x4,.int .i64 x5] 29 (0,0)))∧Hid (Below B w wr)∧w.heap.size<wr.heap.size) (fun iv _=>nw - (intOf iv).toNat)
 case atStart=>
  exact⟨0,pv,lv,es,[],[],Nat.zero_le _,rfl,ae rfl,HIV,ae (Nat.le_refl _),ae (Nat.zero_le _),ae (Nat.zero_le _),HO1,HR1,HP1,HL1,HOw,HI1,HBw,hzW⟩
 case round=>
  clear HO1 HR1 HP1 HL1 HOw HI1 HBw hzW
  obtain⟨i2,pv',lv',es',ps,lw,hi2,rfl,HFo,HIn,HEl,HPl,HLl,HO,HR,HP,HL,HW,HI,HB,hzr⟩:=hrel
  have HPs:Hid (ps.length≤400):=ae (by
   have h9:=ab HPl
   by_cases hk3:decide (k=3)=true
   ·have h8:=ab HW1 hk3
    rw[ab HNw]at h8
    rw[if_pos hk3]at h9
    omega
   ·rw[if_neg hk3]at h9
    omega)
  have hel:=ab HEl
  have HRi:Hid (eb es'):=ae (iE.2 (ab HIn).1)
  have HOk:Hid (∀e ∈ es',gx (aU e.2)):=ae (fun e9 he9=>by
   have h9:=(ab HIn).2 e9.2 (List.mem_map.2 ⟨e9,he9,rfl⟩)
   exact⟨hwf _ h9.2.2.1.1 h9.2.2.1.2,hwf _ h9.2.1.1 h9.2.1.2,hwf _ (by have:=h9.1.1;simp[aU];omega) h9.1.2⟩)
  by_cases hlt:i2<nw
  ·have hWR:=jc (ab HW) (by rw[ab HNw];omega)
   obtain⟨_,_,hy⟩:=hWR
   obtain⟨gw,ow,rfl,hr⟩:=hy.resolve_left (by omega)
   obtain⟨x,hxk⟩:∃x,ws[i2]? =some x:=⟨_,List.getElem?_eq_getElem (by rw[ab HNw];omega)⟩
   have hrow:=hr i2 x hxk
   have hxa:=ab HWa x (List.mem_of_getElem? hxk)
   have hxb:=ab HWb x (List.mem_of_getElem? hxk)
   have HXK:=ae hxk
   obtain⟨xa,xb⟩:=x
   dsimp only at hxa hxb
   have hxlt:xa<xb:=by omega
   have hxa2: -1000≤xa∧xa≤1000:=by omega
   clear hr hy hxk hxa
   obtain⟨d0,d1⟩:=hrow
   have hgw:gw<wr.heap.size:=(dB.lt ⟨d0,d1⟩)
   dsimp only at d0 d1
   have bI:=ab HI
   obtain⟨ic0,ic1,ic2,ic3,ic4⟩:=c5 bI
   have zI:w.heap.size<wr.heap.size:=by omega
   have hbx:Below wr.heap.size wr (wr.alloc (.cells #[.int .i64 xa,.int .i64 xb] 48)):=aq _ _
   have hBx:Below B w (wr.alloc (.cells #[.int .i64 xa,.int .i64 xb] 48)):=(ab HB).trans (hbx.mono (by have:=(ab HB).size;omega))
   have HC2:=ae (takein_any Bo B mb (nn+i2) s t k z q l e b v r m pv' lv' ps lw es' x1 x2 x3 x4 x5 xa xb (wr.alloc (.cells #[.int .i64 xa,.int .i64 xb] 48)) ((hbx.block Bo (Array.getElem?_eq_some_iff.1 (ab HO)).1).trans (ab HO)) hBo (by have:=(ab HB).size;simp;omega) hmb ((ab HR).bel hbx) (aJ (ab HP) (aB hbx) (fun _ e9=>by cases e9)) (aJ (ab HL) (aB hbx) (fun _ e9=>by cases e9)) hl (ab HRi) (ab HOk) (fun e9 he9=>((ab HIn).2 e9.2 (List.mem_map.2 ⟨e9,he9,rfl⟩)).1) (hwf x3 hx3.1 hx3.2) hwf (fun e9 he9=>((ab HIn).2 e9.2 (List.mem_map.2 ⟨e9,he9,rfl⟩)).2.1) hxa2 hxb hxlt (by omega) (by omega) (by have:=ab HPs;omega) (by have:=ab HLl;omega))
   gi_wp2_with (refine⟨trivial,?_⟩;gi_at_call 60;refine(callsIn_wide.2 (ab HC2)).mono ?_;rintro e9 w6 ⟨rfl,pv2,lv2,es2,bO2,hR2,hP2,hL2,hq2,hB2,hK2⟩)
   have HF2:Hid ((ws.take (i2+1)).foldl (bE (decide (k=3)) l m x3 x4) (aH es,[],[])=bE (decide (k=3)) l m x3 x4 (aH es',ps,lw) ⟨xa,xb⟩):=ae (by rw[List.take_add_one,ab HXK,Option.toList,List.foldl_append,ab HFo];rfl)
   have hinv:=im_inv (ses:=decide (k=3)) (l:=l) (m:=m) (ky:=x3) (v:=x4) (ps:=ps) (lw:=lw) (w:=⟨xa,xb⟩) (ab HIn) (by omega) hx3 hxa2 hxb
   obtain⟨⟨ys3,ps3,lw3⟩,h3⟩:∃r9,bE (decide (k=3)) l m x3 x4 (aH es',ps,lw) ⟨xa,xb⟩=r9:=⟨_,rfl⟩
   rw[h3]at hP2 hL2 hq2 hinv HF2
   dsimp only at hP2 hL2 hq2 hinv
   subst hq2
   have hel2:es2.length≤es'.length+1:=by have h9:=hinv.2.1;unfold aH at h9;rw[List.length_map,List.length_map]at h9;exact h9
   refine⟨⟨i2+1,pv2,lv2,es2,ps3,lw3,by omega,by go_num,HF2,ae hinv.1,ae (by omega),ae ?_,ae (by have:=hinv.2.2.2;have:=ab HLl;omega),ae bO2,ae hR2,ae hP2,ae hL2,ae (ik.own (aJ (ab HW) (aB hbx) (fun _ e9=>by cases e9)) hK2 (by decide)),ae (hK2.2 _ _ _ (by decide) ((hbx.block _ zI).trans (ab HI))),ae (hBx.trans hB2),by have:=hK2.1;simp at this;omega⟩,by simp[intOf];omega⟩
   have h9:=hinv.2.2.1
   have h8:=ab HPl
   have h7:(aH es').length≤361:=by unfold aH;rw[List.length_map];omega
   split
   ·rename_i hk3
    rw[if_pos hk3]at h9 h8
    omega
   ·rename_i hk3
    rw[if_neg hk3]at h9 h8
    omega
  ·obtain rfl:i2=nw:=by omega
   rw[List.take_of_length_le (by rw[ab HNw];exact Nat.le_refl _),←ab HIM]at HFo
   gi_wp2
   refine leavesIn_cons (f:=59) (args:=#[.pointer (some ⟨Bo,0,none⟩)]) (by simp) (fun _=>by omega) (nV) (fun _ _=>trivial) ?_
   refine(gather_any .returning Bo B mb (nn+i2) s t k z q l e b v r m pv' lv' ps es' wr (ab HO) hBo (by have:=(ab HB).size;omega) (ab HR) (ab HP) (ab HRi) (ab HOk) (fun e9 he9=>by have h9:=((ab HIn).2 e9.2 (List.mem_map.2 ⟨e9,he9,rfl⟩)).2.2.2;exact⟨h9.1,by omega⟩) (by omega) (by have:=ab HPs;omega) (by omega)).mono ?_
   rintro e9 u9 w2 ⟨rfl,rfl,pv2,bO2,hR2,hP2,hB2,hK2⟩
   have hfl:((aH es').filter (cy m)).length≤400:=Nat.le_trans (List.length_filter_le _ _) (by unfold aH;rw[List.length_map];omega)
   refine⟨.tuple #[],results_none rfl _ _ _,rfl,pv2,lv',gEs m es',bO2,hR2.more (by omega),?_,?_,?_,?_,?_,?_,?_,?_,(ab HB).trans hB2⟩
   ·rw[ab HFo]
    rw[gEs_pans]at hP2
    exact hP2
   ·rw[ab HFo]
    exact hK2.own (ab HL) (by decide)
   ·rw[ab HFo,gEs_rows]
    rfl
   ·rw[iE,gEs_rows]
    exact List.pairwise_map.2 ((ab HIn).1.imp (fun{a c} hac=>by rw[jn,jn];exact hac))
   ·intro e8 he8
    unfold gEs at he8
    obtain⟨e7,he7,rfl⟩:=List.mem_map.1 he8
    have h9:=ab HOk e7 he7
    have e6:aU (if cy m e7.2=true then cT e7.2 else e7.2)=aU e7.2:=by split<;>rfl
    show gx (aU (if cy m e7.2=true then cT e7.2 else e7.2))
    rw[e6]
    exact h9
   ·unfold gEs
    rw[List.length_map]
    omega
   ·rw[ab HFo]
    unfold gaF
    dsimp only
    rw[List.length_append,List.length_map]
    have:=ab HPs
    omega
   ·rw[ab HFo]
    have:=ab HLl
    show lw.length≤61
    omega
set_option linter.unusedSimpArgs false
set_option maxRecDepth 100000 in
set_option maxHeartbeats 8000000 in
theorem lP(s t k z q l e:Int)(b:Bool)(v r m:Int)(a:Option Addr)(len cap:Nat)(xs:List aC)(x1 x2 x3 x4 x5:Int)(w:World)(h:cO w a len xs):Calls Tryz.prog 8 #[.agg #[.int .i64 s,.int .i64 t,.int .i64 k,.int .i64 z,.int .i64 q,.int .i64 l,.int .i64 e,.bool b,.int .i64 v,.int .i64 r],.agg #[.int .i64 m,.slice a len cap],.agg #[.int .i64 x1,.int .i64 x2,.int .i64 x3,.int .i64 x4,.int .i64 x5]] w fun e' w'=>∃v1 v2 v3,e'= .returned (.tuple #[.agg #[.int .i64 (de s t k z q l e b v r m xs x1 x2 x3 x4 x5).1,v1],v2,v3])∧aS w' w.heap.size v1 (de s t k z q l e b v r m xs x1 x2 x3 x4 x5).2.1∧aR w' w.heap.size v2 (de s t k z q l e b v r m xs x1 x2 x3 x4 x5).2.2.1∧bT w' w.heap.size v3 (de s t k z q l e b v r m xs x1 x2 x3 x4 x5).2.2.2∧Below w.heap.size w w':=by
 have hxl:=h.1
 have hbE:Below w.heap.size w ((((w.alloc (.cells #[.int .i64 s,.int .i64 t,.int .i64 k,.int .i64 z,.int .i64 q,.int .i64 l,.int .i64 e,.bool b,.int .i64 v,.int .i64 r] 24)).alloc (.cells #[.int .i64 m,.slice a len cap] 27)).alloc (.cells #[.int .i64 x1,.int .i64 x2,.int .i64 x3,.int .i64 x4,.int .i64 x5] 29)).alloc (.cells #[.int .i64 0,.slice none 0 0] 27)):=ag (ag (ag (aq _ _) _) _) _
 have HE:=ae (h.below hbE)
 have eJ:((((w.alloc (.cells #[.int .i64 s,.int .i64 t,.int .i64 k,.int .i64 z,.int .i64 q,.int .i64 l,.int .i64 e,.bool b,.int .i64 v,.int .i64 r] 24)).alloc (.cells #[.int .i64 m,.slice a len cap] 27)).alloc (.cells #[.int .i64 x1,.int .i64 x2,.int .i64 x3,.int .i64 x4,.int .i64 x5] 29)).alloc (.cells #[.int .i64 0,.slice none 0 0] 27)).heap[w.heap.size]? =some (.cells #[.int .i64 s,.int .i64 t,.int .i64 k,.int .i64 z,.int .i64 q,.int .i64 l,.int .i64 e,.bool b,.int .i64 v,.int .i64 r] 24 (0,0)):=aN<|aN<|aN<|nA
 have eS:((((w.alloc (.cells #[.int .i64 s,.int .i64 t,.int .i64 k,.int .i64 z,.int .i64 q,.int .i64 l,.int .i64 e,.bool b,.int .i64 v,.int .i64 r] 24)).alloc (.cells #[.int .i64 m,.slice a len cap] 27)).alloc (.cells #[.int .i64 x1,.int .i64 x2,.int .i64 x3,.int .i64 x4,.int .i64 x5] 29)).alloc (.cells #[.int .i64 0,.slice none 0 0] 27)).heap[w.heap.size+1]? =some (.cells #[.int .i64 m,.slice a len cap] 27 (0,0)):=aN<|aN<|nA
 have eI:((((w.alloc (.cells #[.int .i64 s,.int .i64 t,.int .i64 k,.int .i64 z,.int .i64 q,.int .i64 l,.int .i64 e,.bool b,.int .i64 v,.int .i64 r] 24)).alloc (.cells #[.int .i64 m,.slice a len cap] 27)).alloc (.cells #[.int .i64 x1,.int .i64 x2,.int .i64 x3,.int .i64 x4,.int .i64 x5] 29)).alloc (.cells #[.int .i64 0,.slice none 0 0] 27)).heap[w.heap.size+1+1]? =some (.cells #[.int .i64 x1,.int .i64 x2,.int .i64 x3,.int .i64 x4,.int .i64 x5] 29 (0,0)):=aN<|nA
 have eR:((((w.alloc (.cells #[.int .i64 s,.int .i64 t,.int .i64 k,.int .i64 z,.int .i64 q,.int .i64 l,.int .i64 e,.bool b,.int .i64 v,.int .i64 r] 24)).alloc (.cells #[.int .i64 m,.slice a len cap] 27)).alloc (.cells #[.int .i64 x1,.int .i64 x2,.int .i64 x3,.int .i64 x4,.int .i64 x5] 29)).alloc (.cells #[.int .i64 0,.slice none 0 0] 27)).heap[w.heap.size+1+1+1]? =some (.cells #[.int .i64 0,.slice none 0 0] 27 (0,0)):=nA
 obtain⟨ob,hob⟩:∃ob,cB s t k z q l e v r m xs=ob:=⟨_,rfl⟩
 have HOB:=ae hob
 clear hob
 go_enter Tryz.func8,Tryz.ntmps8
 go_wp2_with fail
 refine(implopok_eq s t k z q l e b v r m _ _ _ xs _ (ab HE) HOB).mono ?_
 rintro e' w1 ⟨rfl,hb1⟩
 have bJ:=(hb1.block (w.heap.size) (sA)).trans eJ
 have bS:=(hb1.block (w.heap.size+1) (sA)).trans eS
 have bI:=(hb1.block (w.heap.size+1+1) (sA)).trans eI
 have bR:=(hb1.block (w.heap.size+1+1+1) (sA)).trans eR
 have hbw:Below w.heap.size w w1:=am hbE hb1
 have hz1:w.heap.size+4≤w1.heap.size:=by have:=hb1.size;simp at this;omega
 clear eJ eS eI eR HE hbE hb1
 have hnone:ep s t k z q l e v r m xs x1 x2 x3 x4 x5=false→∀(W:World) (v2 v3:Value),aR W w.heap.size v2 []→bT W w.heap.size v3 []→Below w.heap.size w W→∃v1 v4 v5,(Ending.returned (.tuple #[.agg #[.int .i64 0,.slice none 0 0],v2,v3]))= .returned (.tuple #[.agg #[.int .i64 (de s t k z q l e b v r m xs x1 x2 x3 x4 x5).1,v1],v4,v5])∧aS W w.heap.size v1 (de s t k z q l e b v r m xs x1 x2 x3 x4 x5).2.1∧aR W w.heap.size v4 (de s t k z q l e b v r m xs x1 x2 x3 x4 x5).2.2.1∧bT W w.heap.size v5 (de s t k z q l e b v r m xs x1 x2 x3 x4 x5).2.2.2∧Below w.heap.size w W:=by
  intro h9 W v2 v3 h2 h3 hW
  rw[fx h9]
  exact⟨_,_,_,rfl,World.ownsRow_nil _ _ _ _,h2,h3,hW⟩
 have zw0:w.heap.size<w1.heap.size:=by omega
 have zw1:w.heap.size+1<w1.heap.size:=by omega
 have zw2:w.heap.size+1+1<w1.heap.size:=by omega
 have zw3:w.heap.size+1+1+1<w1.heap.size:=by omega
 obtain⟨j0,j1,j2,j3,j4,j5,j6,j7,j8,j9⟩:=cZ bJ
 obtain⟨ss0,ss1⟩:=c2 bS
 obtain⟨ic0,ic1,ic2,ic3,ic4⟩:=Go.Proofs.YtdmhihcipkhecaaGreat.c5 bI
 obtain⟨rr0,rr1⟩:=c2 bR
 obtain⟨rrf0,rrf1⟩:=f2 bR
 cases ob with
 |false=>
  have hno:=ae (hnone (by unfold ep;rw[ab HOB];rfl))
  have hO4:Hid (Below w.heap.size w ((w1.setCell ⟨w.heap.size+1+1+1,0,none⟩ (.int .i64 0)).setCell ⟨w.heap.size+1+1+1,1,none⟩ (.slice none 0 0))):=ae (av (av hbw (sA) _) (sA) _)
  clear hnone bJ bS bI bR
  go_wp2
  refine bodyPost_ret (v:= .tuple #[.agg #[.int .i64 0,.slice none 0 0],.slice none 0 0,.slice none 0 0]) (nx) rfl ?_
  exact ab hno _ _ _ (World.ownsRow_nil _ _ _ _) (World.ownsRow_nil _ _ _ _) (ab hO4)
 |true=>
  obtain⟨io,hio⟩:∃io,dd x1 x2 x3 x4 x5=io:=⟨_,rfl⟩
  have HIR:=ae hio
  have HCI:=isrec_any x1 x2 x3 x4 x5 w1
  rw[hio]at HCI
  have HCI2:=ae HCI
  clear hio HCI
  go_wp2_with fail
  refine(ab HCI2).mono ?_
  rintro e' w2 ⟨rfl,hb2⟩
  clear j0 j1 j2 j3 j4 j5 j6 j7 j8 j9 ss0 ss1 ic0 ic1 ic2 ic3 ic4 rr0 rr1 rrf0 rrf1 HCI2 zw0 zw1 zw2 zw3
  replace bJ:=(hb2.block (w.heap.size) (by omega)).trans bJ
  replace bS:=(hb2.block (w.heap.size+1) (by omega)).trans bS
  replace bI:=(hb2.block (w.heap.size+1+1) (by omega)).trans bI
  replace bR:=(hb2.block (w.heap.size+1+1+1) (by omega)).trans bR
  replace hbw:Below w.heap.size w w2:=am hbw hb2
  have zzw2:=hb2.size
  clear hb2
  have zw0:w.heap.size<w2.heap.size:=by omega
  have zw1:w.heap.size+1<w2.heap.size:=by omega
  have zw2:w.heap.size+1+1<w2.heap.size:=by omega
  have zw3:w.heap.size+1+1+1<w2.heap.size:=by omega
  obtain⟨j0,j1,j2,j3,j4,j5,j6,j7,j8,j9⟩:=cZ bJ
  obtain⟨ss0,ss1⟩:=c2 bS
  obtain⟨ic0,ic1,ic2,ic3,ic4⟩:=Go.Proofs.YtdmhihcipkhecaaGreat.c5 bI
  obtain⟨rr0,rr1⟩:=c2 bR
  obtain⟨rrf0,rrf1⟩:=f2 bR
  cases io with
  |false=>
   have hno:=ae (hnone (by unfold ep;rw[ab HOB,ab HIR];rfl))
   have hO4:Hid (Below w.heap.size w ((w2.setCell ⟨w.heap.size+1+1+1,0,none⟩ (.int .i64 0)).setCell ⟨w.heap.size+1+1+1,1,none⟩ (.slice none 0 0))):=ae (av (av hbw (sA) _) (sA) _)
   clear hnone bJ bS bI bR
   go_wp2
   refine bodyPost_ret (v:= .tuple #[.agg #[.int .i64 0,.slice none 0 0],.slice none 0 0,.slice none 0 0]) (nx) rfl ?_
   exact ab hno _ _ _ (World.ownsRow_nil _ _ _ _) (World.ownsRow_nil _ _ _ _) (ab hO4)
  |true=>
   by_cases hn:len≤280
   ·have kd:decide ((280:Int)<(len:Int))=false:=by simp;omega
    have kd2:decide (280<len)=false:=by simp;omega
    obtain⟨hx3,hl,hmb,hokx,hrs⟩:=ga (ab HOB)
    have hj:=fl (ab HOB)
    obtain⟨hT,hx33⟩:=isRec_bd (ab HIR)
    have HTF:Hid (de s t k z q l e b v r m xs x1 x2 x3 x4 x5=(m,(cm (decide (k=3)) b l m x3 x4 xs (aQ k z q x2)).1,(cm (decide (k=3)) b l m x3 x4 xs (aQ k z q x2)).2.1,(cm (decide (k=3)) b l m x3 x4 xs (aQ k z q x2)).2.2.map (eH x1 x2 x3 x4 x5))):=ae (by unfold de;rw[takB_of (ab HOB) (ab HIR) (by omega)];rfl)
    have HSame:Hid (cm (decide (k=3)) b l m x3 x4 xs (aQ k z q x2)=gaF b m (eE (decide (k=3)) l m x3 x4 xs (aQ k z q x2))):=ae (take_same hrs hokx (by omega) (fun h9=>wins_one (by simpa using h9)) (wins_pw hj))
    rw[ab HSame]at HTF
    have HInv:Hid (InvO 1500 xs):=ae ⟨hrs,fun x hx=>by have h1:=(dY (hokx x hx)).2.1;have h2:=(dY (hokx x hx)).2.2.2.1;have h3:=(dY (hokx x hx)).1;omega⟩
    have HOk3:Hid (∀x ∈ xs,gx (aU x)):=ae (fun x hx=>ok_ok3 (hokx x hx))
    have HRs:=ae hrs
    clear hnone hokx hrs
    have HX:=ae (h.below hbw)
    go_wp2_with fail
    refine(operof_any s t k z q l e b v r m _ _ _ xs _ (ab HX) (by omega) (ab HOk3) (ab HRs)).mono ?_
    rintro e' w3 ⟨es,rfl,hE,hR3,bO3,hb3⟩
    clear j0 j1 j2 j3 j4 j5 j6 j7 j8 j9 ss0 ss1 ic0 ic1 ic2 ic3 ic4 rr0 rr1 rrf0 rrf1 kd kd2 zw0 zw1 zw2 zw3
    have hbs3:=hb3.size
    replace bJ:=(hb3.block (w.heap.size) (by omega)).trans bJ
    replace bS:=(hb3.block (w.heap.size+1) (by omega)).trans bS
    replace bI:=(hb3.block (w.heap.size+1+1) (by omega)).trans bI
    replace bR:=(hb3.block (w.heap.size+1+1+1) (by omega)).trans bR
    replace hbw:Below w.heap.size w w3:=am hbw hb3
    have zzw3:=hb3.size
    clear hb3
    have hE2:aH es=xs:=hE
    have hel:es.length=len:=by have h9:=congrArg List.length hE;rw[List.length_map]at h9;omega
    obtain⟨Bo,hBo⟩:∃Bo,w2.heap.size+1+1+1=Bo:=⟨_,rfl⟩
    obtain⟨mb,hmbe⟩:∃mb,w2.heap.size+1+1=mb:=⟨_,rfl⟩
    rw[hBo,hmbe]at bO3
    rw[hmbe]at hR3
    rw[hBo]
    have hBB:w2.heap.size≤Bo:=by omega
    have hBm:w2.heap.size≤mb:=by omega
    have HTk:=ae (take_any Bo w2.heap.size mb len s t k z q l e b v r m (.slice none 0 0) (.slice none 0 0) es x1 x2 x3 x4 x5 w3 bO3 hBB zzw3 hBm hR3 (World.ownsRow_nil _ _ _ _) (World.ownsRow_nil _ _ _ _) hj hT ⟨by omega,by omega⟩ (by rw[hE2];exact ab HInv) (by omega) (by omega) (by omega))
    rw[hE2]at HTk
    clear hBo hmbe hE hE2 bO3 hR3 HX
    obtain⟨ic0,ic1,ic2,ic3,ic4⟩:=Go.Proofs.YtdmhihcipkhecaaGreat.c5 bI
    go_wp2_with fail
    refine(ab HTk).mono ?_
    rintro e' w4 ⟨rfl,pv4,lv4,es4,bO4,hR4,hP4,hL4,hq4,hri4,hok4,hl4,hpl4,hll4,hb4⟩
    clear ic0 ic1 ic2 ic3 ic4 HTk
    have zz4:=hb4.size
    have bR4:=(hb4.block (w.heap.size+1+1+1) (by omega)).trans bR
    have hbw4:Below w.heap.size w w4:=hbw.trans (hb4.mono (by omega))
    obtain⟨⟨ys,ps,lw⟩,hF⟩:∃r9,gaF b m (eE (decide (k=3)) l m x3 x4 xs (aQ k z q x2))=r9:=⟨_,rfl⟩
    rw[hF]at hP4 hL4 hq4 hpl4 hll4 HTF
    dsimp only at hP4 hL4 hq4 hpl4 hll4
    have HSt:=ae (state_any Bo w2.heap.size mb (len+61) s t k z q l e b v r m pv4 lv4 es4 w4.drew bO4 (hR4.bel (ap (Below.refl _ _))) hri4 hok4 (by omega))
    have HP4:=ae hP4
    have HL4:=ae hL4
    have Hq4:=ae hq4
    clear bJ bS bI bR hP4 hL4 hq4 hR4 hri4 hok4 hF hbw hb4
    go_wp2_with fail
    refine wp_region_held_drew (S:=(fun W=>W.heap[Bo]? =some (.cells #[.int .i64 s,.int .i64 t,.int .i64 k,.int .i64 z,.int .i64 q,.int .i64 l,.int .i64 e,.bool b,.int .i64 v,.int .i64 r,.int .i64 m,.map (some (mb)),pv4,lv4] 75 (0,0)))) (oc) ?_ (fun hHeld=>?_)
    ·((try dsimp only);exact bO4)
    refine kV 0 ?_
    refine kV 2 ?_
    refine kV 3 ?_
    refine kV 4 ?_
    refine kT 5 ?_ ?_ ?_
    rotate_left
    ·(intro w9 hSw;(try dsimp only at hSw);have q0:=hSw;have ax0:=cA q0 0;have ax1:=cA q0 1;have ax2:=cA q0 2;have ax3:=cA q0 3;have ax4:=cA q0 4;have ax5:=cA q0 5;have ax6:=cA q0 6;have ax7:=cA q0 7;have ax8:=cA q0 8;have ax9:=cA q0 9;have ax10:=cA q0 10;simp only[gA,gZ,gS]at ax0 ax1 ax2 ax3 ax4 ax5 ax6 ax7 ax8 ax9 ax10;have ax11:w9.cell? ⟨Bo,11,none⟩=some (.map (some (mb))):=(by simp[World.cell?,q0,go_sem]);have ax12:=cA q0 12;have ax13:=cA q0 13;simp only[gA,gZ,gS]at ax12 ax13;go_simp<;>with_reducible rfl)
    try simp only[Act.put,tA,tZ,tS]
    refine kV 6 ?_
    refine kV 7 ?_
    refine kV 8 ?_
    refine kT 9 ?_ ?_ ?_
    rotate_left
    ·(intro w9 hSw;(try dsimp only at hSw);have q0:=hSw;have ax0:=cA q0 0;have ax1:=cA q0 1;have ax2:=cA q0 2;have ax3:=cA q0 3;have ax4:=cA q0 4;have ax5:=cA q0 5;have ax6:=cA q0 6;have ax7:=cA q0 7;have ax8:=cA q0 8;have ax9:=cA q0 9;have ax10:=cA q0 10;simp only[gA,gZ,gS]at ax0 ax1 ax2 ax3 ax4 ax5 ax6 ax7 ax8 ax9 ax10;have ax11:w9.cell? ⟨Bo,11,none⟩=some (.map (some (mb))):=(by simp[World.cell?,q0,go_sem]);have ax12:=cA q0 12;have ax13:=cA q0 13;simp only[gA,gZ,gS]at ax12 ax13;go_simp<;>with_reducible rfl)
    try simp only[Act.put,tA,tZ,tS]
    refine rD 1 (fun K hK=>?_)
    go_simp
    (go_at_call 31;refine(ab HSt).mono ?_;rintro e9 w5 ⟨a5,c5,rfl,hO5,hb5⟩)
    (try go_wp2_with fail)
    replace hb5:Below w4.heap.size w4 w5:=am (ap (Below.refl _ _)) hb5
    have zz5:=hb5.size
    replace bO4:=(hb5.block Bo (Array.getElem?_eq_some_iff.1 bO4).1).trans bO4
    replace bR4:=(hb5.block (w.heap.size+1+1+1) (Array.getElem?_eq_some_iff.1 bR4).1).trans bR4
    replace hbw4:Below w.heap.size w w5:=am hbw4 hb5
    have HO5:Hid (aS w5 w.heap.size (.slice a5 es4.length c5) ys):=ae (by rw[←ab Hq4];exact World.ownsRow.mono hO5 (show w.heap.size≤w4.heap.size by omega))
    have HP5:=ae (World.ownsRow.mono (aJ (ab HP4) (aB hb5) (fun _ e9=>by cases e9)) (show w.heap.size≤w2.heap.size by omega))
    have HL5:=ae (World.ownsRow.mono (aJ (ab HL4) (aB hb5) (fun _ e9=>by cases e9)) (show w.heap.size≤w2.heap.size by omega))
    have hneB:Bo≠w.heap.size+1+1+1:=by omega
    clear hO5 hb5
    clear hHeld
    refine hK.out _ _ ?_ (fun hHeld=>?_)
    ·((try dsimp only);exact bO4)
    clear hK K
    try simp only[Act.put,tA,tZ,tS]
    refine rD 10 (fun K hK=>?_)
    obtain⟨rr0,rr1⟩:=c2 bR4
    obtain⟨rrf0,rrf1⟩:=f2 bR4
    have zr5:w.heap.size+1+1+1<w5.heap.size:=by omega
    go_simp
    clear rr0 rr1 rrf0 rrf1
    have mO:((w5.setCell ⟨w.heap.size+1+1+1,0,none⟩ (.int .i64 m)).setCell ⟨w.heap.size+1+1+1,1,none⟩ (.slice a5 es4.length c5)).heap[Bo]? =some (.cells #[.int .i64 s,.int .i64 t,.int .i64 k,.int .i64 z,.int .i64 q,.int .i64 l,.int .i64 e,.bool b,.int .i64 v,.int .i64 r,.int .i64 m,.map (some (mb)),pv4,lv4] 75 (0,0)):=(Below.heap_setCell _ _ _ _ hneB).trans ((Below.heap_setCell _ _ _ _ hneB).trans bO4)
    have mR:((w5.setCell ⟨w.heap.size+1+1+1,0,none⟩ (.int .i64 m)).setCell ⟨w.heap.size+1+1+1,1,none⟩ (.slice a5 es4.length c5)).heap[w.heap.size+1+1+1]? =some (.cells #[.int .i64 m,(.slice a5 es4.length c5)] 27 (0,0)):=Joins.block_setCell (Joins.block_setCell bR4 _) _
    have hOF:=ae (al (p:=⟨w.heap.size+1+1+1,1,none⟩) (u:=(.slice a5 es4.length c5)) (al (p:=⟨w.heap.size+1+1+1,0,none⟩) (u:= .int .i64 m) (ab HO5) (af (ab HO5) bR4 (by decide))) (af (ab HO5) bR4 (by decide)))
    have hPF:=ae (al (p:=⟨w.heap.size+1+1+1,1,none⟩) (u:=(.slice a5 es4.length c5)) (al (p:=⟨w.heap.size+1+1+1,0,none⟩) (u:= .int .i64 m) (ab HP5) (af (ab HP5) bR4 (by decide))) (af (ab HP5) bR4 (by decide)))
    have hLF:=ae (al (p:=⟨w.heap.size+1+1+1,1,none⟩) (u:=(.slice a5 es4.length c5)) (al (p:=⟨w.heap.size+1+1+1,0,none⟩) (u:= .int .i64 m) (ab HL5) (af (ab HL5) bR4 (by decide))) (af (ab HL5) bR4 (by decide)))
    have hBF:=ae (av (p:=⟨w.heap.size+1+1+1,1,none⟩) (av (p:=⟨w.heap.size+1+1+1,0,none⟩) hbw4 (sA) (.int .i64 m)) (sA) (.slice a5 es4.length c5))
    clear hHeld
    refine hK.out _ _ ?_ (fun hHeld=>?_)
    ·((try dsimp only);exact mO)
    clear hK K
    try simp only[Act.put,tA,tZ,tS]
    refine rD 11 (fun K hK=>?_)
    go_simp
    clear hHeld
    refine hK.out _ _ ?_ (fun hHeld=>?_)
    ·((try dsimp only);exact mO)
    clear hK K
    try simp only[Act.put,tA,tZ,tS]
    refine rD 12 (fun K hK=>?_)
    go_simp
    clear hHeld
    refine hK.out _ _ ?_ (fun hHeld=>?_)
    ·((try dsimp only);exact mO)
    clear hK K
    try simp only[Act.put,tA,tZ,tS]
    refine wpAnyH_done (oc) ?_ _
    clear hHeld mO bO4 bR4
    generalize ((w5.setCell ⟨w.heap.size+1+1+1,0,none⟩ (.int .i64 m)).setCell ⟨w.heap.size+1+1+1,1,none⟩ (.slice a5 es4.length c5))=w6 at mR hOF hPF hLF hBF ⊢
    obtain⟨rr0,rr1⟩:=c2 mR
    clear mR
    go_wp2
    refine bodyPost_ret (v:= .tuple #[.agg #[.int .i64 m,(.slice a5 es4.length c5)],pv4,lv4]) (nx) rfl ?_
    rw[ab HTF]
    exact⟨_,_,_,rfl,ab hOF,ab hPF,ab hLF,ab hBF⟩
   ·have kd:decide ((280:Int)<(len:Int))=true:=by simp;omega
    have kd2:decide (280<len)=true:=by simp;omega
    have hno:=ae (hnone (by unfold ep;rw[ab HOB,ab HIR];simp;omega))
    have hO4:Hid (Below w.heap.size w ((w2.setCell ⟨w.heap.size+1+1+1,0,none⟩ (.int .i64 0)).setCell ⟨w.heap.size+1+1+1,1,none⟩ (.slice none 0 0))):=ae (av (av hbw (sA) _) (sA) _)
    clear hnone bJ bS bI bR
    go_wp2
    refine bodyPost_ret (v:= .tuple #[.agg #[.int .i64 0,.slice none 0 0],.slice none 0 0,.slice none 0 0]) (nx) rfl ?_
    exact ab hno _ _ _ (World.ownsRow_nil _ _ _ _) (World.ownsRow_nil _ _ _ _) (ab hO4)
set_option linter.unusedSimpArgs false
theorem spectake_eq(s t k z q l e:Int)(b:Bool)(v r m:Int)(a:Option Addr)(len cap:Nat)(xs:List aC)(x1 x2 x3 x4 x5:Int)(w:World){M:Int}{R:List aC}{P:List cY}{L:List gv}(h:cO w a len xs)(hl:len≤1048576)(hN:Hid (de s t k z q l e b v r m xs x1 x2 x3 x4 x5=(M,R,P,L))):Calls Tryz.prog 9 #[.agg #[.int .i64 s,.int .i64 t,.int .i64 k,.int .i64 z,.int .i64 q,.int .i64 l,.int .i64 e,.bool b,.int .i64 v,.int .i64 r],.agg #[.int .i64 m,.slice a len cap],.agg #[.int .i64 x1,.int .i64 x2,.int .i64 x3,.int .i64 x4,.int .i64 x5]] w fun e' w'=>∃a1 c1 pa pc la lc,e'= .returned (.tuple #[.agg #[.int .i64 M,.slice a1 R.length c1],.slice pa P.length pc,.slice la L.length lc])∧aS w' w.heap.size (.slice a1 R.length c1) R∧aR w' w.heap.size (.slice pa P.length pc) P∧bT w' w.heap.size (.slice la L.length lc) L∧Below w.heap.size w w':=by
 refine(ic s t k z q l e b v r m a len cap xs x1 x2 x3 x4 x5 w h).mono ?_
 rintro e' w' ⟨v1,v2,v3,rfl,hO,hP,hL,hb⟩
 have hle:=tk_le s t k z q l e b v r m xs x1 x2 x3 x4 x5
 rw[ab hN]at hO hP hL hle ⊢
 dsimp only at hO hP hL hle ⊢
 obtain⟨a1,c1,rfl,_⟩:=eo hO hle.1
 obtain⟨pa,pc,rfl,_⟩:=kR hP hle.2.1
 obtain⟨la,lc,rfl,_⟩:=lE hL hle.2.2
 exact⟨a1,c1,pa,pc,la,lc,rfl,hO,hP,hL,hb⟩
theorem impltake_eq(s t k z q l e:Int)(b:Bool)(v r m:Int)(a:Option Addr)(len cap:Nat)(xs:List aC)(x1 x2 x3 x4 x5:Int)(w:World){M:Int}{R:List aC}{P:List cY}{L:List gv}(h:cO w a len xs)(hl:len≤1048576)(hN:Hid (de s t k z q l e b v r m xs x1 x2 x3 x4 x5=(M,R,P,L))):Calls Tryz.prog 8 #[.agg #[.int .i64 s,.int .i64 t,.int .i64 k,.int .i64 z,.int .i64 q,.int .i64 l,.int .i64 e,.bool b,.int .i64 v,.int .i64 r],.agg #[.int .i64 m,.slice a len cap],.agg #[.int .i64 x1,.int .i64 x2,.int .i64 x3,.int .i64 x4,.int .i64 x5]] w fun e' w'=>∃a1 c1 pa pc la lc,e'= .returned (.tuple #[.agg #[.int .i64 M,.slice a1 R.length c1],.slice pa P.length pc,.slice la L.length lc])∧aS w' w.heap.size (.slice a1 R.length c1) R∧aR w' w.heap.size (.slice pa P.length pc) P∧bT w' w.heap.size (.slice la L.length lc) L∧Below w.heap.size w w':=by
 refine(lP s t k z q l e b v r m a len cap xs x1 x2 x3 x4 x5 w h).mono ?_
 rintro e' w' ⟨v1,v2,v3,rfl,hO,hP,hL,hb⟩
 have hle:=tk_le s t k z q l e b v r m xs x1 x2 x3 x4 x5
 rw[ab hN]at hO hP hL hle ⊢
 dsimp only at hO hP hL hle ⊢
 obtain⟨a1,c1,rfl,_⟩:=eo hO hle.1
 obtain⟨pa,pc,rfl,_⟩:=kR hP hle.2.1
 obtain⟨la,lc,rfl,_⟩:=lE hL hle.2.2
 exact⟨a1,c1,pa,pc,la,lc,rfl,hO,hP,hL,hb⟩
end Go.Proofs.YtdmhihcipkhecaaGreat
