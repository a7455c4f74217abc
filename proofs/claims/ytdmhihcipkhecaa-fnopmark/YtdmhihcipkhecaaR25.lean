/- Laid together: what the claim needs of the texts that were built one by one. -/
import Derived.Test.YtdmhihcipkhecaaR18
import Derived.Test.YtdmhihcipkhecaaR10
import Derived.Test.YtdmhihcipkhecaaR0
import Derived.Test.YtdmhihcipkhecaaR17
import Derived.Test.YtdmhihcipkhecaaR1
import Derived.Test.YtdmhihcipkhecaaR2
import Derived.Test.YtdmhihcipkhecaaR12
import Derived.BigQuiet
set_option linter.unusedVariables false
namespace Go.Proofs.Ytdmhihcipkhecaa
open Go.ChangeShapes Go.WideShapes Go.ChangeAt Go.RowKit
/-- How many are told, and are left, among the first. -/
def fd(mark:Int)(xs:List aD)(i:Nat):Nat:=((xs.take i).filter (cT mark)).length
def fe(l mark:Int)(xs:List aD)(i:Nat):Nat:=((xs.take i).filter (fun x=>decide (mark<x.en+l))).length
theorem jY{α:Type}{p:α→Bool}:∀ {xs:List α} {i:Nat} {x:α},xs[i]? =some x→p x=true→(xs.filter p)[((xs.take i).filter p).length]? =some x
 | [],i,x,h,_=>by simp at h
 |y :: ys,0,x,h,hp=>by
  simp at h
  subst h
  simp[hp]
 |y :: ys,i+1,x,h,hp=>by
  have ih:=jY (xs:=ys) (i:=i) (x:=x) (by simpa using h) hp
  rw[List.take_succ_cons,List.filter_cons,List.filter_cons]
  split
  ·simpa using ih
  ·exact ih
theorem iN{α:Type}{p:α→Bool}{xs:List α}{i:Nat}{x:α}(h:xs[i]? =some x):((xs.take (i+1)).filter p).length=((xs.take i).filter p).length+(if p x=true then 1 else 0):=by
 rw[List.take_add_one,h,List.filter_append,List.length_append]
 congr 1
 show([x].filter p).length=_
 rw[List.filter_cons]
 split<;>rfl
theorem nTel_s{mark:Int}{xs:List aD}{i:Nat}{x:aD}(h:xs[i]? =some x)(ht:cT mark x=true):fd mark xs (i+1)=fd mark xs i+1:=by
 unfold fd;rw[iN h,if_pos ht]
theorem nTel_n{mark:Int}{xs:List aD}{i:Nat}{x:aD}(h:xs[i]? =some x)(ht:cT mark x=false):fd mark xs (i+1)=fd mark xs i:=by
 unfold fd;rw[iN h,if_neg (by simp[ht]),Nat.add_zero]
theorem nLft_s{l mark:Int}{xs:List aD}{i:Nat}{x:aD}(h:xs[i]? =some x)(ht:mark<x.en+l):fe l mark xs (i+1)=fe l mark xs i+1:=by
 unfold fe;rw[iN h,if_pos (by simpa using ht)]
theorem nLft_n{l mark:Int}{xs:List aD}{i:Nat}{x:aD}(h:xs[i]? =some x)(ht:¬ mark<x.en+l):fe l mark xs (i+1)=fe l mark xs i:=by
 unfold fe;rw[iN h,if_neg (by simpa using ht),Nat.add_zero]
theorem nTel_le(mark:Int)(xs:List aD)(i:Nat):fd mark xs i≤xs.length:=Nat.le_trans (List.length_filter_le _ _) (List.length_take_le' _ _)
theorem nLft_le(l mark:Int)(xs:List aD)(i:Nat):fe l mark xs i≤xs.length:=Nat.le_trans (List.length_filter_le _ _) (List.length_take_le' _ _)
theorem fL(mark:Int)(x:aD):(bM mark x).en=x.en∧(bM mark x).st=x.st∧(bM mark x).ky=x.ky:=by
 unfold bM;split<;>exact⟨rfl,rfl,rfl⟩
theorem mkRow_an(mark:Int)(x:aD):(bM mark x).an=x.an∧(bM mark x).asu=x.asu∧(bM mark x).ale=x.ale∧(bM mark x).amo=x.amo:=by
 unfold bM;split<;>exact⟨rfl,rfl,rfl,rfl⟩
theorem nTel_end(b:Bool)(mark:Int){xs:List aD}{i:Nat}(h:xs.length≤i):fd mark xs i=(bg b mark xs).length:=by
 unfold fd bg;rw[List.take_of_length_le h,List.length_map]
theorem nLft_end(l mark:Int){xs:List aD}{i:Nat}(h:xs.length≤i):fe l mark xs i=(aW l mark xs).length:=by
 unfold fe aW
 rw[List.take_of_length_le h,List.filter_map,List.length_map]
 refine congrArg List.length (List.filter_congr (fun x _=>?_))
 show _=decide (mark<(bM mark x).en+l)
 rw[(fL mark x).1]
/-- The pane that a row is told by. -/
theorem pan_at(b:Bool){mark:Int}{xs:List aD}{i:Nat}{x:aD}(h:xs[i]? =some x)(ht:cT mark x=true):(bg b mark xs)[fd mark xs i]? =some (ga b x):=by
 unfold bg fd
 rw[List.getElem?_map,jY h ht]
 rfl
theorem tel_iff{mark:Int}{x:aD}:cT mark x=true↔x.tm=false∧x.en≤mark:=by
 unfold cT
 cases x.tm<;>simp
/-- Who was not told in time has told nothing. -/
theorem td_zero{l m:Int}{ky st en an asu ale amo fn fsu fle fmo td:Int}(h:(⟨ky,st,en,an,asu,ale,amo,fn,fsu,fle,fmo,td,false⟩:aD).okB l m=true):td=0:=by
 simp only[aD.okB,aY,Bool.and_eq_true]at h
 obtain⟨⟨⟨⟨⟨⟨⟨⟨⟨⟨h1,h2⟩,h3⟩,h4⟩,h5⟩,h6⟩,h7⟩,h8⟩,h9⟩,h10⟩,h11⟩:=h
 have e1:decide (en≤m)=false:=by simpa using h9
 rw[e1]at h10
 have h12:¬ 0<td:=by simpa using h10
 have:=bB.1 h5
 omega
/-- A row that is left is found. -/
theorem found_lft{s t k z q l e v r m mark:Int}{xs:List aD}(hok:bT s t k z q l e v r m xs=true){i:Nat}{x:aD}(h:xs[i]? =some x)(hl:mark<x.en+l):cZ x.ky x.st x.en (aW l mark xs)=some (bM mark x):=by
 obtain⟨_,_,_,_,hp⟩:=eT hok
 have hi:=(List.getElem?_eq_some_iff.1 h).1
 have hx:=(List.getElem?_eq_some_iff.1 h).2
 have hmem:bM mark x ∈ aW l mark xs:=by
  unfold aW
  refine List.mem_filter.2 ⟨List.mem_map.2 ⟨x,List.mem_of_getElem? h,rfl⟩,?_⟩
  rw[(fL mark x).1]
  simpa using hl
 have hb:aD.isB x.ky x.st x.en (bM mark x)=true:=by
  obtain⟨h1,h2,h3⟩:=fL mark x
  simp[aD.isB,h1,h2,h3]
 unfold cZ
 cases hf:(aW l mark xs).find? (aD.isB x.ky x.st x.en)with
 |none=>
  rw[List.find?_eq_none]at hf
  exact absurd hb (by simpa using hf _ hmem)
 |some y=>
  have hy1:=List.find?_some hf
  have hy2:=List.mem_of_find?_eq_some hf
  unfold aW at hy2
  obtain⟨x2,hx2,rfl⟩:=List.mem_map.1 (List.mem_filter.1 hy2).1
  obtain⟨h1,h2,h3⟩:=fL mark x2
  simp[aD.isB,h1,h2,h3]at hy1
  obtain⟨j,hj,hxj⟩:=List.getElem_of_mem hx2
  have hij:i=j:=by
   rcases Nat.lt_trichotomy i j with h9|h9|h9
   ·have:=List.pairwise_iff_getElem.1 hp i j hi hj h9
    rw[hx,hxj]at this
    exact absurd this (by unfold ca bj;simp;omega)
   ·exact h9
   ·have:=List.pairwise_iff_getElem.1 hp j i hj hi h9
    rw[hx,hxj]at this
    exact absurd this (by unfold ca bj;simp;omega)
  subst hij
  rw[hx]at hxj
  rw[hxj]
/-- What is none: the mark is not asked of an operator that is not ok. -/
theorem mark_no{s t k z q l e:Int}{b:Bool}{v r m:Int}{xs:List aD}{mark:Int}(h:(bT s t k z q l e v r m xs&&bz mark 0 1000)=false):bA s t k z q l e b v r m xs mark=(0,[],[]):=if_neg (by simp[h])
theorem mark_old{s t k z q l e:Int}{b:Bool}{v r m:Int}{xs:List aD}{mark:Int}(h:bT s t k z q l e v r m xs=true)(h2:bz mark 0 1000=true)(h3:¬ m<mark):bA s t k z q l e b v r m xs mark=(m,xs,[]):=by
 unfold bA;rw[h,h2];simp only[Bool.and_self,if_true];rw[if_neg h3]
theorem mark_new{s t k z q l e:Int}{b:Bool}{v r m:Int}{xs:List aD}{mark:Int}(h:bT s t k z q l e v r m xs=true)(h2:bz mark 0 1000=true)(h3:m<mark):bA s t k z q l e b v r m xs mark=(mark,aW l mark xs,bg b mark xs):=by
 unfold bA;rw[h,h2];simp only[Bool.and_self,if_true];rw[if_pos h3]
set_option maxRecDepth 20000 in
set_option maxHeartbeats 2000000 in
theorem jD(m:Int)(a:Option Addr)(len cap:Nat)(xs:List aD)(ky st en:Int)(w:World)(h:bw w a len xs):Calls Try.prog 11 #[.agg #[.int .i64 m,.slice a len cap],.int .i64 ky,.agg #[.int .i64 st,.int .i64 en]] w fun e w'=>e= .returned (ez (cZ ky st en xs))∧Below w.heap.size w w':=by
 have hm:=h.2.1
 unfold maxLen at hm
 go_enter Try.func11,Try.ntmps11
 go_wp2
 go_loopw [17] (fun i wr=>∃k:Nat,k≤len∧i= .int .i64 k∧Hid (cZ ky st en (xs.take k)=none)∧Below ((((w.alloc (.cells #[.int .i64 m,.slice a len cap] 27)).alloc (.cells #[.int .i64 st,.int .i64 en] 38)).alloc (.cells #[.int .i64 0,.int .i64 0,.int .i64 0,.int .i64 0,.int .i64 0,.int .i64 0,.int .i64 0,.int .i64 0,.int .i64 0,.int .i64 0,.int .i64 0,.int .i64 0,.bool false] 42)).alloc (.cells #[.int .i64 ky,.int .i64 st,.int .i64 en] 70)).heap.size ((((w.alloc (.cells #[.int .i64 m,.slice a len cap] 27)).alloc (.cells #[.int .i64 st,.int .i64 en] 38)).alloc (.cells #[.int .i64 0,.int .i64 0,.int .i64 0,.int .i64 0,.int .i64 0,.int .i64 0,.int .i64 0,.int .i64 0,.int .i64 0,.int .i64 0,.int .i64 0,.int .i64 0,.bool false] 42)).alloc (.cells #[.int .i64 ky,.int .i64 st,.int .i64 en] 70)) wr) (fun i _=>len - (intOf i).toNat)
 case atStart=>exact⟨0,Nat.zero_le _,rfl,ae rfl,Below.refl _ _⟩
 case round=>
  obtain⟨k,hk,rfl,hN,hbw⟩:=hrel
  have hb0:Below w.heap.size w wr:=ap (af (af (af (ax _ _) _) _) _) hbw
  have c2_0:wr.cell? ⟨w.heap.size+1+1,0,none⟩=some (.int .i64 0):=(hbw.cell (p:=⟨w.heap.size+1+1,0,none⟩) (nc)).trans (ne)
  have c2_1:wr.cell? ⟨w.heap.size+1+1,1,none⟩=some (.int .i64 0):=(hbw.cell (p:=⟨w.heap.size+1+1,1,none⟩) (nc)).trans (ne)
  have c2_2:wr.cell? ⟨w.heap.size+1+1,2,none⟩=some (.int .i64 0):=(hbw.cell (p:=⟨w.heap.size+1+1,2,none⟩) (nc)).trans (ne)
  have c2_3:wr.cell? ⟨w.heap.size+1+1,3,none⟩=some (.int .i64 0):=(hbw.cell (p:=⟨w.heap.size+1+1,3,none⟩) (nc)).trans (ne)
  have c2_4:wr.cell? ⟨w.heap.size+1+1,4,none⟩=some (.int .i64 0):=(hbw.cell (p:=⟨w.heap.size+1+1,4,none⟩) (nc)).trans (ne)
  have c2_5:wr.cell? ⟨w.heap.size+1+1,5,none⟩=some (.int .i64 0):=(hbw.cell (p:=⟨w.heap.size+1+1,5,none⟩) (nc)).trans (ne)
  have c2_6:wr.cell? ⟨w.heap.size+1+1,6,none⟩=some (.int .i64 0):=(hbw.cell (p:=⟨w.heap.size+1+1,6,none⟩) (nc)).trans (ne)
  have c2_7:wr.cell? ⟨w.heap.size+1+1,7,none⟩=some (.int .i64 0):=(hbw.cell (p:=⟨w.heap.size+1+1,7,none⟩) (nc)).trans (ne)
  have c2_8:wr.cell? ⟨w.heap.size+1+1,8,none⟩=some (.int .i64 0):=(hbw.cell (p:=⟨w.heap.size+1+1,8,none⟩) (nc)).trans (ne)
  have c2_9:wr.cell? ⟨w.heap.size+1+1,9,none⟩=some (.int .i64 0):=(hbw.cell (p:=⟨w.heap.size+1+1,9,none⟩) (nc)).trans (ne)
  have c2_10:wr.cell? ⟨w.heap.size+1+1,10,none⟩=some (.int .i64 0):=(hbw.cell (p:=⟨w.heap.size+1+1,10,none⟩) (nc)).trans (ne)
  have c2_11:wr.cell? ⟨w.heap.size+1+1,11,none⟩=some (.int .i64 0):=(hbw.cell (p:=⟨w.heap.size+1+1,11,none⟩) (nc)).trans (ne)
  have c2_12:wr.cell? ⟨w.heap.size+1+1,12,none⟩=some (.bool false):=(hbw.cell (p:=⟨w.heap.size+1+1,12,none⟩) (nc)).trans (ne)
  have z2_0:wr.frozen? ⟨w.heap.size+1+1,0,none⟩=false:=(hbw.frozen (p:=⟨w.heap.size+1+1,0,none⟩) (nc)).trans (ne)
  have z2_1:wr.frozen? ⟨w.heap.size+1+1,1,none⟩=false:=(hbw.frozen (p:=⟨w.heap.size+1+1,1,none⟩) (nc)).trans (ne)
  have z2_2:wr.frozen? ⟨w.heap.size+1+1,2,none⟩=false:=(hbw.frozen (p:=⟨w.heap.size+1+1,2,none⟩) (nc)).trans (ne)
  have z2_3:wr.frozen? ⟨w.heap.size+1+1,3,none⟩=false:=(hbw.frozen (p:=⟨w.heap.size+1+1,3,none⟩) (nc)).trans (ne)
  have z2_4:wr.frozen? ⟨w.heap.size+1+1,4,none⟩=false:=(hbw.frozen (p:=⟨w.heap.size+1+1,4,none⟩) (nc)).trans (ne)
  have z2_5:wr.frozen? ⟨w.heap.size+1+1,5,none⟩=false:=(hbw.frozen (p:=⟨w.heap.size+1+1,5,none⟩) (nc)).trans (ne)
  have z2_6:wr.frozen? ⟨w.heap.size+1+1,6,none⟩=false:=(hbw.frozen (p:=⟨w.heap.size+1+1,6,none⟩) (nc)).trans (ne)
  have z2_7:wr.frozen? ⟨w.heap.size+1+1,7,none⟩=false:=(hbw.frozen (p:=⟨w.heap.size+1+1,7,none⟩) (nc)).trans (ne)
  have z2_8:wr.frozen? ⟨w.heap.size+1+1,8,none⟩=false:=(hbw.frozen (p:=⟨w.heap.size+1+1,8,none⟩) (nc)).trans (ne)
  have z2_9:wr.frozen? ⟨w.heap.size+1+1,9,none⟩=false:=(hbw.frozen (p:=⟨w.heap.size+1+1,9,none⟩) (nc)).trans (ne)
  have z2_10:wr.frozen? ⟨w.heap.size+1+1,10,none⟩=false:=(hbw.frozen (p:=⟨w.heap.size+1+1,10,none⟩) (nc)).trans (ne)
  have z2_11:wr.frozen? ⟨w.heap.size+1+1,11,none⟩=false:=(hbw.frozen (p:=⟨w.heap.size+1+1,11,none⟩) (nc)).trans (ne)
  have z2_12:wr.frozen? ⟨w.heap.size+1+1,12,none⟩=false:=(hbw.frozen (p:=⟨w.heap.size+1+1,12,none⟩) (nc)).trans (ne)
  have c3_0:wr.cell? ⟨w.heap.size+1+1+1,0,none⟩=some (.int .i64 ky):=(hbw.cell (p:=⟨w.heap.size+1+1+1,0,none⟩) (nc)).trans (ne)
  have c3_1:wr.cell? ⟨w.heap.size+1+1+1,1,none⟩=some (.int .i64 st):=(hbw.cell (p:=⟨w.heap.size+1+1+1,1,none⟩) (nc)).trans (ne)
  have c3_2:wr.cell? ⟨w.heap.size+1+1+1,2,none⟩=some (.int .i64 en):=(hbw.cell (p:=⟨w.heap.size+1+1+1,2,none⟩) (nc)).trans (ne)
  have hzb:w.heap.size+1+1+1<wr.heap.size:=by have:=hbw.size;simp at this;omega
  by_cases hlt:k<len
  ·obtain⟨hxl,_,hx⟩:=h
   obtain⟨g,o,rfl,hr⟩:=hx.resolve_left (by omega)
   obtain⟨x,hxk⟩:∃x,xs[k]? =some x:=⟨_,List.getElem?_eq_getElem (by omega)⟩
   have hg:g<w.heap.size:=hr.lt (by omega)
   have hX:=ae hxk
   obtain⟨d0,d1,d2,d3,d4,d5,d6,d7,d8,d9,d10,d11,d12⟩:=(hr k _ hxk).below hb0 hg
   clear hx hxk
   by_cases k1:x.ky=ky
   ·by_cases k2:x.st=st
    ·by_cases k3:x.en=en
     ·have hB:=isO_t k1 k2 k3
      have hV:=ae (jc (ab hX) (ab hN) hB)
      clear hB
      go_wp2
      go_region_held3 (fun W=>((W.cell? ⟨w.heap.size+1+1+1,0,none⟩=some (.int .i64 ky)∧W.cell? ⟨w.heap.size+1+1+1,1,none⟩=some (.int .i64 st)∧W.cell? ⟨w.heap.size+1+1+1,2,none⟩=some (.int .i64 en)∧W.cell? ⟨wr.heap.size,0,none⟩=some (.int .i64 x.ky)∧W.cell? ⟨wr.heap.size,1,none⟩=some (.int .i64 x.st)∧W.cell? ⟨wr.heap.size,2,none⟩=some (.int .i64 x.en)∧W.cell? ⟨wr.heap.size,3,none⟩=some (.int .i64 x.an)∧W.cell? ⟨wr.heap.size,4,none⟩=some (.int .i64 x.asu)∧W.cell? ⟨wr.heap.size,5,none⟩=some (.int .i64 x.ale)∧W.cell? ⟨wr.heap.size,6,none⟩=some (.int .i64 x.amo)∧W.cell? ⟨wr.heap.size,7,none⟩=some (.int .i64 x.fn)∧W.cell? ⟨wr.heap.size,8,none⟩=some (.int .i64 x.fsu)∧W.cell? ⟨wr.heap.size,9,none⟩=some (.int .i64 x.fle)∧W.cell? ⟨wr.heap.size,10,none⟩=some (.int .i64 x.fmo)∧W.cell? ⟨wr.heap.size,11,none⟩=some (.int .i64 x.td)∧W.cell? ⟨wr.heap.size,12,none⟩=some (.bool x.tm))∧w.heap.size+1+1+1<W.heap.size∧wr.heap.size<W.heap.size)) ((first|((repeat(first|(with_reducible assumption)|(with_reducible refine dp ?_ (mU))|(with_reducible refine dp ?_ (aq (Below.refl _ _)))|(with_reducible exact eY (mU) (sB) (sB))|(with_reducible refine dp ?_ (ax _ _))|(with_reducible refine em ?_ (sB) (sB) _)));done)|(refine⟨⟨?_,?_,?_,?_,?_,?_,?_,?_,?_,?_,?_,?_,?_,?_,?_,?_⟩,?_,?_⟩<;>first|(go_keep;done)|(simp;done)|(simp;omega)|omega)))
       (first
       |(go_at_call 29;refine(aO _ _ _ _ _ _ _ _ _ _ _ _ _ _).mono ?_;rintro e w' ⟨rfl,hb⟩;obtain⟨hc,hf,hs⟩:=aC hb))
      all_goals
       have hbX:Below wr.heap.size wr w':=(bx)
       have g0:=(hbX.cell (p:=⟨w.heap.size+1+1,0,none⟩) (by show w.heap.size+1+1<_;omega)).trans c2_0
       have y0:=(hbX.frozen (p:=⟨w.heap.size+1+1,0,none⟩) (by show w.heap.size+1+1<_;omega)).trans z2_0
       have g1:=(hbX.cell (p:=⟨w.heap.size+1+1,1,none⟩) (by show w.heap.size+1+1<_;omega)).trans c2_1
       have y1:=(hbX.frozen (p:=⟨w.heap.size+1+1,1,none⟩) (by show w.heap.size+1+1<_;omega)).trans z2_1
       have g2:=(hbX.cell (p:=⟨w.heap.size+1+1,2,none⟩) (by show w.heap.size+1+1<_;omega)).trans c2_2
       have y2:=(hbX.frozen (p:=⟨w.heap.size+1+1,2,none⟩) (by show w.heap.size+1+1<_;omega)).trans z2_2
       have g3:=(hbX.cell (p:=⟨w.heap.size+1+1,3,none⟩) (by show w.heap.size+1+1<_;omega)).trans c2_3
       have y3:=(hbX.frozen (p:=⟨w.heap.size+1+1,3,none⟩) (by show w.heap.size+1+1<_;omega)).trans z2_3
       have g4:=(hbX.cell (p:=⟨w.heap.size+1+1,4,none⟩) (by show w.heap.size+1+1<_;omega)).trans c2_4
       have y4:=(hbX.frozen (p:=⟨w.heap.size+1+1,4,none⟩) (by show w.heap.size+1+1<_;omega)).trans z2_4
       have g5:=(hbX.cell (p:=⟨w.heap.size+1+1,5,none⟩) (by show w.heap.size+1+1<_;omega)).trans c2_5
       have y5:=(hbX.frozen (p:=⟨w.heap.size+1+1,5,none⟩) (by show w.heap.size+1+1<_;omega)).trans z2_5
       have g6:=(hbX.cell (p:=⟨w.heap.size+1+1,6,none⟩) (by show w.heap.size+1+1<_;omega)).trans c2_6
       have y6:=(hbX.frozen (p:=⟨w.heap.size+1+1,6,none⟩) (by show w.heap.size+1+1<_;omega)).trans z2_6
       have g7:=(hbX.cell (p:=⟨w.heap.size+1+1,7,none⟩) (by show w.heap.size+1+1<_;omega)).trans c2_7
       have y7:=(hbX.frozen (p:=⟨w.heap.size+1+1,7,none⟩) (by show w.heap.size+1+1<_;omega)).trans z2_7
       have g8:=(hbX.cell (p:=⟨w.heap.size+1+1,8,none⟩) (by show w.heap.size+1+1<_;omega)).trans c2_8
       have y8:=(hbX.frozen (p:=⟨w.heap.size+1+1,8,none⟩) (by show w.heap.size+1+1<_;omega)).trans z2_8
       have g9:=(hbX.cell (p:=⟨w.heap.size+1+1,9,none⟩) (by show w.heap.size+1+1<_;omega)).trans c2_9
       have y9:=(hbX.frozen (p:=⟨w.heap.size+1+1,9,none⟩) (by show w.heap.size+1+1<_;omega)).trans z2_9
       have g10:=(hbX.cell (p:=⟨w.heap.size+1+1,10,none⟩) (by show w.heap.size+1+1<_;omega)).trans c2_10
       have y10:=(hbX.frozen (p:=⟨w.heap.size+1+1,10,none⟩) (by show w.heap.size+1+1<_;omega)).trans z2_10
       have g11:=(hbX.cell (p:=⟨w.heap.size+1+1,11,none⟩) (by show w.heap.size+1+1<_;omega)).trans c2_11
       have y11:=(hbX.frozen (p:=⟨w.heap.size+1+1,11,none⟩) (by show w.heap.size+1+1<_;omega)).trans z2_11
       have g12:=(hbX.cell (p:=⟨w.heap.size+1+1,12,none⟩) (by show w.heap.size+1+1<_;omega)).trans c2_12
       have y12:=(hbX.frozen (p:=⟨w.heap.size+1+1,12,none⟩) (by show w.heap.size+1+1<_;omega)).trans z2_12
       have hzw:w.heap.size+1+1<w'.heap.size:=by have:=hbX.size;omega
       clear hc hf hs
       go_wp2
       show bodyPost _ _ _ _ _ _
       refine bodyPost_ret (v:= .tuple #[.agg #[.int .i64 x.ky,.int .i64 x.st,.int .i64 x.en,.int .i64 x.an,.int .i64 x.asu,.int .i64 x.ale,.int .i64 x.amo,.int .i64 x.fn,.int .i64 x.fsu,.int .i64 x.fle,.int .i64 x.fmo,.int .i64 x.td,.bool x.tm],.bool true]) (by simp(maxDischargeDepth:=9) [results,Try.results11,go_sem, *]) rfl ⟨kP (ab hV).symm,?_⟩
       exact(bx)
     ·have hB:=isO_3 (ky:=ky) (st:=st) k3
      have k3':(x.en==en)=false:=by simpa using k3
      have hN':=ae (eH (ab hX) (ab hN) hB)
      clear hB
      go_wp2
      go_region_held3 (fun W=>((W.cell? ⟨w.heap.size+1+1+1,0,none⟩=some (.int .i64 ky)∧W.cell? ⟨w.heap.size+1+1+1,1,none⟩=some (.int .i64 st)∧W.cell? ⟨w.heap.size+1+1+1,2,none⟩=some (.int .i64 en)∧W.cell? ⟨wr.heap.size,0,none⟩=some (.int .i64 x.ky)∧W.cell? ⟨wr.heap.size,1,none⟩=some (.int .i64 x.st)∧W.cell? ⟨wr.heap.size,2,none⟩=some (.int .i64 x.en)∧W.cell? ⟨wr.heap.size,3,none⟩=some (.int .i64 x.an)∧W.cell? ⟨wr.heap.size,4,none⟩=some (.int .i64 x.asu)∧W.cell? ⟨wr.heap.size,5,none⟩=some (.int .i64 x.ale)∧W.cell? ⟨wr.heap.size,6,none⟩=some (.int .i64 x.amo)∧W.cell? ⟨wr.heap.size,7,none⟩=some (.int .i64 x.fn)∧W.cell? ⟨wr.heap.size,8,none⟩=some (.int .i64 x.fsu)∧W.cell? ⟨wr.heap.size,9,none⟩=some (.int .i64 x.fle)∧W.cell? ⟨wr.heap.size,10,none⟩=some (.int .i64 x.fmo)∧W.cell? ⟨wr.heap.size,11,none⟩=some (.int .i64 x.td)∧W.cell? ⟨wr.heap.size,12,none⟩=some (.bool x.tm))∧w.heap.size+1+1+1<W.heap.size∧wr.heap.size<W.heap.size)) ((first|((repeat(first|(with_reducible assumption)|(with_reducible refine dp ?_ (mU))|(with_reducible refine dp ?_ (aq (Below.refl _ _)))|(with_reducible exact eY (mU) (sB) (sB))|(with_reducible refine dp ?_ (ax _ _))|(with_reducible refine em ?_ (sB) (sB) _)));done)|(refine⟨⟨?_,?_,?_,?_,?_,?_,?_,?_,?_,?_,?_,?_,?_,?_,?_,?_⟩,?_,?_⟩<;>first|(go_keep;done)|(simp;done)|(simp;omega)|omega)))
       (first
       |(go_at_call 29;refine(aO _ _ _ _ _ _ _ _ _ _ _ _ _ _).mono ?_;rintro e w' ⟨rfl,hb⟩;obtain⟨hc,hf,hs⟩:=aC hb))
      all_goals
       go_wp2
       go_roundw
       case rel=>exact⟨k+1,by omega,by go_num,hN',(bx)⟩
       case measure=>simp[intOf];omega
    ·have hB:=isO_2 (ky:=ky) (en:=en) k2
     have k2':(x.st==st)=false:=by simpa using k2
     have hN':=ae (eH (ab hX) (ab hN) hB)
     clear hB
     go_wp2
     go_region_held3 (fun W=>((W.cell? ⟨w.heap.size+1+1+1,0,none⟩=some (.int .i64 ky)∧W.cell? ⟨w.heap.size+1+1+1,1,none⟩=some (.int .i64 st)∧W.cell? ⟨w.heap.size+1+1+1,2,none⟩=some (.int .i64 en)∧W.cell? ⟨wr.heap.size,0,none⟩=some (.int .i64 x.ky)∧W.cell? ⟨wr.heap.size,1,none⟩=some (.int .i64 x.st)∧W.cell? ⟨wr.heap.size,2,none⟩=some (.int .i64 x.en)∧W.cell? ⟨wr.heap.size,3,none⟩=some (.int .i64 x.an)∧W.cell? ⟨wr.heap.size,4,none⟩=some (.int .i64 x.asu)∧W.cell? ⟨wr.heap.size,5,none⟩=some (.int .i64 x.ale)∧W.cell? ⟨wr.heap.size,6,none⟩=some (.int .i64 x.amo)∧W.cell? ⟨wr.heap.size,7,none⟩=some (.int .i64 x.fn)∧W.cell? ⟨wr.heap.size,8,none⟩=some (.int .i64 x.fsu)∧W.cell? ⟨wr.heap.size,9,none⟩=some (.int .i64 x.fle)∧W.cell? ⟨wr.heap.size,10,none⟩=some (.int .i64 x.fmo)∧W.cell? ⟨wr.heap.size,11,none⟩=some (.int .i64 x.td)∧W.cell? ⟨wr.heap.size,12,none⟩=some (.bool x.tm))∧w.heap.size+1+1+1<W.heap.size∧wr.heap.size<W.heap.size)) ((first|((repeat(first|(with_reducible assumption)|(with_reducible refine dp ?_ (mU))|(with_reducible refine dp ?_ (aq (Below.refl _ _)))|(with_reducible exact eY (mU) (sB) (sB))|(with_reducible refine dp ?_ (ax _ _))|(with_reducible refine em ?_ (sB) (sB) _)));done)|(refine⟨⟨?_,?_,?_,?_,?_,?_,?_,?_,?_,?_,?_,?_,?_,?_,?_,?_⟩,?_,?_⟩<;>first|(go_keep;done)|(simp;done)|(simp;omega)|omega)))
      (first
      |(go_at_call 29;refine(aO _ _ _ _ _ _ _ _ _ _ _ _ _ _).mono ?_;rintro e w' ⟨rfl,hb⟩;obtain⟨hc,hf,hs⟩:=aC hb))
     all_goals
      go_wp2
      go_roundw
      case rel=>exact⟨k+1,by omega,by go_num,hN',(bx)⟩
      case measure=>simp[intOf];omega
   ·have hB:=isO_1 (st:=st) (en:=en) k1
    have k1':(x.ky==ky)=false:=by simpa using k1
    have hN':=ae (eH (ab hX) (ab hN) hB)
    clear hB
    go_wp2
    go_region_held3 (fun W=>((W.cell? ⟨w.heap.size+1+1+1,0,none⟩=some (.int .i64 ky)∧W.cell? ⟨w.heap.size+1+1+1,1,none⟩=some (.int .i64 st)∧W.cell? ⟨w.heap.size+1+1+1,2,none⟩=some (.int .i64 en)∧W.cell? ⟨wr.heap.size,0,none⟩=some (.int .i64 x.ky)∧W.cell? ⟨wr.heap.size,1,none⟩=some (.int .i64 x.st)∧W.cell? ⟨wr.heap.size,2,none⟩=some (.int .i64 x.en)∧W.cell? ⟨wr.heap.size,3,none⟩=some (.int .i64 x.an)∧W.cell? ⟨wr.heap.size,4,none⟩=some (.int .i64 x.asu)∧W.cell? ⟨wr.heap.size,5,none⟩=some (.int .i64 x.ale)∧W.cell? ⟨wr.heap.size,6,none⟩=some (.int .i64 x.amo)∧W.cell? ⟨wr.heap.size,7,none⟩=some (.int .i64 x.fn)∧W.cell? ⟨wr.heap.size,8,none⟩=some (.int .i64 x.fsu)∧W.cell? ⟨wr.heap.size,9,none⟩=some (.int .i64 x.fle)∧W.cell? ⟨wr.heap.size,10,none⟩=some (.int .i64 x.fmo)∧W.cell? ⟨wr.heap.size,11,none⟩=some (.int .i64 x.td)∧W.cell? ⟨wr.heap.size,12,none⟩=some (.bool x.tm))∧w.heap.size+1+1+1<W.heap.size∧wr.heap.size<W.heap.size)) ((first|((repeat(first|(with_reducible assumption)|(with_reducible refine dp ?_ (mU))|(with_reducible refine dp ?_ (aq (Below.refl _ _)))|(with_reducible exact eY (mU) (sB) (sB))|(with_reducible refine dp ?_ (ax _ _))|(with_reducible refine em ?_ (sB) (sB) _)));done)|(refine⟨⟨?_,?_,?_,?_,?_,?_,?_,?_,?_,?_,?_,?_,?_,?_,?_,?_⟩,?_,?_⟩<;>first|(go_keep;done)|(simp;done)|(simp;omega)|omega)))
     (first
     |(go_at_call 29;refine(aO _ _ _ _ _ _ _ _ _ _ _ _ _ _).mono ?_;rintro e w' ⟨rfl,hb⟩;obtain⟨hc,hf,hs⟩:=aC hb))
    all_goals
     go_wp2
     go_roundw
     case rel=>exact⟨k+1,by omega,by go_num,hN',(bx)⟩
     case measure=>simp[intOf];omega
  ·have hV:Hid (ez (cZ ky st en xs)= .tuple #[.agg #[.int .i64 0,.int .i64 0,.int .i64 0,.int .i64 0,.int .i64 0,.int .i64 0,.int .i64 0,.int .i64 0,.int .i64 0,.int .i64 0,.int .i64 0,.int .i64 0,.bool false],.bool false]):=ae (by have e:=ab hN;rw[List.take_of_length_le (by have:=h.1;omega)]at e;rw[e];rfl)
   go_wp2
   show bodyPost _ _ _ _ _ _
   refine bodyPost_ret (v:= .tuple #[.agg #[.int .i64 0,.int .i64 0,.int .i64 0,.int .i64 0,.int .i64 0,.int .i64 0,.int .i64 0,.int .i64 0,.int .i64 0,.int .i64 0,.int .i64 0,.int .i64 0,.bool false],.bool false]) (by simp(maxDischargeDepth:=9) [results,Try.results11,go_sem, *]) rfl ⟨kP (ab hV).symm,?_⟩
   exact(bx)
end Go.Proofs.Ytdmhihcipkhecaa
namespace Go.Proofs.Ytdmhihcipkhecaa
open Go.ChangeShapes Go.WideShapes Go.ChangeAt Go.RowKit Go.Shelf Go.Maps
set_option linter.unusedSimpArgs false
theorem mk_le(s t k z q l e:Int)(b:Bool)(v r m:Int)(xs:List aD)(mark:Int):(bA s t k z q l e b v r m xs mark).2.1.length≤xs.length∧(bA s t k z q l e b v r m xs mark).2.2.length≤xs.length:=by
 unfold bA
 split
 ·split
  ·exact⟨ig _ _ _,jV _ _ _⟩
  ·exact⟨Nat.le_refl _,Nat.zero_le _⟩
 ·exact⟨Nat.zero_le _,Nat.zero_le _⟩
theorem implmark_eq(s t k z q l e:Int)(b:Bool)(v r m:Int)(a:Option Addr)(len cap:Nat)(xs:List aD)(mark:Int)(w:World){M:Int}{R:List aD}{P:List cN}(h:bw w a len xs)(hl:len≤1048576)(hN:Hid (bA s t k z q l e b v r m xs mark=(M,R,P))):Calls Try.prog 5 #[.agg #[.int .i64 s,.int .i64 t,.int .i64 k,.int .i64 z,.int .i64 q,.int .i64 l,.int .i64 e,.bool b,.int .i64 v,.int .i64 r],.agg #[.int .i64 m,.slice a len cap],.int .i64 mark] w fun e' w'=>∃a1 c1 pa pc,e'= .returned (.tuple #[.agg #[.int .i64 M,.slice a1 R.length c1],.slice pa P.length pc])∧aR w' w.heap.size (.slice a1 R.length c1) R∧aS w' w.heap.size (.slice pa P.length pc) P∧Below w.heap.size w w':=by
 refine(li s t k z q l e b v r m a len cap xs mark w h).mono ?_
 rintro e' w' ⟨v1,v2,rfl,hO,hP,hb⟩
 have hle:=mk_le s t k z q l e b v r m xs mark
 have hxl:=h.1
 rw[ab hN]at hO hP hle ⊢
 dsimp only at hO hP hle ⊢
 obtain⟨a1,c1,rfl,_⟩:=dS hO (by omega)
 obtain⟨pa,pc,rfl,_⟩:=kj hP (by omega)
 exact⟨a1,c1,pa,pc,rfl,hO,hP,hb⟩
theorem specmark_eq(s t k z q l e:Int)(b:Bool)(v r m:Int)(a:Option Addr)(len cap:Nat)(xs:List aD)(mark:Int)(w:World){M:Int}{R:List aD}{P:List cN}(h:bw w a len xs)(hl:len≤1048576)(hN:Hid (bA s t k z q l e b v r m xs mark=(M,R,P))):Calls Try.prog 6 #[.agg #[.int .i64 s,.int .i64 t,.int .i64 k,.int .i64 z,.int .i64 q,.int .i64 l,.int .i64 e,.bool b,.int .i64 v,.int .i64 r],.agg #[.int .i64 m,.slice a len cap],.int .i64 mark] w fun e' w'=>∃a1 c1 pa pc,e'= .returned (.tuple #[.agg #[.int .i64 M,.slice a1 R.length c1],.slice pa P.length pc])∧aR w' w.heap.size (.slice a1 R.length c1) R∧aS w' w.heap.size (.slice pa P.length pc) P∧Below w.heap.size w w':=by
 refine(gN s t k z q l e b v r m a len cap xs mark w h).mono ?_
 rintro e' w' ⟨v1,v2,rfl,hO,hP,hb⟩
 have hle:=mk_le s t k z q l e b v r m xs mark
 have hxl:=h.1
 rw[ab hN]at hO hP hle ⊢
 dsimp only at hO hP hle ⊢
 obtain⟨a1,c1,rfl,_⟩:=dS hO (by omega)
 obtain⟨pa,pc,rfl,_⟩:=kj hP (by omega)
 exact⟨a1,c1,pa,pc,rfl,hO,hP,hb⟩
theorem found_is{s t k z q l e v r m mark:Int}{xs:List aD}(hok:bT s t k z q l e v r m xs=true){i:Nat}{x:aD}(h:xs[i]? =some x)(hl:mark<x.en+l):∃(f1 f2 f3 f4 f5:Int) (f6:Bool),ez (cZ x.ky x.st x.en (aW l mark xs))= .tuple #[.agg #[.int .i64 x.ky,.int .i64 x.st,.int .i64 x.en,.int .i64 x.an,.int .i64 x.asu,.int .i64 x.ale,.int .i64 x.amo,.int .i64 f1,.int .i64 f2,.int .i64 f3,.int .i64 f4,.int .i64 f5,.bool f6],.bool true]:=by
 rw[found_lft hok h hl]
 obtain⟨h1,h2,h3⟩:=fL mark x
 obtain⟨h4,h5,h6,h7⟩:=mkRow_an mark x
 exact⟨(bM mark x).fn,(bM mark x).fsu,(bM mark x).fle,(bM mark x).fmo,(bM mark x).td,(bM mark x).tm,by simp only[ez,h1,h2,h3,h4,h5,h6,h7]⟩
theorem ff(m:Int)(a:Option Addr)(len cap:Nat)(xs:List aD)(ky st en:Int)(w:World){V:Value}(h:bw w a len xs)(hV:Hid (ez (cZ ky st en xs)=V)):Calls Try.prog 11 #[.agg #[.int .i64 m,.slice a len cap],.int .i64 ky,.agg #[.int .i64 st,.int .i64 en]] w fun e w'=>e= .returned V∧Below w.heap.size w w':=by
 rw[←ab hV];exact jD m a len cap xs ky st en w h
theorem fh(m:Int)(a:Option Addr)(len cap:Nat)(xs:List aD)(ky st en:Int)(w:World){V:Value}(h:bw w a len xs)(hV:Hid (ez (cZ ky st en xs)=V)):Calls Try.prog 12 #[.agg #[.int .i64 m,.slice a len cap],.int .i64 ky,.agg #[.int .i64 st,.int .i64 en]] w fun e w'=>e= .returned V∧Below w.heap.size w w':=by
 rw[←ab hV];exact fX m a len cap xs ky st en w h
theorem orNil(W:World):bw W none 0 []:=⟨rfl,by unfold maxLen;omega,Or.inl rfl⟩
end Go.Proofs.Ytdmhihcipkhecaa
namespace Go.Proofs.Ytdmhihcipkhecaa
open Go.ChangeShapes Go.WideShapes Go.ChangeAt Go.RowKit
set_option maxRecDepth 20000 in
set_option maxHeartbeats 1000000 in
theorem frpanes_any(a1 a2:Option Addr)(len cap1 cap2:Nat)(xs:List cN)(w:World)(h1:eQ w a1 len xs)(h2:eQ w a2 len xs):Calls Try.prog 8 #[.slice a1 len cap1,.slice a2 len cap2] w fun e w'=>e= .returned (.bool true)∧Below w.heap.size w w':=by
 have hm:=h1.2.1
 unfold maxLen at hm
 go_enter Try.func8,Try.ntmps8
 go_wp2
 go_loopw [5] (fun i wr=>∃k:Nat,k≤len∧i= .int .i64 k∧Below w.heap.size w wr) (fun i _=>len - (intOf i).toNat)
 case atStart=>exact⟨0,Nat.zero_le _,rfl,Below.refl _ _⟩
 case round=>
  obtain⟨k,hk,rfl,hbw⟩:=hrel
  by_cases hlt:k<len
  ·obtain⟨hl1,_,hx1⟩:=h1
   obtain⟨hl2,_,hx2⟩:=h2
   obtain⟨g1,o1,rfl,hr1⟩:=hx1.resolve_left (by omega)
   obtain⟨g2,o2,rfl,hr2⟩:=hx2.resolve_left (by omega)
   obtain⟨x,hxk⟩:∃x,xs[k]? =some x:=⟨_,List.getElem?_eq_getElem (by omega)⟩
   have hltI:(k:Int)<(len:Int):=by omega
   obtain⟨c0,c1,c2,c3,c4,c5,c6,c7,c8⟩:=(hr1 k _ hxk).below hbw (hr1 k _ hxk).lt
   obtain⟨d0,d1,d2,d3,d4,d5,d6,d7,d8⟩:=(hr2 k _ hxk).below hbw (hr2 k _ hxk).lt
   clear hx1 hx2 hxk hr1 hr2
   go_wp2_with fail
   go_quiet (fail)
   go_wp2
   go_roundw
   case rel=>exact⟨k+1,by omega,by go_num,(dU)⟩
   case measure=>simp[intOf];omega
  ·go_wp2
   go_ret
   exact⟨rfl,hbw⟩
set_option maxRecDepth 20000 in
set_option maxHeartbeats 2000000 in
theorem fM(m:Int)(a1 a2:Option Addr)(len cap1 cap2:Nat)(xs:List aD)(w:World)(h1:bw w a1 len xs)(h2:bw w a2 len xs):Calls Try.prog 7 #[.agg #[.int .i64 m,.slice a1 len cap1],.agg #[.int .i64 m,.slice a2 len cap2]] w fun e w'=>e= .returned (.bool true)∧Below w.heap.size w w':=by
 have hm:=h1.2.1
 unfold maxLen at hm
 have hb0:Below w.heap.size w ((w.alloc (.cells #[.int .i64 m,.slice a1 len cap1] 27)).alloc (.cells #[.int .i64 m,.slice a2 len cap2] 27)):=af (ax _ _) _
 replace h1:=h1.below hb0
 replace h2:=h2.below hb0
 have e1:((w.alloc (.cells #[.int .i64 m,.slice a1 len cap1] 27)).alloc (.cells #[.int .i64 m,.slice a2 len cap2] 27)).cell? ⟨w.heap.size,1,none⟩=some (.slice a1 len cap1):=by simp[go_sem]
 have e2:((w.alloc (.cells #[.int .i64 m,.slice a1 len cap1] 27)).alloc (.cells #[.int .i64 m,.slice a2 len cap2] 27)).cell? ⟨w.heap.size+1,1,none⟩=some (.slice a2 len cap2):=by simp[go_sem]
 have hzs:w.heap.size+1<((w.alloc (.cells #[.int .i64 m,.slice a1 len cap1] 27)).alloc (.cells #[.int .i64 m,.slice a2 len cap2] 27)).heap.size:=by simp
 go_enter Try.func7,Try.ntmps7
 go_wp2
 generalize ((w.alloc (.cells #[.int .i64 m,.slice a1 len cap1] 27)).alloc (.cells #[.int .i64 m,.slice a2 len cap2] 27))=ws at h1 h2 e1 e2 hb0 hzs ⊢
 go_loopw [5] (fun i wr=>∃k:Nat,k≤len∧i= .int .i64 k∧Below ws.heap.size ws wr) (fun i _=>len - (intOf i).toNat)
 case atStart=>exact⟨0,Nat.zero_le _,rfl,Below.refl _ _⟩
 case round=>
  obtain⟨k,hk,rfl,hbw⟩:=hrel
  have f1:=(hbw.cell (p:=⟨w.heap.size,1,none⟩) (by show w.heap.size<_;omega)).trans e1
  have f2:=(hbw.cell (p:=⟨w.heap.size+1,1,none⟩) (by show w.heap.size+1<_;omega)).trans e2
  have z9:=hbw.size
  have z8:w.heap.size+1<wr.heap.size:=by omega
  have z7:w.heap.size<wr.heap.size:=by omega
  by_cases hlt:k<len
  ·obtain⟨hl1,_,hx1⟩:=h1
   obtain⟨hl2,_,hx2⟩:=h2
   obtain⟨g1,o1,rfl,hr1⟩:=hx1.resolve_left (by omega)
   obtain⟨g2,o2,rfl,hr2⟩:=hx2.resolve_left (by omega)
   obtain⟨x,hxk⟩:∃x,xs[k]? =some x:=⟨_,List.getElem?_eq_getElem (by omega)⟩
   have hg1:g1<ws.heap.size:=hr1.lt (by omega)
   have hg2:g2<ws.heap.size:=hr2.lt (by omega)
   have hltI:(k:Int)<(len:Int):=by omega
   obtain⟨c0,c1,c2,c3,c4,c5,c6,c7,c8,c9,bH,c11,c12⟩:=(hr1 k _ hxk).below hbw hg1
   obtain⟨d0,d1,d2,d3,d4,d5,d6,d7,d8,d9,d10,d11,d12⟩:=(hr2 k _ hxk).below hbw hg2
   clear hx1 hx2 hxk hr1 hr2 e1 e2
   go_wp2_with fail
   go_quiet (fail)
   go_wp2
   go_roundw
   case rel=>exact⟨k+1,by omega,by go_num,(by repeat(first|(with_reducible exact Below.refl _ _)|(with_reducible assumption)|(with_reducible refine aq ?_)|(with_reducible refine aQ ?_ _)))⟩
   case measure=>simp[intOf];omega
  ·go_wp2
   go_ret
   exact⟨rfl,ap hb0 hbw⟩
theorem jr(w:World):Calls Try.prog 10 #[] w fun e w'=>e= .returned (.bool true)∧Below w.heap.size w w':=by
 have ho:dz 0 1=true:=by decide
 go_enter Try.func10,Try.ntmps10
 go_wp2_with (go_at_call 28;refine(jw _ _ _).mono ?_;rintro e w' ⟨rfl,hb⟩)
 go_ret
 exact⟨by first|rfl|rw[ho],(dU)⟩
end Go.Proofs.Ytdmhihcipkhecaa
