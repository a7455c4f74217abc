/- Laid together: what the claim needs of the texts that were built one by one. -/
import Derived.Test.YtdmhihcipkhecaaGreatT1
import Derived.Test.YtdmhihcipkhecaaGreatT0
import Derived.Test.YtdmhihcipkhecaaGreatT8
set_option linter.unusedVariables false
namespace Go.Proofs.YtdmhihcipkhecaaGreat
open Go.ChangeShapes Go.WideShapes Go.ChangeAt Go.RowKit
theorem take_snocO{α:Type}{xs:List α}{k:Nat}{x:α}(h:xs[k]? =some x):xs.take (k+1)=xs.take k++[x]:=by
 obtain⟨hk,he⟩:=List.getElem?_eq_some_iff.1 h
 rw[List.take_add_one,h];rfl
/-- Whether a row is of a key's window; the first such row. -/
def aC.isB(ky st en:Int)(x:aC):Bool:=x.ky==ky&&(x.st==st&&x.en==en)
def eV(ky st en:Int)(xs:List aC):Option aC:=xs.find? (aC.isB ky st en)
def lz:Option aC→Value
 |some x=> .tuple #[.agg #[.int .i64 x.ky,.int .i64 x.st,.int .i64 x.en,.int .i64 x.an,.int .i64 x.asu,.int .i64 x.ale,.int .i64 x.amo,.int .i64 x.fn,.int .i64 x.fsu,.int .i64 x.fle,.int .i64 x.fmo,.int .i64 x.td,.bool x.tm],.bool true]
 |none=> .tuple #[.agg #[.int .i64 0,.int .i64 0,.int .i64 0,.int .i64 0,.int .i64 0,.int .i64 0,.int .i64 0,.int .i64 0,.int .i64 0,.int .i64 0,.int .i64 0,.int .i64 0,.bool false],.bool false]
theorem isO_t{ky st en:Int}{x:aC}(h1:x.ky=ky)(h2:x.st=st)(h3:x.en=en):x.isB ky st en=true:=by simp[aC.isB,h1,h2,h3]
theorem isO_1{ky st en:Int}{x:aC}(h1:¬ x.ky=ky):x.isB ky st en=false:=by simp[aC.isB,h1]
theorem isO_2{ky st en:Int}{x:aC}(h1:¬ x.st=st):x.isB ky st en=false:=by simp[aC.isB,h1]
theorem isO_3{ky st en:Int}{x:aC}(h1:¬ x.en=en):x.isB ky st en=false:=by simp[aC.isB,h1]
theorem findO_hit{ky st en:Int}{xs:List aC}{k:Nat}{x:aC}(hx:xs[k]? =some x)(h0:eV ky st en (xs.take k)=none)(hb:x.isB ky st en=true):eV ky st en xs=some x:=by
 have e:xs=xs.take k++x :: xs.drop (k+1):=by
  obtain⟨hk,he⟩:=List.getElem?_eq_some_iff.1 hx
  rw[←he,List.getElem_cons_drop,List.take_append_drop]
 rw[e]
 unfold eV at h0 ⊢
 rw[List.find?_append,h0]
 simp[hb]
theorem jz{ky st en:Int}{xs:List aC}{k:Nat}{x:aC}(hx:xs[k]? =some x)(h0:eV ky st en (xs.take k)=none)(hb:x.isB ky st en=false):eV ky st en (xs.take (k+1))=none:=by
 rw[take_snocO hx]
 unfold eV at h0 ⊢
 rw[List.find?_append,h0]
 simp[hb]
theorem foundO_hit{ky st en:Int}{xs:List aC}{k:Nat}{x:aC}(hx:xs[k]? =some x)(h0:eV ky st en (xs.take k)=none)(hb:x.isB ky st en=true):lz (eV ky st en xs)= .tuple #[.agg #[.int .i64 x.ky,.int .i64 x.st,.int .i64 x.en,.int .i64 x.an,.int .i64 x.asu,.int .i64 x.ale,.int .i64 x.amo,.int .i64 x.fn,.int .i64 x.fsu,.int .i64 x.fle,.int .i64 x.fmo,.int .i64 x.td,.bool x.tm],.bool true]:=by rw[findO_hit hx h0 hb];rfl
theorem ret_vO{a b:Value}(h:a=b):Ending.returned a= .returned b:=by rw[h]
set_option maxRecDepth 20000 in
set_option maxHeartbeats 2000000 in
theorem jX(m:Int)(a:Option Addr)(len cap:Nat)(xs:List aC)(ky st en:Int)(w:World)(h:cO w a len xs):Calls Tryz.prog 90 #[.agg #[.int .i64 m,.slice a len cap],.int .i64 ky,.agg #[.int .i64 st,.int .i64 en]] w fun e w'=>e= .returned (lz (eV ky st en xs))∧Below w.heap.size w w':=by
 have hm:=h.2.1
 unfold maxLen at hm
 go_enter Tryz.func90,Tryz.ntmps90
 go_wp2
 go_loopw [8] (fun i wr=>∃k:Nat,k≤len∧i= .int .i64 k∧Hid (eV ky st en (xs.take k)=none)∧Below (((w.alloc (.cells #[.int .i64 m,.slice a len cap] 27)).alloc (.cells #[.int .i64 st,.int .i64 en] 48)).alloc (.cells #[.int .i64 0,.int .i64 0,.int .i64 0,.int .i64 0,.int .i64 0,.int .i64 0,.int .i64 0,.int .i64 0,.int .i64 0,.int .i64 0,.int .i64 0,.int .i64 0,.bool false] 57)).heap.size (((w.alloc (.cells #[.int .i64 m,.slice a len cap] 27)).alloc (.cells #[.int .i64 st,.int .i64 en] 48)).alloc (.cells #[.int .i64 0,.int .i64 0,.int .i64 0,.int .i64 0,.int .i64 0,.int .i64 0,.int .i64 0,.int .i64 0,.int .i64 0,.int .i64 0,.int .i64 0,.int .i64 0,.bool false] 57)) wr) (fun i _=>len - (intOf i).toNat)
 case atStart=>exact⟨0,Nat.zero_le _,rfl,ae rfl,Below.refl _ _⟩
 case round=>
  obtain⟨k,hk,rfl,hN,hbw⟩:=hrel
  have hb0:Below w.heap.size w wr:=am (ag (ag (aq _ _) _) _) hbw
  have c0_0:wr.cell? ⟨w.heap.size,0,none⟩=some (.int .i64 m):=(hbw.cell (p:=⟨w.heap.size,0,none⟩) (nU)).trans (nV)
  have c0_1:wr.cell? ⟨w.heap.size,1,none⟩=some (.slice a len cap):=(hbw.cell (p:=⟨w.heap.size,1,none⟩) (nU)).trans (nV)
  have c1_0:wr.cell? ⟨w.heap.size+1,0,none⟩=some (.int .i64 st):=(hbw.cell (p:=⟨w.heap.size+1,0,none⟩) (nU)).trans (nV)
  have c1_1:wr.cell? ⟨w.heap.size+1,1,none⟩=some (.int .i64 en):=(hbw.cell (p:=⟨w.heap.size+1,1,none⟩) (nU)).trans (nV)
  have c2_0:wr.cell? ⟨w.heap.size+1+1,0,none⟩=some (.int .i64 0):=(hbw.cell (p:=⟨w.heap.size+1+1,0,none⟩) (nU)).trans (nV)
  have c2_1:wr.cell? ⟨w.heap.size+1+1,1,none⟩=some (.int .i64 0):=(hbw.cell (p:=⟨w.heap.size+1+1,1,none⟩) (nU)).trans (nV)
  have c2_2:wr.cell? ⟨w.heap.size+1+1,2,none⟩=some (.int .i64 0):=(hbw.cell (p:=⟨w.heap.size+1+1,2,none⟩) (nU)).trans (nV)
  have c2_3:wr.cell? ⟨w.heap.size+1+1,3,none⟩=some (.int .i64 0):=(hbw.cell (p:=⟨w.heap.size+1+1,3,none⟩) (nU)).trans (nV)
  have c2_4:wr.cell? ⟨w.heap.size+1+1,4,none⟩=some (.int .i64 0):=(hbw.cell (p:=⟨w.heap.size+1+1,4,none⟩) (nU)).trans (nV)
  have c2_5:wr.cell? ⟨w.heap.size+1+1,5,none⟩=some (.int .i64 0):=(hbw.cell (p:=⟨w.heap.size+1+1,5,none⟩) (nU)).trans (nV)
  have c2_6:wr.cell? ⟨w.heap.size+1+1,6,none⟩=some (.int .i64 0):=(hbw.cell (p:=⟨w.heap.size+1+1,6,none⟩) (nU)).trans (nV)
  have c2_7:wr.cell? ⟨w.heap.size+1+1,7,none⟩=some (.int .i64 0):=(hbw.cell (p:=⟨w.heap.size+1+1,7,none⟩) (nU)).trans (nV)
  have c2_8:wr.cell? ⟨w.heap.size+1+1,8,none⟩=some (.int .i64 0):=(hbw.cell (p:=⟨w.heap.size+1+1,8,none⟩) (nU)).trans (nV)
  have c2_9:wr.cell? ⟨w.heap.size+1+1,9,none⟩=some (.int .i64 0):=(hbw.cell (p:=⟨w.heap.size+1+1,9,none⟩) (nU)).trans (nV)
  have c2_10:wr.cell? ⟨w.heap.size+1+1,10,none⟩=some (.int .i64 0):=(hbw.cell (p:=⟨w.heap.size+1+1,10,none⟩) (nU)).trans (nV)
  have c2_11:wr.cell? ⟨w.heap.size+1+1,11,none⟩=some (.int .i64 0):=(hbw.cell (p:=⟨w.heap.size+1+1,11,none⟩) (nU)).trans (nV)
  have c2_12:wr.cell? ⟨w.heap.size+1+1,12,none⟩=some (.bool false):=(hbw.cell (p:=⟨w.heap.size+1+1,12,none⟩) (nU)).trans (nV)
  have z2_0:wr.frozen? ⟨w.heap.size+1+1,0,none⟩=false:=(hbw.frozen (p:=⟨w.heap.size+1+1,0,none⟩) (nU)).trans (nV)
  have z2_1:wr.frozen? ⟨w.heap.size+1+1,1,none⟩=false:=(hbw.frozen (p:=⟨w.heap.size+1+1,1,none⟩) (nU)).trans (nV)
  have z2_2:wr.frozen? ⟨w.heap.size+1+1,2,none⟩=false:=(hbw.frozen (p:=⟨w.heap.size+1+1,2,none⟩) (nU)).trans (nV)
  have z2_3:wr.frozen? ⟨w.heap.size+1+1,3,none⟩=false:=(hbw.frozen (p:=⟨w.heap.size+1+1,3,none⟩) (nU)).trans (nV)
  have z2_4:wr.frozen? ⟨w.heap.size+1+1,4,none⟩=false:=(hbw.frozen (p:=⟨w.heap.size+1+1,4,none⟩) (nU)).trans (nV)
  have z2_5:wr.frozen? ⟨w.heap.size+1+1,5,none⟩=false:=(hbw.frozen (p:=⟨w.heap.size+1+1,5,none⟩) (nU)).trans (nV)
  have z2_6:wr.frozen? ⟨w.heap.size+1+1,6,none⟩=false:=(hbw.frozen (p:=⟨w.heap.size+1+1,6,none⟩) (nU)).trans (nV)
  have z2_7:wr.frozen? ⟨w.heap.size+1+1,7,none⟩=false:=(hbw.frozen (p:=⟨w.heap.size+1+1,7,none⟩) (nU)).trans (nV)
  have z2_8:wr.frozen? ⟨w.heap.size+1+1,8,none⟩=false:=(hbw.frozen (p:=⟨w.heap.size+1+1,8,none⟩) (nU)).trans (nV)
  have z2_9:wr.frozen? ⟨w.heap.size+1+1,9,none⟩=false:=(hbw.frozen (p:=⟨w.heap.size+1+1,9,none⟩) (nU)).trans (nV)
  have z2_10:wr.frozen? ⟨w.heap.size+1+1,10,none⟩=false:=(hbw.frozen (p:=⟨w.heap.size+1+1,10,none⟩) (nU)).trans (nV)
  have z2_11:wr.frozen? ⟨w.heap.size+1+1,11,none⟩=false:=(hbw.frozen (p:=⟨w.heap.size+1+1,11,none⟩) (nU)).trans (nV)
  have z2_12:wr.frozen? ⟨w.heap.size+1+1,12,none⟩=false:=(hbw.frozen (p:=⟨w.heap.size+1+1,12,none⟩) (nU)).trans (nV)
  have hzb:w.heap.size+1+1<wr.heap.size:=by have:=hbw.size;simp at this;omega
  by_cases hlt:k<len
  ·obtain⟨hxl,_,hx⟩:=h
   obtain⟨g,o,rfl,hr⟩:=hx.resolve_left (by omega)
   obtain⟨x,hxk⟩:∃x,xs[k]? =some x:=⟨_,List.getElem?_eq_getElem (by omega)⟩
   have hg:g<w.heap.size:=hr.lt (by omega)
   have hX:=ae hxk
   obtain⟨d0,d1,d2,d3,d4,d5,d6,d7,d8,d9,d10,d11,d12⟩:=(hr k _ hxk).below hb0 hg
   clear hx hxk
   by_cases k1:x.ky=ky
   ·by_cases k2:x.st=st
    ·by_cases k3:x.en=en
     ·have hB:=isO_t k1 k2 k3
      have hV:=ae (foundO_hit (ab hX) (ab hN) hB)
      clear hB
      go_wp2
      go_quiet (fail)
      go_wp2
      show bodyPost _ _ _ _ _ _
      refine bodyPost_ret (v:= .tuple #[.agg #[.int .i64 x.ky,.int .i64 x.st,.int .i64 x.en,.int .i64 x.an,.int .i64 x.asu,.int .i64 x.ale,.int .i64 x.amo,.int .i64 x.fn,.int .i64 x.fsu,.int .i64 x.fle,.int .i64 x.fmo,.int .i64 x.td,.bool x.tm],.bool true]) (by simp(maxDischargeDepth:=9) [results,Tryz.results90,go_sem, *]) rfl ⟨ret_vO (ab hV).symm,?_⟩
      exact(bC)
     ·have hB:=isO_3 (ky:=ky) (st:=st) k3
      have k3':(x.en==en)=false:=by simpa using k3
      have hN':=ae (jz (ab hX) (ab hN) hB)
      clear hB
      go_wp2
      go_quiet (fail)
      go_wp2
      go_roundw
      case rel=>exact⟨k+1,by omega,by go_num,hN',(bC)⟩
      case measure=>simp[intOf];omega
    ·have hB:=isO_2 (ky:=ky) (en:=en) k2
     have k2':(x.st==st)=false:=by simpa using k2
     have hN':=ae (jz (ab hX) (ab hN) hB)
     clear hB
     go_wp2
     go_quiet (fail)
     go_wp2
     go_roundw
     case rel=>exact⟨k+1,by omega,by go_num,hN',(bC)⟩
     case measure=>simp[intOf];omega
   ·have hB:=isO_1 (st:=st) (en:=en) k1
    have k1':(x.ky==ky)=false:=by simpa using k1
    have hN':=ae (jz (ab hX) (ab hN) hB)
    clear hB
    go_wp2
    go_quiet (fail)
    go_wp2
    go_roundw
    case rel=>exact⟨k+1,by omega,by go_num,hN',(bC)⟩
    case measure=>simp[intOf];omega
  ·have hV:Hid (lz (eV ky st en xs)= .tuple #[.agg #[.int .i64 0,.int .i64 0,.int .i64 0,.int .i64 0,.int .i64 0,.int .i64 0,.int .i64 0,.int .i64 0,.int .i64 0,.int .i64 0,.int .i64 0,.int .i64 0,.bool false],.bool false]):=ae (by have e:=ab hN;rw[List.take_of_length_le (by have:=h.1;omega)]at e;rw[e];rfl)
   go_wp2
   show bodyPost _ _ _ _ _ _
   refine bodyPost_ret (v:= .tuple #[.agg #[.int .i64 0,.int .i64 0,.int .i64 0,.int .i64 0,.int .i64 0,.int .i64 0,.int .i64 0,.int .i64 0,.int .i64 0,.int .i64 0,.int .i64 0,.int .i64 0,.bool false],.bool false]) (by simp(maxDischargeDepth:=9) [results,Tryz.results90,go_sem, *]) rfl ⟨ret_vO (ab hV).symm,?_⟩
   exact(bC)
end Go.Proofs.YtdmhihcipkhecaaGreat
namespace Go.Proofs.YtdmhihcipkhecaaGreat
open Go.ChangeShapes Go.WideShapes Go.ChangeAt Go.RowKit Go.Shelf Go.Maps
set_option linter.unusedSimpArgs false
def cg(w w':World)(a:Option Addr)(len cap:Nat)(v:Value)(xs ys:List aC):Prop:=(v= .slice a len cap∧ys=xs)∨aS w' w.heap.size v ys
theorem find_same(ky st en:Int)(xs:List aC):eV ky st en xs=dw (ky,st,en) xs:=by
 unfold eV dw
 congr 1
 funext x
 unfold aC.isB aU
 by_cases h1:x.ky=ky<;>by_cases h2:x.st=st<;>by_cases h3:x.en=en<;>simp[h1,h2,h3]
theorem fnd_shape(ky st en v:Int)(xs:List aC)(htd:∀x ∈ xs,0≤x.td∧x.td≤100000):∃k1 k2 k3 an asu ale amo fn fsu fle fmo td tm o,lz (eV ky st en xs)= .tuple #[.agg #[.int .i64 k1,.int .i64 k2,.int .i64 k3,.int .i64 an,.int .i64 asu,.int .i64 ale,.int .i64 amo,.int .i64 fn,.int .i64 fsu,.int .i64 fle,.int .i64 fmo,.int .i64 td,.bool tm],.bool o]∧di (ky,st,en) v xs=eO ⟨ky,st,en,an,asu,ale,amo,fn,fsu,fle,fmo,td,tm⟩ v∧0≤td∧td≤100000:=by
 rw[find_same]
 unfold di
 cases hf:dw (ky,st,en) xs with
 |none=>exact⟨0,0,0,0,0,0,0,0,0,0,0,0,false,false,rfl,rfl,by decide,by decide⟩
 |some y=>
  obtain⟨h1,h2⟩:=er hf
  have h3:=htd y h2
  obtain⟨yk,ys,ye,an,asu,ale,amo,fn,fsu,fle,fmo,td,tm⟩:=y
  unfold aU at h1
  simp only[Prod.mk.injEq]at h1
  obtain⟨rfl,rfl,rfl⟩:=h1
  exact⟨_,_,_,an,asu,ale,amo,fn,fsu,fle,fmo,td,tm,true,rfl,rfl,h3.1,h3.2⟩
theorem dE(n s l m v:Int)(w:World){g1 g2 g3 g4:Int}(h:Hid (dU (n,s,l,m) v=(g1,g2,g3,g4))):Calls Tryz.prog 86 #[.agg #[.int .i64 n,.int .i64 s,.int .i64 l,.int .i64 m],.int .i64 v] w fun e w'=>e= .returned (.agg #[.int .i64 g1,.int .i64 g2,.int .i64 g3,.int .i64 g4])∧Below w.heap.size w w':=by
 have h9:=ab h
 unfold dU at h9
 simp only[Prod.mk.injEq]at h9
 obtain⟨rfl,rfl,rfl,rfl⟩:=h9
 exact iM n s l m v w
set_option maxRecDepth 100000 in
set_option maxHeartbeats 8000000 in
theorem l7into_l(s t k z q l e:Int)(b:Bool)(v r m:Int)(a:Option Addr)(len cap:Nat)(xs:List aC)(x1 x2 x3 x4 x5 ws we:Int)(w:World)(h:cO w a len xs)(hlen:len≤900)(hl:0≤l∧l≤20)(hwe:0≤we∧we≤1000)(hm:we+l≤m):Calls Tryz.prog 64 #[.agg #[.int .i64 s,.int .i64 t,.int .i64 k,.int .i64 z,.int .i64 q,.int .i64 l,.int .i64 e,.bool b,.int .i64 v,.int .i64 r],.agg #[.int .i64 m,.slice a len cap],.agg #[.int .i64 x1,.int .i64 x2,.int .i64 x3,.int .i64 x4,.int .i64 x5],.agg #[.int .i64 ws,.int .i64 we]] w fun e' w'=>∃v1 v2,e'= .returned (.tuple #[.agg #[.int .i64 m,v1],v2,.bool (gb b l m xs x3 x4 ws we).2.2])∧cg w w' a len cap v1 xs (gb b l m xs x3 x4 ws we).1∧aR w' w.heap.size v2 (gb b l m xs x3 x4 ws we).2.1∧Below w.heap.size w w'∧NnS v2:=by
 have hxl:=h.1
 have hbE:Below w.heap.size w (((((w.alloc (.cells #[.int .i64 s,.int .i64 t,.int .i64 k,.int .i64 z,.int .i64 q,.int .i64 l,.int .i64 e,.bool b,.int .i64 v,.int .i64 r] 24)).alloc (.cells #[.int .i64 m,.slice a len cap] 27)).alloc (.cells #[.int .i64 x1,.int .i64 x2,.int .i64 x3,.int .i64 x4,.int .i64 x5] 29)).alloc (.cells #[.int .i64 ws,.int .i64 we] 48)).alloc (.cells #[.int .i64 0,.slice none 0 0] 27)):=ag (ag (ag (ag (aq _ _) _) _) _) _
 have HE:=ae (h.below hbE)
 have eJ:(((((w.alloc (.cells #[.int .i64 s,.int .i64 t,.int .i64 k,.int .i64 z,.int .i64 q,.int .i64 l,.int .i64 e,.bool b,.int .i64 v,.int .i64 r] 24)).alloc (.cells #[.int .i64 m,.slice a len cap] 27)).alloc (.cells #[.int .i64 x1,.int .i64 x2,.int .i64 x3,.int .i64 x4,.int .i64 x5] 29)).alloc (.cells #[.int .i64 ws,.int .i64 we] 48)).alloc (.cells #[.int .i64 0,.slice none 0 0] 27)).heap[w.heap.size]? =some (.cells #[.int .i64 s,.int .i64 t,.int .i64 k,.int .i64 z,.int .i64 q,.int .i64 l,.int .i64 e,.bool b,.int .i64 v,.int .i64 r] 24 (0,0)):=aN<|aN<|aN<|aN<|nA
 have eS:(((((w.alloc (.cells #[.int .i64 s,.int .i64 t,.int .i64 k,.int .i64 z,.int .i64 q,.int .i64 l,.int .i64 e,.bool b,.int .i64 v,.int .i64 r] 24)).alloc (.cells #[.int .i64 m,.slice a len cap] 27)).alloc (.cells #[.int .i64 x1,.int .i64 x2,.int .i64 x3,.int .i64 x4,.int .i64 x5] 29)).alloc (.cells #[.int .i64 ws,.int .i64 we] 48)).alloc (.cells #[.int .i64 0,.slice none 0 0] 27)).heap[w.heap.size+1]? =some (.cells #[.int .i64 m,.slice a len cap] 27 (0,0)):=aN<|aN<|aN<|nA
 have eI:(((((w.alloc (.cells #[.int .i64 s,.int .i64 t,.int .i64 k,.int .i64 z,.int .i64 q,.int .i64 l,.int .i64 e,.bool b,.int .i64 v,.int .i64 r] 24)).alloc (.cells #[.int .i64 m,.slice a len cap] 27)).alloc (.cells #[.int .i64 x1,.int .i64 x2,.int .i64 x3,.int .i64 x4,.int .i64 x5] 29)).alloc (.cells #[.int .i64 ws,.int .i64 we] 48)).alloc (.cells #[.int .i64 0,.slice none 0 0] 27)).heap[w.heap.size+1+1]? =some (.cells #[.int .i64 x1,.int .i64 x2,.int .i64 x3,.int .i64 x4,.int .i64 x5] 29 (0,0)):=aN<|aN<|nA
 have eW:(((((w.alloc (.cells #[.int .i64 s,.int .i64 t,.int .i64 k,.int .i64 z,.int .i64 q,.int .i64 l,.int .i64 e,.bool b,.int .i64 v,.int .i64 r] 24)).alloc (.cells #[.int .i64 m,.slice a len cap] 27)).alloc (.cells #[.int .i64 x1,.int .i64 x2,.int .i64 x3,.int .i64 x4,.int .i64 x5] 29)).alloc (.cells #[.int .i64 ws,.int .i64 we] 48)).alloc (.cells #[.int .i64 0,.slice none 0 0] 27)).heap[w.heap.size+1+1+1]? =some (.cells #[.int .i64 ws,.int .i64 we] 48 (0,0)):=aN<|nA
 have eR:(((((w.alloc (.cells #[.int .i64 s,.int .i64 t,.int .i64 k,.int .i64 z,.int .i64 q,.int .i64 l,.int .i64 e,.bool b,.int .i64 v,.int .i64 r] 24)).alloc (.cells #[.int .i64 m,.slice a len cap] 27)).alloc (.cells #[.int .i64 x1,.int .i64 x2,.int .i64 x3,.int .i64 x4,.int .i64 x5] 29)).alloc (.cells #[.int .i64 ws,.int .i64 we] 48)).alloc (.cells #[.int .i64 0,.slice none 0 0] 27)).heap[w.heap.size+1+1+1+1]? =some (.cells #[.int .i64 0,.slice none 0 0] 27 (0,0)):=nA
 go_enter Tryz.func64,Tryz.ntmps64
 go_wp2
 refine bodyPost_ret (v:= .tuple #[.agg #[.int .i64 m,.slice a len cap],.slice (some ⟨w.heap.size+1+1+1+1+1,0,none⟩) 0 0,.bool false]) (by simp(maxDischargeDepth:=9) [results,Tryz.results64,go_sem, *]) rfl ?_
 have e9:gb b l m xs x3 x4 ws we=(xs,[],false):=by unfold gb;rw[if_pos hm]
 rw[e9]
 exact⟨_,_,rfl,.inl ⟨rfl,rfl⟩,cE (B:=w.heap.size) _ _ (sA) (by simp),ag (ag (ag (ag (ag (aq _ _) _) _) _) _) _,_,_,_,rfl⟩
set_option maxRecDepth 100000 in
set_option maxHeartbeats 8000000 in
theorem l7into_t(s t k z q l e:Int)(b:Bool)(v r m:Int)(a:Option Addr)(len cap:Nat)(xs:List aC)(x1 x2 x3 x4 x5 ws we:Int)(w:World)(h:cO w a len xs)(hlen:len≤900)(hl:0≤l∧l≤20)(hwe:0≤we∧we≤1000)(htd:∀x ∈ xs,0≤x.td∧x.td≤100000)(hm:¬ we+l≤m):Calls Tryz.prog 64 #[.agg #[.int .i64 s,.int .i64 t,.int .i64 k,.int .i64 z,.int .i64 q,.int .i64 l,.int .i64 e,.bool b,.int .i64 v,.int .i64 r],.agg #[.int .i64 m,.slice a len cap],.agg #[.int .i64 x1,.int .i64 x2,.int .i64 x3,.int .i64 x4,.int .i64 x5],.agg #[.int .i64 ws,.int .i64 we]] w fun e' w'=>∃v1 v2,e'= .returned (.tuple #[.agg #[.int .i64 m,v1],v2,.bool (gb b l m xs x3 x4 ws we).2.2])∧cg w w' a len cap v1 xs (gb b l m xs x3 x4 ws we).1∧aR w' w.heap.size v2 (gb b l m xs x3 x4 ws we).2.1∧Below w.heap.size w w'∧NnS v2:=by
 have hxl:=h.1
 have hbE:Below w.heap.size w (((((w.alloc (.cells #[.int .i64 s,.int .i64 t,.int .i64 k,.int .i64 z,.int .i64 q,.int .i64 l,.int .i64 e,.bool b,.int .i64 v,.int .i64 r] 24)).alloc (.cells #[.int .i64 m,.slice a len cap] 27)).alloc (.cells #[.int .i64 x1,.int .i64 x2,.int .i64 x3,.int .i64 x4,.int .i64 x5] 29)).alloc (.cells #[.int .i64 ws,.int .i64 we] 48)).alloc (.cells #[.int .i64 0,.slice none 0 0] 27)):=ag (ag (ag (ag (aq _ _) _) _) _) _
 have HE:=ae (h.below hbE)
 have eJ:(((((w.alloc (.cells #[.int .i64 s,.int .i64 t,.int .i64 k,.int .i64 z,.int .i64 q,.int .i64 l,.int .i64 e,.bool b,.int .i64 v,.int .i64 r] 24)).alloc (.cells #[.int .i64 m,.slice a len cap] 27)).alloc (.cells #[.int .i64 x1,.int .i64 x2,.int .i64 x3,.int .i64 x4,.int .i64 x5] 29)).alloc (.cells #[.int .i64 ws,.int .i64 we] 48)).alloc (.cells #[.int .i64 0,.slice none 0 0] 27)).heap[w.heap.size]? =some (.cells #[.int .i64 s,.int .i64 t,.int .i64 k,.int .i64 z,.int .i64 q,.int .i64 l,.int .i64 e,.bool b,.int .i64 v,.int .i64 r] 24 (0,0)):=aN<|aN<|aN<|aN<|nA
 have eS:(((((w.alloc (.cells #[.int .i64 s,.int .i64 t,.int .i64 k,.int .i64 z,.int .i64 q,.int .i64 l,.int .i64 e,.bool b,.int .i64 v,.int .i64 r] 24)).alloc (.cells #[.int .i64 m,.slice a len cap] 27)).alloc (.cells #[.int .i64 x1,.int .i64 x2,.int .i64 x3,.int .i64 x4,.int .i64 x5] 29)).alloc (.cells #[.int .i64 ws,.int .i64 we] 48)).alloc (.cells #[.int .i64 0,.slice none 0 0] 27)).heap[w.heap.size+1]? =some (.cells #[.int .i64 m,.slice a len cap] 27 (0,0)):=aN<|aN<|aN<|nA
 have eI:(((((w.alloc (.cells #[.int .i64 s,.int .i64 t,.int .i64 k,.int .i64 z,.int .i64 q,.int .i64 l,.int .i64 e,.bool b,.int .i64 v,.int .i64 r] 24)).alloc (.cells #[.int .i64 m,.slice a len cap] 27)).alloc (.cells #[.int .i64 x1,.int .i64 x2,.int .i64 x3,.int .i64 x4,.int .i64 x5] 29)).alloc (.cells #[.int .i64 ws,.int .i64 we] 48)).alloc (.cells #[.int .i64 0,.slice none 0 0] 27)).heap[w.heap.size+1+1]? =some (.cells #[.int .i64 x1,.int .i64 x2,.int .i64 x3,.int .i64 x4,.int .i64 x5] 29 (0,0)):=aN<|aN<|nA
 have eW:(((((w.alloc (.cells #[.int .i64 s,.int .i64 t,.int .i64 k,.int .i64 z,.int .i64 q,.int .i64 l,.int .i64 e,.bool b,.int .i64 v,.int .i64 r] 24)).alloc (.cells #[.int .i64 m,.slice a len cap] 27)).alloc (.cells #[.int .i64 x1,.int .i64 x2,.int .i64 x3,.int .i64 x4,.int .i64 x5] 29)).alloc (.cells #[.int .i64 ws,.int .i64 we] 48)).alloc (.cells #[.int .i64 0,.slice none 0 0] 27)).heap[w.heap.size+1+1+1]? =some (.cells #[.int .i64 ws,.int .i64 we] 48 (0,0)):=aN<|nA
 have eR:(((((w.alloc (.cells #[.int .i64 s,.int .i64 t,.int .i64 k,.int .i64 z,.int .i64 q,.int .i64 l,.int .i64 e,.bool b,.int .i64 v,.int .i64 r] 24)).alloc (.cells #[.int .i64 m,.slice a len cap] 27)).alloc (.cells #[.int .i64 x1,.int .i64 x2,.int .i64 x3,.int .i64 x4,.int .i64 x5] 29)).alloc (.cells #[.int .i64 ws,.int .i64 we] 48)).alloc (.cells #[.int .i64 0,.slice none 0 0] 27)).heap[w.heap.size+1+1+1+1]? =some (.cells #[.int .i64 0,.slice none 0 0] 27 (0,0)):=nA
 obtain⟨k1,k2,k3,an,asu,ale,amo,fn,fsu,fle,fmo,td,tm,ofd,hF,hN,htd1,htd2⟩:=fnd_shape x3 ws we x4 xs htd
 obtain⟨⟨g1,g2,g3,g4⟩,hg⟩:∃g,dU (an,asu,ale,amo) x4=g:=⟨_,rfl⟩
 obtain⟨⟨f1,f2,f3,f4⟩,hf⟩:∃g,dU (fn,fsu,fle,fmo) x4=g:=⟨_,rfl⟩
 have HK:Hid (di (x3,ws,we) x4 xs=(⟨x3,ws,we,g1,g2,g3,g4,f1,f2,f3,f4,td,tm⟩:aC)):=ae (by rw[hN];unfold eO gl frA;dsimp only;rw[hg,hf])
 have HG:=ae hg
 have HF:=ae hf
 have HC:=ae (jX m a len cap xs x3 ws we _ (ab HE))
 rw[hF]at HC
 clear hN hg hf hF
 go_enter Tryz.func64,Tryz.ntmps64
 go_wp2_with fail
 refine(ab HC).mono ?_
 rintro e' w1 ⟨rfl,hb1⟩
 have bJ:=(hb1.block (w.heap.size) (sA)).trans eJ
 have bS:=(hb1.block (w.heap.size+1) (sA)).trans eS
 have bI:=(hb1.block (w.heap.size+1+1) (sA)).trans eI
 have bW:=(hb1.block (w.heap.size+1+1+1) (sA)).trans eW
 have bR:=(hb1.block (w.heap.size+1+1+1+1) (sA)).trans eR
 have hb:Below w.heap.size w w1:=am hbE hb1
 have hz:w.heap.size+5≤w1.heap.size:=by have:=hb1.size;simp at this;omega
 clear eJ eS eI eW eR HE HC hbE hb1
 obtain⟨i0,i1,i2,i3,i4⟩:=c5 bI
 obtain⟨y0,y1⟩:=c2 bW
 have zw10:w.heap.size<w1.heap.size:=by omega
 have zw11:w.heap.size+1<w1.heap.size:=by omega
 have zw12:w.heap.size+1+1<w1.heap.size:=by omega
 have zw13:w.heap.size+1+1+1<w1.heap.size:=by omega
 have zw14:w.heap.size+1+1+1+1<w1.heap.size:=by omega
 go_upto_region 6 with fail
 have hz5:=hz
 have nG:(w1.alloc (.cells #[.int .i64 x3,.int .i64 ws,.int .i64 we,.int .i64 an,.int .i64 asu,.int .i64 ale,.int .i64 amo,.int .i64 fn,.int .i64 fsu,.int .i64 fle,.int .i64 fmo,.int .i64 td,.bool tm] 57)).heap[w1.heap.size]? =some (.cells #[.int .i64 x3,.int .i64 ws,.int .i64 we,.int .i64 an,.int .i64 asu,.int .i64 ale,.int .i64 amo,.int .i64 fn,.int .i64 fsu,.int .i64 fle,.int .i64 fmo,.int .i64 td,.bool tm] 57 (0,0)):=World.alloc_heap_new w1 _
 have nJ:(w1.alloc (.cells #[.int .i64 x3,.int .i64 ws,.int .i64 we,.int .i64 an,.int .i64 asu,.int .i64 ale,.int .i64 amo,.int .i64 fn,.int .i64 fsu,.int .i64 fle,.int .i64 fmo,.int .i64 td,.bool tm] 57)).heap[w.heap.size]? =some (.cells #[.int .i64 s,.int .i64 t,.int .i64 k,.int .i64 z,.int .i64 q,.int .i64 l,.int .i64 e,.bool b,.int .i64 v,.int .i64 r] 24 (0,0)):=(Below.heap_alloc _ _ _ (by omega)).trans bJ
 have nS:(w1.alloc (.cells #[.int .i64 x3,.int .i64 ws,.int .i64 we,.int .i64 an,.int .i64 asu,.int .i64 ale,.int .i64 amo,.int .i64 fn,.int .i64 fsu,.int .i64 fle,.int .i64 fmo,.int .i64 td,.bool tm] 57)).heap[w.heap.size+1]? =some (.cells #[.int .i64 m,.slice a len cap] 27 (0,0)):=(Below.heap_alloc _ _ _ (by omega)).trans bS
 have nI:(w1.alloc (.cells #[.int .i64 x3,.int .i64 ws,.int .i64 we,.int .i64 an,.int .i64 asu,.int .i64 ale,.int .i64 amo,.int .i64 fn,.int .i64 fsu,.int .i64 fle,.int .i64 fmo,.int .i64 td,.bool tm] 57)).heap[w.heap.size+1+1]? =some (.cells #[.int .i64 x1,.int .i64 x2,.int .i64 x3,.int .i64 x4,.int .i64 x5] 29 (0,0)):=(Below.heap_alloc _ _ _ (by omega)).trans bI
 have nW:(w1.alloc (.cells #[.int .i64 x3,.int .i64 ws,.int .i64 we,.int .i64 an,.int .i64 asu,.int .i64 ale,.int .i64 amo,.int .i64 fn,.int .i64 fsu,.int .i64 fle,.int .i64 fmo,.int .i64 td,.bool tm] 57)).heap[w.heap.size+1+1+1]? =some (.cells #[.int .i64 ws,.int .i64 we] 48 (0,0)):=(Below.heap_alloc _ _ _ (by omega)).trans bW
 have nR:(w1.alloc (.cells #[.int .i64 x3,.int .i64 ws,.int .i64 we,.int .i64 an,.int .i64 asu,.int .i64 ale,.int .i64 amo,.int .i64 fn,.int .i64 fsu,.int .i64 fle,.int .i64 fmo,.int .i64 td,.bool tm] 57)).heap[w.heap.size+1+1+1+1]? =some (.cells #[.int .i64 0,.slice none 0 0] 27 (0,0)):=(Below.heap_alloc _ _ _ (by omega)).trans bR
 have nb:Below w.heap.size w (w1.alloc (.cells #[.int .i64 x3,.int .i64 ws,.int .i64 we,.int .i64 an,.int .i64 asu,.int .i64 ale,.int .i64 amo,.int .i64 fn,.int .i64 fsu,.int .i64 fle,.int .i64 fmo,.int .i64 td,.bool tm] 57)):=ag hb _
 have nz:w1.heap.size<(w1.alloc (.cells #[.int .i64 x3,.int .i64 ws,.int .i64 we,.int .i64 an,.int .i64 asu,.int .i64 ale,.int .i64 amo,.int .i64 fn,.int .i64 fsu,.int .i64 fle,.int .i64 fmo,.int .i64 td,.bool tm] 57)).heap.size:=by simp
 generalize (w1.alloc (.cells #[.int .i64 x3,.int .i64 ws,.int .i64 we,.int .i64 an,.int .i64 asu,.int .i64 ale,.int .i64 amo,.int .i64 fn,.int .i64 fsu,.int .i64 fle,.int .i64 fmo,.int .i64 td,.bool tm] 57))=w2 at nG nJ nS nI nW nR nb nz ⊢
 clear i0 i1 i2 i3 i4 y0 y1 bJ bS bI bW bR hb hz
 have bG:=nG
 have bJ:=nJ
 have bS:=nS
 have bI:=nI
 have bW:=nW
 have bR:=nR
 have hb:=nb
 have hz:=nz
 clear nG nJ nS nI nW nR nb nz
 obtain⟨u0,u1,u2,u3,u4,u5,u6,u7,u8,u9,u10,u11,u12⟩:=eu bG
 obtain⟨i0,i1,i2,i3,i4⟩:=c5 bI
 go_wp2_with fail
 refine(dE an asu ale amo x4 _ HG).mono ?_
 rintro e' w3 ⟨rfl,h9⟩
 clear u0 u1 u2 u3 u4 u5 u6 u7 u8 u9 u10 u11 u12 i0 i1 i2 i3 i4
 replace bG:=(h9.block (w1.heap.size) (by omega)).trans bG
 replace bJ:=(h9.block (w.heap.size) (by omega)).trans bJ
 replace bS:=(h9.block (w.heap.size+1) (by omega)).trans bS
 replace bI:=(h9.block (w.heap.size+1+1) (by omega)).trans bI
 replace bW:=(h9.block (w.heap.size+1+1+1) (by omega)).trans bW
 replace bR:=(h9.block (w.heap.size+1+1+1+1) (by omega)).trans bR
 replace hb:Below w.heap.size w w3:=am hb h9
 replace hz:w1.heap.size<w3.heap.size:=by have:=h9.size;omega
 clear h9
 obtain⟨u0,u1,u2,u3,u4,u5,u6,u7,u8,u9,u10,u11,u12⟩:=eu bG
 obtain⟨uf0,uf1,uf2,uf3,uf4,uf5,uf6,uf7,uf8,uf9,uf10,uf11,uf12⟩:=f13 bG
 go_upto_region 7 with fail
 clear u0 u1 u2 u3 u4 u5 u6 u7 u8 u9 u10 u11 u12 uf0 uf1 uf2 uf3 uf4 uf5 uf6 uf7 uf8 uf9 uf10 uf11 uf12
 have ta0:=Joins.block_setCell (g:=w1.heap.size) (i:=3) bG (.int .i64 g1)
 have ta1:=Joins.block_setCell (g:=w1.heap.size) (i:=4) ta0 (.int .i64 g2)
 have ta2:=Joins.block_setCell (g:=w1.heap.size) (i:=5) ta1 (.int .i64 g3)
 have ta3:((((w3.setCell ⟨w1.heap.size,3,none⟩ (.int .i64 g1)).setCell ⟨w1.heap.size,4,none⟩ (.int .i64 g2)).setCell ⟨w1.heap.size,5,none⟩ (.int .i64 g3)).setCell ⟨w1.heap.size,6,none⟩ (.int .i64 g4)).heap[w1.heap.size]? =some (.cells #[.int .i64 x3,.int .i64 ws,.int .i64 we,.int .i64 g1,.int .i64 g2,.int .i64 g3,.int .i64 g4,.int .i64 fn,.int .i64 fsu,.int .i64 fle,.int .i64 fmo,.int .i64 td,.bool tm] 57 (0,0)):=Joins.block_setCell ta2 _
 have nG:((((w3.setCell ⟨w1.heap.size,3,none⟩ (.int .i64 g1)).setCell ⟨w1.heap.size,4,none⟩ (.int .i64 g2)).setCell ⟨w1.heap.size,5,none⟩ (.int .i64 g3)).setCell ⟨w1.heap.size,6,none⟩ (.int .i64 g4)).heap[w1.heap.size]? =some (.cells #[.int .i64 x3,.int .i64 ws,.int .i64 we,.int .i64 g1,.int .i64 g2,.int .i64 g3,.int .i64 g4,.int .i64 fn,.int .i64 fsu,.int .i64 fle,.int .i64 fmo,.int .i64 td,.bool tm] 57 (0,0)):=ta3
 have nJ:((((w3.setCell ⟨w1.heap.size,3,none⟩ (.int .i64 g1)).setCell ⟨w1.heap.size,4,none⟩ (.int .i64 g2)).setCell ⟨w1.heap.size,5,none⟩ (.int .i64 g3)).setCell ⟨w1.heap.size,6,none⟩ (.int .i64 g4)).heap[w.heap.size]? =some (.cells #[.int .i64 s,.int .i64 t,.int .i64 k,.int .i64 z,.int .i64 q,.int .i64 l,.int .i64 e,.bool b,.int .i64 v,.int .i64 r] 24 (0,0)):=sN<|sN<|sN<|sN<|bJ
 have nS:((((w3.setCell ⟨w1.heap.size,3,none⟩ (.int .i64 g1)).setCell ⟨w1.heap.size,4,none⟩ (.int .i64 g2)).setCell ⟨w1.heap.size,5,none⟩ (.int .i64 g3)).setCell ⟨w1.heap.size,6,none⟩ (.int .i64 g4)).heap[w.heap.size+1]? =some (.cells #[.int .i64 m,.slice a len cap] 27 (0,0)):=sN<|sN<|sN<|sN<|bS
 have nI:((((w3.setCell ⟨w1.heap.size,3,none⟩ (.int .i64 g1)).setCell ⟨w1.heap.size,4,none⟩ (.int .i64 g2)).setCell ⟨w1.heap.size,5,none⟩ (.int .i64 g3)).setCell ⟨w1.heap.size,6,none⟩ (.int .i64 g4)).heap[w.heap.size+1+1]? =some (.cells #[.int .i64 x1,.int .i64 x2,.int .i64 x3,.int .i64 x4,.int .i64 x5] 29 (0,0)):=sN<|sN<|sN<|sN<|bI
 have nW:((((w3.setCell ⟨w1.heap.size,3,none⟩ (.int .i64 g1)).setCell ⟨w1.heap.size,4,none⟩ (.int .i64 g2)).setCell ⟨w1.heap.size,5,none⟩ (.int .i64 g3)).setCell ⟨w1.heap.size,6,none⟩ (.int .i64 g4)).heap[w.heap.size+1+1+1]? =some (.cells #[.int .i64 ws,.int .i64 we] 48 (0,0)):=sN<|sN<|sN<|sN<|bW
 have nR:((((w3.setCell ⟨w1.heap.size,3,none⟩ (.int .i64 g1)).setCell ⟨w1.heap.size,4,none⟩ (.int .i64 g2)).setCell ⟨w1.heap.size,5,none⟩ (.int .i64 g3)).setCell ⟨w1.heap.size,6,none⟩ (.int .i64 g4)).heap[w.heap.size+1+1+1+1]? =some (.cells #[.int .i64 0,.slice none 0 0] 27 (0,0)):=sN<|sN<|sN<|sN<|bR
 have nb:Below w.heap.size w ((((w3.setCell ⟨w1.heap.size,3,none⟩ (.int .i64 g1)).setCell ⟨w1.heap.size,4,none⟩ (.int .i64 g2)).setCell ⟨w1.heap.size,5,none⟩ (.int .i64 g3)).setCell ⟨w1.heap.size,6,none⟩ (.int .i64 g4)):=av (av (av (av (hb) (sA) _) (sA) _) (sA) _) (sA) _
 have nz:w1.heap.size<((((w3.setCell ⟨w1.heap.size,3,none⟩ (.int .i64 g1)).setCell ⟨w1.heap.size,4,none⟩ (.int .i64 g2)).setCell ⟨w1.heap.size,5,none⟩ (.int .i64 g3)).setCell ⟨w1.heap.size,6,none⟩ (.int .i64 g4)).heap.size:=by simpa using hz
 generalize ((((w3.setCell ⟨w1.heap.size,3,none⟩ (.int .i64 g1)).setCell ⟨w1.heap.size,4,none⟩ (.int .i64 g2)).setCell ⟨w1.heap.size,5,none⟩ (.int .i64 g3)).setCell ⟨w1.heap.size,6,none⟩ (.int .i64 g4))=w4 at nG nJ nS nI nW nR nb nz ⊢
 clear ta0 ta1 ta2 ta3 bG bJ bS bI bW bR hb hz
 have bG:=nG
 have bJ:=nJ
 have bS:=nS
 have bI:=nI
 have bW:=nW
 have bR:=nR
 have hb:=nb
 have hz:=nz
 clear nG nJ nS nI nW nR nb nz
 obtain⟨u0,u1,u2,u3,u4,u5,u6,u7,u8,u9,u10,u11,u12⟩:=eu bG
 obtain⟨i0,i1,i2,i3,i4⟩:=c5 bI
 go_wp2_with fail
 refine(dE fn fsu fle fmo x4 _ HF).mono ?_
 rintro e' w5 ⟨rfl,h9⟩
 clear u0 u1 u2 u3 u4 u5 u6 u7 u8 u9 u10 u11 u12 i0 i1 i2 i3 i4
 replace bG:=(h9.block (w1.heap.size) (by omega)).trans bG
 replace bJ:=(h9.block (w.heap.size) (by omega)).trans bJ
 replace bS:=(h9.block (w.heap.size+1) (by omega)).trans bS
 replace bI:=(h9.block (w.heap.size+1+1) (by omega)).trans bI
 replace bW:=(h9.block (w.heap.size+1+1+1) (by omega)).trans bW
 replace bR:=(h9.block (w.heap.size+1+1+1+1) (by omega)).trans bR
 replace hb:Below w.heap.size w w5:=am hb h9
 replace hz:w1.heap.size<w5.heap.size:=by have:=h9.size;omega
 clear h9
 obtain⟨u0,u1,u2,u3,u4,u5,u6,u7,u8,u9,u10,u11,u12⟩:=eu bG
 obtain⟨uf0,uf1,uf2,uf3,uf4,uf5,uf6,uf7,uf8,uf9,uf10,uf11,uf12⟩:=f13 bG
 go_upto_region 8 with fail
 clear u0 u1 u2 u3 u4 u5 u6 u7 u8 u9 u10 u11 u12 uf0 uf1 uf2 uf3 uf4 uf5 uf6 uf7 uf8 uf9 uf10 uf11 uf12
 have tc0:=Joins.block_setCell (g:=w1.heap.size) (i:=7) bG (.int .i64 f1)
 have tc1:=Joins.block_setCell (g:=w1.heap.size) (i:=8) tc0 (.int .i64 f2)
 have tc2:=Joins.block_setCell (g:=w1.heap.size) (i:=9) tc1 (.int .i64 f3)
 have tc3:((((w5.setCell ⟨w1.heap.size,7,none⟩ (.int .i64 f1)).setCell ⟨w1.heap.size,8,none⟩ (.int .i64 f2)).setCell ⟨w1.heap.size,9,none⟩ (.int .i64 f3)).setCell ⟨w1.heap.size,10,none⟩ (.int .i64 f4)).heap[w1.heap.size]? =some (.cells #[.int .i64 x3,.int .i64 ws,.int .i64 we,.int .i64 g1,.int .i64 g2,.int .i64 g3,.int .i64 g4,.int .i64 f1,.int .i64 f2,.int .i64 f3,.int .i64 f4,.int .i64 td,.bool tm] 57 (0,0)):=Joins.block_setCell tc2 _
 have nG:((((w5.setCell ⟨w1.heap.size,7,none⟩ (.int .i64 f1)).setCell ⟨w1.heap.size,8,none⟩ (.int .i64 f2)).setCell ⟨w1.heap.size,9,none⟩ (.int .i64 f3)).setCell ⟨w1.heap.size,10,none⟩ (.int .i64 f4)).heap[w1.heap.size]? =some (.cells #[.int .i64 x3,.int .i64 ws,.int .i64 we,.int .i64 g1,.int .i64 g2,.int .i64 g3,.int .i64 g4,.int .i64 f1,.int .i64 f2,.int .i64 f3,.int .i64 f4,.int .i64 td,.bool tm] 57 (0,0)):=tc3
 have nJ:((((w5.setCell ⟨w1.heap.size,7,none⟩ (.int .i64 f1)).setCell ⟨w1.heap.size,8,none⟩ (.int .i64 f2)).setCell ⟨w1.heap.size,9,none⟩ (.int .i64 f3)).setCell ⟨w1.heap.size,10,none⟩ (.int .i64 f4)).heap[w.heap.size]? =some (.cells #[.int .i64 s,.int .i64 t,.int .i64 k,.int .i64 z,.int .i64 q,.int .i64 l,.int .i64 e,.bool b,.int .i64 v,.int .i64 r] 24 (0,0)):=sN<|sN<|sN<|sN<|bJ
 have nS:((((w5.setCell ⟨w1.heap.size,7,none⟩ (.int .i64 f1)).setCell ⟨w1.heap.size,8,none⟩ (.int .i64 f2)).setCell ⟨w1.heap.size,9,none⟩ (.int .i64 f3)).setCell ⟨w1.heap.size,10,none⟩ (.int .i64 f4)).heap[w.heap.size+1]? =some (.cells #[.int .i64 m,.slice a len cap] 27 (0,0)):=sN<|sN<|sN<|sN<|bS
 have nI:((((w5.setCell ⟨w1.heap.size,7,none⟩ (.int .i64 f1)).setCell ⟨w1.heap.size,8,none⟩ (.int .i64 f2)).setCell ⟨w1.heap.size,9,none⟩ (.int .i64 f3)).setCell ⟨w1.heap.size,10,none⟩ (.int .i64 f4)).heap[w.heap.size+1+1]? =some (.cells #[.int .i64 x1,.int .i64 x2,.int .i64 x3,.int .i64 x4,.int .i64 x5] 29 (0,0)):=sN<|sN<|sN<|sN<|bI
 have nW:((((w5.setCell ⟨w1.heap.size,7,none⟩ (.int .i64 f1)).setCell ⟨w1.heap.size,8,none⟩ (.int .i64 f2)).setCell ⟨w1.heap.size,9,none⟩ (.int .i64 f3)).setCell ⟨w1.heap.size,10,none⟩ (.int .i64 f4)).heap[w.heap.size+1+1+1]? =some (.cells #[.int .i64 ws,.int .i64 we] 48 (0,0)):=sN<|sN<|sN<|sN<|bW
 have nR:((((w5.setCell ⟨w1.heap.size,7,none⟩ (.int .i64 f1)).setCell ⟨w1.heap.size,8,none⟩ (.int .i64 f2)).setCell ⟨w1.heap.size,9,none⟩ (.int .i64 f3)).setCell ⟨w1.heap.size,10,none⟩ (.int .i64 f4)).heap[w.heap.size+1+1+1+1]? =some (.cells #[.int .i64 0,.slice none 0 0] 27 (0,0)):=sN<|sN<|sN<|sN<|bR
 have nb:Below w.heap.size w ((((w5.setCell ⟨w1.heap.size,7,none⟩ (.int .i64 f1)).setCell ⟨w1.heap.size,8,none⟩ (.int .i64 f2)).setCell ⟨w1.heap.size,9,none⟩ (.int .i64 f3)).setCell ⟨w1.heap.size,10,none⟩ (.int .i64 f4)):=av (av (av (av (hb) (sA) _) (sA) _) (sA) _) (sA) _
 have nz:w1.heap.size<((((w5.setCell ⟨w1.heap.size,7,none⟩ (.int .i64 f1)).setCell ⟨w1.heap.size,8,none⟩ (.int .i64 f2)).setCell ⟨w1.heap.size,9,none⟩ (.int .i64 f3)).setCell ⟨w1.heap.size,10,none⟩ (.int .i64 f4)).heap.size:=by simpa using hz
 generalize ((((w5.setCell ⟨w1.heap.size,7,none⟩ (.int .i64 f1)).setCell ⟨w1.heap.size,8,none⟩ (.int .i64 f2)).setCell ⟨w1.heap.size,9,none⟩ (.int .i64 f3)).setCell ⟨w1.heap.size,10,none⟩ (.int .i64 f4))=w6 at nG nJ nS nI nW nR nb nz ⊢
 clear tc0 tc1 tc2 tc3 bG bJ bS bI bW bR hb hz
 have bG:=nG
 have bJ:=nJ
 have bS:=nS
 have bI:=nI
 have bW:=nW
 have bR:=nR
 have hb:=nb
 have hz:=nz
 clear nG nJ nS nI nW nR nb nz
 have HR6:=ae (h.below hb)
 obtain⟨u0,u1,u2,u3,u4,u5,u6,u7,u8,u9,u10,u11,u12⟩:=eu bG
 obtain⟨j0,j1,j2,j3,j4,j5,j6,j7,j8,j9⟩:=cZ bJ
 obtain⟨y0,y1⟩:=c2 bS
 go_wp2_with fail
 refine(jy s t k z q l e b v r m a len cap xs (⟨x3,ws,we,g1,g2,g3,g4,f1,f2,f3,f4,td,tm⟩:aC) _ (ab HR6) hlen ⟨htd1,htd2⟩).mono ?_
 rintro e' w7 ⟨v1,v2,rfl,hO,hP,h9,hNn⟩
 have hz6:=hb.size
 have HNn:=ae hNn
 clear hNn
 clear u0 u1 u2 u3 u4 u5 u6 u7 u8 u9 u10 u11 u12 j0 j1 j2 j3 j4 j5 j6 j7 j8 j9 y0 y1
 replace bG:=(h9.block (w1.heap.size) (by omega)).trans bG
 replace bJ:=(h9.block (w.heap.size) (by omega)).trans bJ
 replace bS:=(h9.block (w.heap.size+1) (by omega)).trans bS
 replace bI:=(h9.block (w.heap.size+1+1) (by omega)).trans bI
 replace bW:=(h9.block (w.heap.size+1+1+1) (by omega)).trans bW
 replace bR:=(h9.block (w.heap.size+1+1+1+1) (by omega)).trans bR
 replace hb:Below w.heap.size w w7:=am hb h9
 replace hz:w1.heap.size<w7.heap.size:=by have:=h9.size;omega
 obtain⟨a1,c1,rfl⟩:=dr hO
 obtain⟨ys,hys⟩:∃ys,(eC b m xs (⟨x3,ws,we,g1,g2,g3,g4,f1,f2,f3,f4,td,tm⟩:aC)).1=ys:=⟨_,rfl⟩
 obtain⟨ps,hps⟩:∃ps,(eC b m xs (⟨x3,ws,we,g1,g2,g3,g4,f1,f2,f3,f4,td,tm⟩:aC)).2=ps:=⟨_,rfl⟩
 rw[hys]at hO ⊢
 rw[hps]at hP
 have HRF:Hid (gb b l m xs x3 x4 ws we=(ys,ps,true)):=ae (by unfold gb;rw[if_neg (by omega),ab HK,hys,hps])
 clear hys hps h9
 obtain⟨y0,y1⟩:=c2 bS
 obtain⟨yf0,yf1⟩:=Go.Proofs.YtdmhihcipkhecaaGreat.f2 bS
 obtain⟨r0,r1⟩:=c2 bR
 obtain⟨rf0,rf1⟩:=Go.Proofs.YtdmhihcipkhecaaGreat.f2 bR
 have zw70:w.heap.size<w7.heap.size:=by omega
 have zw71:w.heap.size+1<w7.heap.size:=by omega
 have zw72:w.heap.size+1+1<w7.heap.size:=by omega
 have zw73:w.heap.size+1+1+1<w7.heap.size:=by omega
 have zw74:w.heap.size+1+1+1+1<w7.heap.size:=by omega
 have hOF:Hid (aS ((((w7.setCell ⟨w.heap.size+1,0,none⟩ (.int .i64 m)).setCell ⟨w.heap.size+1,1,none⟩ (.slice a1 ys.length c1)).setCell ⟨w.heap.size+1+1+1+1,0,none⟩ (.int .i64 m)).setCell ⟨w.heap.size+1+1+1+1,1,none⟩ (.slice a1 ys.length c1)) w.heap.size (.slice a1 ys.length c1) ys):=ae (al (al (al (al (World.ownsRow.mono hO hz6) (af hO bS (by decide))) (af hO bS (by decide))) (af hO bR (by decide))) (af hO bR (by decide)))
 have hPF:Hid (aR ((((w7.setCell ⟨w.heap.size+1,0,none⟩ (.int .i64 m)).setCell ⟨w.heap.size+1,1,none⟩ (.slice a1 ys.length c1)).setCell ⟨w.heap.size+1+1+1+1,0,none⟩ (.int .i64 m)).setCell ⟨w.heap.size+1+1+1+1,1,none⟩ (.slice a1 ys.length c1)) w.heap.size v2 ps):=ae (al (al (al (al (World.ownsRow.mono hP hz6) (af hP bS (by decide))) (af hP bS (by decide))) (af hP bR (by decide))) (af hP bR (by decide)))
 have hBF:Hid (Below w.heap.size w ((((w7.setCell ⟨w.heap.size+1,0,none⟩ (.int .i64 m)).setCell ⟨w.heap.size+1,1,none⟩ (.slice a1 ys.length c1)).setCell ⟨w.heap.size+1+1+1+1,0,none⟩ (.int .i64 m)).setCell ⟨w.heap.size+1+1+1+1,1,none⟩ (.slice a1 ys.length c1))):=ae (av (av (av (av hb (sA) _) (sA) _) (sA) _) (sA) _)
 clear hO hP bG bJ bS bI bW bR
 go_wp2
 refine bodyPost_ret (v:= .tuple #[.agg #[.int .i64 m,(.slice a1 ys.length c1)],v2,.bool true]) (by simp(maxDischargeDepth:=9) [results,Tryz.results64,go_sem, *]) rfl ?_
 rw[ab HRF]
 exact⟨_,_,rfl,.inr (ab hOF),ab hPF,ab hBF,ab HNn⟩
theorem jA(s t k z q l e:Int)(b:Bool)(v r m:Int)(a:Option Addr)(len cap:Nat)(xs:List aC)(x1 x2 x3 x4 x5 ws we:Int)(w:World)(h:cO w a len xs)(hlen:len≤900)(hl:0≤l∧l≤20)(hwe:0≤we∧we≤1000)(htd:∀x ∈ xs,0≤x.td∧x.td≤100000):Calls Tryz.prog 64 #[.agg #[.int .i64 s,.int .i64 t,.int .i64 k,.int .i64 z,.int .i64 q,.int .i64 l,.int .i64 e,.bool b,.int .i64 v,.int .i64 r],.agg #[.int .i64 m,.slice a len cap],.agg #[.int .i64 x1,.int .i64 x2,.int .i64 x3,.int .i64 x4,.int .i64 x5],.agg #[.int .i64 ws,.int .i64 we]] w fun e' w'=>∃v1 v2,e'= .returned (.tuple #[.agg #[.int .i64 m,v1],v2,.bool (gb b l m xs x3 x4 ws we).2.2])∧cg w w' a len cap v1 xs (gb b l m xs x3 x4 ws we).1∧aR w' w.heap.size v2 (gb b l m xs x3 x4 ws we).2.1∧Below w.heap.size w w'∧NnS v2:=by
 by_cases hm:we+l≤m
 ·exact l7into_l s t k z q l e b v r m a len cap xs x1 x2 x3 x4 x5 ws we w h hlen hl hwe hm
 ·exact l7into_t s t k z q l e b v r m a len cap xs x1 x2 x3 x4 x5 ws we w h hlen hl hwe htd hm
end Go.Proofs.YtdmhihcipkhecaaGreat
namespace Go.Proofs.YtdmhihcipkhecaaGreat
open Go.ChangeShapes Go.WideShapes Go.ChangeAt Go.RowKit Go.Deep
theorem Tryz.infoPn:(Tryz.prog.info? 52).map (fun i=>(i.zero,i.size,i.bytes))=some (some (.agg #[.int .i64 0,.int .i64 0,.int .i64 0,.int .i64 0,.int .i64 0,.int .i64 0,.int .i64 0,.int .i64 0,.int .i64 0]),9,72):=by kernel_rfl
end Go.Proofs.YtdmhihcipkhecaaGreat
