/- Laid together: what the claim needs of the texts that were built one by one. -/
import Derived.Test.YtdmhihcipkhecaaGreatT1
import Derived.Test.YtdmhihcipkhecaaGreatT4
import Derived.Test.YtdmhihcipkhecaaGreatT0
import Derived.Deep.Onto
import Derived.Maps.Own
import Derived.Test.YtdmhihcipkhecaaGreatRows
import Derived.Deep.Slices
import Derived.Lib.SmallJoins
import Derived.OwnWalk
import Derived.WalkSpells
import Derived.Deep.RegionHeld3
import Derived.Test.YtdmhihcipkhecaaGreatT5
set_option linter.unusedVariables false
namespace Go.Proofs.YtdmhihcipkhecaaGreat
open Go.ChangeShapes Go.WideShapes Go.ChangeAt Go.RowKit
/-- The windows that slide, from a start on. -/
def bj(z p t:Int):Nat→Int→List dp
 |0,_=>[]
 |n+1,s=>if s≤t then(if t<s+z then⟨s,s+z⟩ :: bj z p t n (s+p)else bj z p t n (s+p))else []
theorem iO{z p t:Int}{n:Nat}{s:Int}(h:¬ s≤t):bj z p t n s=[]:=by
 cases n with
 |zero=>rfl
 |succ n=>exact if_neg h
theorem jC{z p t:Int}{n:Nat}{s:Int}(h:s≤t)(h2:t<s+z):bj z p t (n+1) s=⟨s,s+z⟩ :: bj z p t n (s+p):=by
 show(if s≤t then _ else _)=_
 rw[if_pos h,if_pos h2]
theorem iP{z p t:Int}{n:Nat}{s:Int}(h:s≤t)(h2:¬ t<s+z):bj z p t (n+1) s=bj z p t n (s+p):=by
 show(if s≤t then _ else _)=_
 rw[if_pos h,if_neg h2]
theorem iQ(z p t:Int)(n:Nat)(s:Int):(bj z p t n s).length≤n:=by
 induction n generalizing s with
 |zero=>exact Nat.le_refl _
 |succ n ih=>
  have:=ih (s+p)
  show(if s≤t then _ else _:List dp).length≤_
  split
  ·split
   ·simp;omega
   ·omega
  ·simp
/-- The windows of a time. -/
def aQ(k z p t:Int):List dp:=if k=1 then [⟨t - t % z,t - t % z+z⟩]else if k=3 then [⟨t,t+z⟩]else bj z p t 61 0
theorem jD(k z p t:Int):(aQ k z p t).length≤61:=by
 unfold aQ
 split
 ·simp
 ·split
  ·simp
  ·exact iQ _ _ _ _ _
theorem snocW(total ys rest:List dp)(x:dp)(h:total=ys++x :: rest):total=(ys++[x])++rest:=by rw[h];simp
theorem Tryz.infoWin:(Tryz.prog.info? 48).map (fun i=>(i.zero,i.size,i.bytes))=some (some (.agg #[.int .i64 0,.int .i64 0]),2,16):=by kernel_rfl
theorem jE{W:World}{B:Nat}(h:B≤W.heap.size)(a b:Int):db (W.alloc (.cells #[.int .i64 a,.int .i64 b] 48)) B (.slice (some ⟨W.heap.size,0,none⟩) 1 1) [⟨a,b⟩]:=
 World.ownsRow_lit (base:=B) (size:=2) W #[.int .i64 a,.int .i64 b] 1 h (by decide) rfl
theorem World.ownsRow.below{W W':World}{B:Nat}{e:TypeId}{size n:Nat}{v:Value}{xs:List Value}(h:W.ownsRow B e size v n xs)(hb:Below W.heap.size W W'):W'.ownsRow B e size v n xs:=
 h.kept (grown0Wn hb) (by cases h5:v.ownBlock<;>simp)
theorem own_lit0{W:World}{B g:Nat}(h:B≤W.heap.size)(hg:g=W.heap.size):db (W.alloc (.cells #[] 48)) B (.slice (some ⟨g,0,none⟩) 0 0) []:=by
 subst hg
 exact World.ownsRow_lit (base:=B) (size:=2) W #[] 0 h (by decide) rfl
theorem hG(s t k z p l e:Int)(b:Bool)(v r:Int)(st:Int)(hs:0≤st∧st≤1000)(hz:1≤z∧z≤20)(w:World):Calls Tryz.prog 74 #[.agg #[.int .i64 s,.int .i64 t,.int .i64 k,.int .i64 z,.int .i64 p,.int .i64 l,.int .i64 e,.bool b,.int .i64 v,.int .i64 r],.int .i64 st] w fun e' w'=>e'= .returned (.agg #[.int .i64 st,.int .i64 (st+z)])∧Below w.heap.size w w':=by
 go_enter Tryz.func74,Tryz.ntmps74
 go_wp2
 refine bodyPost_ret (v:= .agg #[.int .i64 st,.int .i64 (st+z)]) (by simp[results,Tryz.results74,go_sem]) rfl ⟨rfl,?_⟩
 exact(bC)
theorem fixed_any(s t k z p l e:Int)(b:Bool)(v r:Int)(T:Int)(hT:0≤T∧T≤60)(hz:1≤z∧z≤20)(w:World):Calls Tryz.prog 48 #[.agg #[.int .i64 s,.int .i64 t,.int .i64 k,.int .i64 z,.int .i64 p,.int .i64 l,.int .i64 e,.bool b,.int .i64 v,.int .i64 r],.int .i64 T] w fun e' w'=>∃v',e'= .returned v'∧db w' w.heap.size v' ([⟨T - T % z,T - T % z+z⟩])∧Below w.heap.size w w':=by
 have hmod:0≤T % z∧T % z≤T:=⟨Int.emod_nonneg _ (by omega),by have:=Int.emod_add_mul_ediv T z;have:=Int.ediv_nonneg (a:=T) (b:=z) (by omega) (by omega);have:=Int.mul_nonneg (a:=z) (b:=T / z) (by omega) (by omega);omega⟩
 have hwr:IntKind.i64.wrap (T - T % z)=T - T % z:=IntWalk.i64_in _ (by omega)
 go_enter Tryz.func48,Tryz.ntmps48
 go_wp2
 go_region_with (first
  |(go_at_call 74;(try rw[hwr]);refine(hG _ _ _ _ _ _ _ _ _ _ _ (by omega) (by omega) _).mono ?_;rintro e' w' ⟨rfl,hb⟩;obtain⟨hc,hf,hs⟩:=az hb;(try have hz0:=zA hb w.heap.size)))
 all_goals go_wp2
 all_goals
  go_ret
  refine⟨_,rfl,jE (by have:=hb.size;simp at this;omega) _ _,(bC)⟩
theorem session_any(s t k z p l e:Int)(b:Bool)(v r:Int)(T:Int)(hT:0≤T∧T≤60)(hz:1≤z∧z≤20)(w:World):Calls Tryz.prog 50 #[.agg #[.int .i64 s,.int .i64 t,.int .i64 k,.int .i64 z,.int .i64 p,.int .i64 l,.int .i64 e,.bool b,.int .i64 v,.int .i64 r],.int .i64 T] w fun e' w'=>∃v',e'= .returned v'∧db w' w.heap.size v' ([⟨T,T+z⟩])∧Below w.heap.size w w':=by
 have hmod:0≤T % z∧T % z≤T:=⟨Int.emod_nonneg _ (by omega),by have:=Int.emod_add_mul_ediv T z;have:=Int.ediv_nonneg (a:=T) (b:=z) (by omega) (by omega);have:=Int.mul_nonneg (a:=z) (b:=T / z) (by omega) (by omega);omega⟩
 have hwr:IntKind.i64.wrap (T - T % z)=T - T % z:=IntWalk.i64_in _ (by omega)
 go_enter Tryz.func50,Tryz.ntmps50
 go_wp2_with (first
  |(go_at_call 74;(try rw[hwr]);refine(hG _ _ _ _ _ _ _ _ _ _ _ (by omega) (by omega) _).mono ?_;rintro e' w' ⟨rfl,hb⟩;obtain⟨hc,hf,hs⟩:=az hb;(try have hz0:=zA hb w.heap.size)))
 all_goals
  go_ret
  refine⟨_,rfl,jE (by have:=hb.size;simp at this;omega) _ _,(bC)⟩
set_option maxRecDepth 20000 in
set_option maxHeartbeats 2000000 in
theorem jY(s t k z p l e:Int)(b:Bool)(v r:Int)(T:Int)(hT:0≤T∧T≤60)(hz:1≤z∧z≤20)(hp:1≤p∧p≤20)(hk:k=2)(w:World):Calls Tryz.prog 62 #[.agg #[.int .i64 s,.int .i64 t,.int .i64 k,.int .i64 z,.int .i64 p,.int .i64 l,.int .i64 e,.bool b,.int .i64 v,.int .i64 r],.int .i64 T] w fun e' w'=>∃v',e'= .returned v'∧db w' w.heap.size v' (bj z p T 61 0)∧Below w.heap.size w w':=by
 subst hk
 obtain⟨i0,hi,hz0,hz1,hz2⟩:=info_parts Tryz.infoWin
 go_enter Tryz.func62,Tryz.ntmps62
 go_wp2
 go_loopw [5,6] (fun v' s' wr=>∃(st:Int) (n:Nat) (ys:List dp),s'= .int .i64 st∧0≤st∧st≤80∧T+1≤st+n∧n+ys.length≤61∧Hid (bj z p T 61 0=ys++bj z p T n st)∧db wr (w.heap.size+1) v' ys∧Below (w.heap.size+1) (w.alloc (.cells #[.int .i64 s,.int .i64 t,.int .i64 2,.int .i64 z,.int .i64 p,.int .i64 l,.int .i64 e,.bool b,.int .i64 v,.int .i64 r] 24)) wr) (fun _ s' _=>(T+1 - intOf s').toNat)
 case atStart=>exact⟨0,61,[],rfl,by omega,by omega,by omega,by simp,ae rfl,own_lit0 (W:=(w.alloc (.cells #[.int .i64 s,.int .i64 t,.int .i64 2,.int .i64 z,.int .i64 p,.int .i64 l,.int .i64 e,.bool b,.int .i64 v,.int .i64 r] 24))) (B:=w.heap.size+1) (by simp) (by simp),(Below.refl (w.heap.size+1) (w.alloc (.cells #[.int .i64 s,.int .i64 t,.int .i64 2,.int .i64 z,.int .i64 p,.int .i64 l,.int .i64 e,.bool b,.int .i64 v,.int .i64 r] 24))).alloc (by simp) _⟩
 case round=>
  obtain⟨st,n,ys,rfl,hs0,hs1,hsn,hyn,HQ,hO,hbw⟩:=hrel
  have hws:w.heap.size+1≤wr.heap.size:=by have:=hbw.size;simpa using this
  have hgs:w.heap.size<wr.heap.size:=by omega
  have c0:wr.cell? ⟨w.heap.size,0,none⟩=some (.int .i64 s):=(hbw.cell (p:=⟨w.heap.size,0,none⟩) (by simp)).trans (nV)
  have c1:wr.cell? ⟨w.heap.size,1,none⟩=some (.int .i64 t):=(hbw.cell (p:=⟨w.heap.size,1,none⟩) (by simp)).trans (nV)
  have c2:wr.cell? ⟨w.heap.size,2,none⟩=some (.int .i64 2):=(hbw.cell (p:=⟨w.heap.size,2,none⟩) (by simp)).trans (nV)
  have c3:wr.cell? ⟨w.heap.size,3,none⟩=some (.int .i64 z):=(hbw.cell (p:=⟨w.heap.size,3,none⟩) (by simp)).trans (nV)
  have c4:wr.cell? ⟨w.heap.size,4,none⟩=some (.int .i64 p):=(hbw.cell (p:=⟨w.heap.size,4,none⟩) (by simp)).trans (nV)
  have c5:wr.cell? ⟨w.heap.size,5,none⟩=some (.int .i64 l):=(hbw.cell (p:=⟨w.heap.size,5,none⟩) (by simp)).trans (nV)
  have c6:wr.cell? ⟨w.heap.size,6,none⟩=some (.int .i64 e):=(hbw.cell (p:=⟨w.heap.size,6,none⟩) (by simp)).trans (nV)
  have c7:wr.cell? ⟨w.heap.size,7,none⟩=some (.bool b):=(hbw.cell (p:=⟨w.heap.size,7,none⟩) (by simp)).trans (nV)
  have c8:wr.cell? ⟨w.heap.size,8,none⟩=some (.int .i64 v):=(hbw.cell (p:=⟨w.heap.size,8,none⟩) (by simp)).trans (nV)
  have c9:wr.cell? ⟨w.heap.size,9,none⟩=some (.int .i64 r):=(hbw.cell (p:=⟨w.heap.size,9,none⟩) (by simp)).trans (nV)
  have HO:=ae hO
  have hge:=ae (ownWn_ge hO)
  clear hO
  by_cases h1:st≤T
  ·obtain⟨n,rfl⟩:∃m,n=m+1:=⟨n - 1,by omega⟩
   by_cases h2:T<st+z
   ·have HQ2:=ae (snocW _ _ _ _ ((ab HQ).trans (by rw[jC h1 h2])))
    clear HQ
    go_wp2_with (first
     |(at_builtin;go_loud (refine wpList_append_own _ rfl _ _ 54 rfl (w.heap.size+1) 48 i0 _ 2 16 Tryz.underlying54 hi hz0 hz1 hz2 rfl (by decide) u5 _ _ rfl (World.ownsRow.alloc (ab HO) _) ⟨wr.heap.size,0,none⟩ 1 1 [.int .i64 st,.int .i64 (st+z)] rfl rfl (iN wr st (st+z) _) (nT) (by unfold maxLen;omega) (by omega) (by have:=hbw.size;simp at this ⊢;omega) ?_);intro v' w1 hown' ml _;go_loud (have hb1:=(hbw.alloc hws _).grown ml (oa) (ab hge));go_loud (have d4:w1.cell? ⟨w.heap.size,4,none⟩=some (.int .i64 p):=(hb1.cell (p:=⟨w.heap.size,4,none⟩) (by simp)).trans (nV))))
    go_roundw
    case rel=>exact⟨st+p,n,ys++[⟨st,st+z⟩],rfl,by omega,by omega,by omega,by simp;omega,HQ2,jm (x:=⟨st,st+z⟩) hown',hb1⟩
    case measure=>simp[intOf];omega
   ·have HQ2:=ae ((ab HQ).trans (by rw[iP h1 h2]))
    clear HQ
    go_wp2
    go_roundw
    case rel=>exact⟨st+p,n,ys,rfl,by omega,by omega,by omega,by omega,HQ2,ab HO,hbw⟩
    case measure=>simp[intOf];omega
  ·have HQ2:Hid (bj z p T 61 0=ys):=ae ((ab HQ).trans (by rw[iO h1];simp))
   clear HQ
   go_wp2
   go_ret
   refine⟨_,rfl,?_,?_⟩
   ·rw[ab HQ2];exact World.ownsRow.mono (ab HO) (by omega)
   ·exact am (aq _ _) (by simpa using hbw)
set_option maxRecDepth 20000 in
set_option maxHeartbeats 2000000 in
theorem slide_any(s t k z p l e:Int)(b:Bool)(v r:Int)(T:Int)(hT:0≤T∧T≤60)(hz:1≤z∧z≤20)(hp:1≤p∧p≤20)(w:World):Calls Tryz.prog 49 #[.agg #[.int .i64 s,.int .i64 t,.int .i64 k,.int .i64 z,.int .i64 p,.int .i64 l,.int .i64 e,.bool b,.int .i64 v,.int .i64 r],.int .i64 T] w fun e' w'=>∃v',e'= .returned v'∧db w' w.heap.size v' (bj z p T 61 0)∧Below w.heap.size w w':=by
 skip
 obtain⟨i0,hi,hz0,hz1,hz2⟩:=info_parts Tryz.infoWin
 go_enter Tryz.func49,Tryz.ntmps49
 go_wp2
 go_loopw [5,6] (fun v' s' wr=>∃(st:Int) (n:Nat) (ys:List dp),s'= .int .i64 st∧0≤st∧st≤80∧T+1≤st+n∧n+ys.length≤61∧Hid (bj z p T 61 0=ys++bj z p T n st)∧db wr (w.heap.size+1) v' ys∧Below (w.heap.size+1) (w.alloc (.cells #[.int .i64 s,.int .i64 t,.int .i64 k,.int .i64 z,.int .i64 p,.int .i64 l,.int .i64 e,.bool b,.int .i64 v,.int .i64 r] 24)) wr) (fun _ s' _=>(T+1 - intOf s').toNat)
 case atStart=>exact⟨0,61,[],rfl,by omega,by omega,by omega,by simp,ae rfl,World.ownsRow_nil _ _ _ _,Below.refl _ _⟩
 case round=>
  obtain⟨st,n,ys,rfl,hs0,hs1,hsn,hyn,HQ,hO,hbw⟩:=hrel
  have hws:w.heap.size+1≤wr.heap.size:=by have:=hbw.size;simpa using this
  have hgs:w.heap.size<wr.heap.size:=by omega
  have c0:wr.cell? ⟨w.heap.size,0,none⟩=some (.int .i64 s):=(hbw.cell (p:=⟨w.heap.size,0,none⟩) (by simp)).trans (nV)
  have c1:wr.cell? ⟨w.heap.size,1,none⟩=some (.int .i64 t):=(hbw.cell (p:=⟨w.heap.size,1,none⟩) (by simp)).trans (nV)
  have c2:wr.cell? ⟨w.heap.size,2,none⟩=some (.int .i64 k):=(hbw.cell (p:=⟨w.heap.size,2,none⟩) (by simp)).trans (nV)
  have c3:wr.cell? ⟨w.heap.size,3,none⟩=some (.int .i64 z):=(hbw.cell (p:=⟨w.heap.size,3,none⟩) (by simp)).trans (nV)
  have c4:wr.cell? ⟨w.heap.size,4,none⟩=some (.int .i64 p):=(hbw.cell (p:=⟨w.heap.size,4,none⟩) (by simp)).trans (nV)
  have c5:wr.cell? ⟨w.heap.size,5,none⟩=some (.int .i64 l):=(hbw.cell (p:=⟨w.heap.size,5,none⟩) (by simp)).trans (nV)
  have c6:wr.cell? ⟨w.heap.size,6,none⟩=some (.int .i64 e):=(hbw.cell (p:=⟨w.heap.size,6,none⟩) (by simp)).trans (nV)
  have c7:wr.cell? ⟨w.heap.size,7,none⟩=some (.bool b):=(hbw.cell (p:=⟨w.heap.size,7,none⟩) (by simp)).trans (nV)
  have c8:wr.cell? ⟨w.heap.size,8,none⟩=some (.int .i64 v):=(hbw.cell (p:=⟨w.heap.size,8,none⟩) (by simp)).trans (nV)
  have c9:wr.cell? ⟨w.heap.size,9,none⟩=some (.int .i64 r):=(hbw.cell (p:=⟨w.heap.size,9,none⟩) (by simp)).trans (nV)
  have HO:=ae hO
  have hge:=ae (ownWn_ge hO)
  clear hO
  by_cases h1:st≤T
  ·obtain⟨n,rfl⟩:∃m,n=m+1:=⟨n - 1,by omega⟩
   by_cases h2:T<st+z
   ·have HQ2:=ae (snocW _ _ _ _ ((ab HQ).trans (by rw[jC h1 h2])))
    clear HQ
    go_wp2_with (first
     |(go_at_call 74;refine(hG _ _ _ _ _ _ _ _ _ _ _ (by omega) (by omega) _).mono ?_;rintro e' wf ⟨rfl,hb⟩;obtain⟨hc,hf,hsz⟩:=az hb;have hzf:w.heap.size<wf.heap.size:=Nat.lt_of_lt_of_le hgs hb.size)
     |(at_builtin;go_loud (refine wpList_append_own _ rfl _ _ 54 rfl (w.heap.size+1) 48 i0 _ 2 16 Tryz.underlying54 hi hz0 hz1 hz2 rfl (by decide) u5 _ _ rfl (World.ownsRow.alloc (World.ownsRow.alloc (World.ownsRow.below (ab HO) hb) _) _) ⟨wf.heap.size+1,0,none⟩ 1 1 [.int .i64 st,.int .i64 (st+z)] rfl rfl (cells_atWn _ st (st+z) _ (by simp)) (nT) (by unfold maxLen;omega) (by omega) (by have:=hbw.size;simp at this ⊢;omega) ?_);intro v' w1 hown' ml _;go_loud (have hb0:=(hbw.trans (hb.mono hws));have hb1:=((hb0.alloc (by omega) _).alloc (oa) _).grown ml (oa) (ab hge));go_loud (have d4:w1.cell? ⟨w.heap.size,4,none⟩=some (.int .i64 p):=(hb1.cell (p:=⟨w.heap.size,4,none⟩) (by simp)).trans (nV))))
    go_roundw
    case rel=>exact⟨st+p,n,ys++[⟨st,st+z⟩],rfl,by omega,by omega,by omega,by simp;omega,HQ2,jm (x:=⟨st,st+z⟩) hown',hb1⟩
    case measure=>simp[intOf];omega
   ·have HQ2:=ae ((ab HQ).trans (by rw[iP h1 h2]))
    clear HQ
    go_wp2_with (go_at_call 74;refine(hG _ _ _ _ _ _ _ _ _ _ _ (by omega) (by omega) _).mono ?_;rintro e' wf ⟨rfl,hb⟩;obtain⟨hc,hf,hsz⟩:=az hb;have hzf:w.heap.size<wf.heap.size:=Nat.lt_of_lt_of_le hgs hb.size)
    go_roundw
    case rel=>exact⟨st+p,n,ys,rfl,by omega,by omega,by omega,by omega,HQ2,World.ownsRow.alloc (World.ownsRow.below (ab HO) hb) _,(hbw.trans (hb.mono hws)).alloc (by omega) _⟩
    case measure=>simp[intOf];omega
  ·have HQ2:Hid (bj z p T 61 0=ys):=ae ((ab HQ).trans (by rw[iO h1];simp))
   clear HQ
   go_wp2
   go_ret
   refine⟨_,rfl,?_,?_⟩
   ·rw[ab HQ2];exact World.ownsRow.mono (ab HO) (by omega)
   ·exact am (aq _ _) (by simpa using hbw)
end Go.Proofs.YtdmhihcipkhecaaGreat
namespace Go.Proofs.YtdmhihcipkhecaaGreat
open Go.ChangeShapes Go.WideShapes Go.ChangeAt Go.RowKit Go.Maps
/-- A function in a map is read as its number. -/
def rdF(v:Value):Option (DataW Unit×List MemPlace):=match v with
 | .func (.func n) f c=>if f.size=0∧c.size=0 then some (.lit (.int .i64 n),[])else none
 | .nilFunc=>some (.lit (.int .i64 (-1)),[])
 |_=>none
theorem rdF_inv{v:Value}{n:Nat}{ps:List MemPlace}(h:rdF v=some (.lit (.int .i64 (n:Int)),ps)):v= .func (.func n) #[] #[]:=by
 unfold rdF at h
 split at h
 ·rename_i m f c
  split at h
  ·rename_i hc
   simp only[Option.some.injEq,Prod.mk.injEq,DataW.lit.injEq,Lit.int.injEq,true_and]at h
   obtain⟨h1,h2⟩:=hc
   have e1:f=#[]:=Array.eq_empty_of_size_eq_zero h1
   have e2:c=#[]:=Array.eq_empty_of_size_eq_zero h2
   have e3:m=n:=Int.ofNat.inj h.1
   rw[e1,e2,e3]
  ·cases h
 ·simp only[Option.some.injEq,Prod.mk.injEq,DataW.lit.injEq,Lit.int.injEq,true_and]at h
  have:=h.1
  omega
 ·cases h
/-- The map of functions, behind none, one, two and three entries. -/
def dF0:DataW Unit:= .map []
def dF1:DataW Unit:=dF0.put (.int .i64 1) (.lit (.int .i64 ((48:Nat):Int)))
def dF2:DataW Unit:=dF1.put (.int .i64 2) (.lit (.int .i64 ((49:Nat):Int)))
def dF3:DataW Unit:=dF2.put (.int .i64 3) (.lit (.int .i64 ((50:Nat):Int)))
theorem zeroF(w:World):(zeroValue 55).run Tryz.prog w= .ok .nilFunc w:=by kernel_rfl
theorem keyI:Keyed Tryz.prog 3:=int_keyed Tryz.underlying3
theorem kI(n:Int)(h:(Lit.int .i64 n).wf=true):keyOf Tryz.prog 3 (.int .i64 n)=some (.int .i64 n):=by
 exact keyOf_int_mk Tryz.underlying3 h
theorem lC:∃u1 u2 u3:World→World,(∀W:World,(Instr.mapUpdate 90 (.map (some W.heap.size)) (.int .i64 1) (.func (.func 48) #[] #[])).run Tryz.prog (W.alloc (.map #[] 0))= .ok () (u1 W))∧(∀W:World,(Instr.mapUpdate 90 (.map (some W.heap.size)) (.int .i64 2) (.func (.func 49) #[] #[])).run Tryz.prog (u1 W)= .ok () (u2 W))∧(∀W:World,(Instr.mapUpdate 90 (.map (some W.heap.size)) (.int .i64 3) (.func (.func 50) #[] #[])).run Tryz.prog (u2 W)= .ok () (u3 W))∧
  (∀W:World,(Instr.lookup 90 (.map (some W.heap.size)) (.int .i64 1) false).run Tryz.prog (u3 W)= .ok (.func (.func 48) #[] #[]) (u3 W))∧(∀W:World,(Instr.lookup 90 (.map (some W.heap.size)) (.int .i64 2) false).run Tryz.prog (u3 W)= .ok (.func (.func 49) #[] #[]) (u3 W))∧(∀W:World,(Instr.lookup 90 (.map (some W.heap.size)) (.int .i64 3) false).run Tryz.prog (u3 W)= .ok (.func (.func 50) #[] #[]) (u3 W))∧(∀W:World,Below W.heap.size W (u3 W)):=by
 have H1:∀W:World,∃w2,(Instr.mapUpdate 90 (.map (some W.heap.size)) (.int .i64 1) (.func (.func 48) #[] #[])).run Tryz.prog (W.alloc (.map #[] 0))= .ok () (w2)∧w2.ownsMap Tryz.prog 3 rdF W.heap.size 1 dF1∧Below W.heap.size W w2:=fun W=>by
  obtain⟨w2,h1,h2,h3⟩:=World.ownsMap.update (World.ownsMap_made W Tryz.prog 3 rdF) keyI Tryz.underlying90 (by decide) (kI 1 (by decide)) (show rdF (.func (.func 48) #[] #[])=some (.lit (.int .i64 ((48:Nat):Int)),[])from rfl)
  exact⟨w2,h1,h2,(aq W _).grown h3 (by simp) (by intro k hk;cases hk;omega)⟩
 obtain⟨u1,hu1⟩:=Classical.skolem.1 H1
 have H2:∀W:World,∃w2,(Instr.mapUpdate 90 (.map (some W.heap.size)) (.int .i64 2) (.func (.func 49) #[] #[])).run Tryz.prog (u1 W)= .ok () (w2)∧w2.ownsMap Tryz.prog 3 rdF W.heap.size 2 dF2∧Below W.heap.size W w2:=fun W=>by
  obtain⟨w2,h1,h2,h3⟩:=World.ownsMap.update (hu1 W).2.1 keyI Tryz.underlying90 (by decide) (kI 2 (by decide)) (show rdF (.func (.func 49) #[] #[])=some (.lit (.int .i64 ((49:Nat):Int)),[])from rfl)
  exact⟨w2,h1,h2,(hu1 W).2.2.grown h3 (hu1 W).2.2.size (by intro k hk;cases hk;omega)⟩
 obtain⟨u2,hu2⟩:=Classical.skolem.1 H2
 have H3:∀W:World,∃w2,(Instr.mapUpdate 90 (.map (some W.heap.size)) (.int .i64 3) (.func (.func 50) #[] #[])).run Tryz.prog (u2 W)= .ok () (w2)∧w2.ownsMap Tryz.prog 3 rdF W.heap.size 3 dF3∧Below W.heap.size W w2:=fun W=>by
  obtain⟨w2,h1,h2,h3⟩:=World.ownsMap.update (hu2 W).2.1 keyI Tryz.underlying90 (by decide) (kI 3 (by decide)) (show rdF (.func (.func 50) #[] #[])=some (.lit (.int .i64 ((50:Nat):Int)),[])from rfl)
  exact⟨w2,h1,h2,(hu2 W).2.2.grown h3 (hu2 W).2.2.size (by intro k hk;cases hk;omega)⟩
 obtain⟨u3,hu3⟩:=Classical.skolem.1 H3
 have L:∀(W:World) (k:Int) (fn:Nat),(Lit.int .i64 k).wf=true→dF3.atKey (.int .i64 k) (.lit (.int .i64 (-1)))= .lit (.int .i64 (fn:Int))→(Instr.lookup 90 (.map (some W.heap.size)) (.int .i64 k) false).run Tryz.prog (u3 W)= .ok (.func (.func fn) #[] #[]) (u3 W):=fun W k fn hk ha=>by
  obtain⟨v,ps,h1,h2⟩:=World.ownsMap.lookup (hu3 W).2.1 keyI Tryz.underlying90 (zeroF (u3 W)) (show rdF .nilFunc=some (.lit (.int .i64 (-1)),[])from rfl) (kI k hk)
  rw[ha]at h2
  rw[h1,rdF_inv h2]
 exact⟨u1,u2,u3,fun W=>(hu1 W).1,fun W=>(hu2 W).1,fun W=>(hu3 W).1,fun W=>L W 1 _ (by decide) rfl,fun W=>L W 2 _ (by decide) rfl,fun W=>L W 3 _ (by decide) rfl,fun W=>(hu3 W).2.2⟩
/-- The windows of a time, none if the job is not ok or there is no such time. -/
def eY(s t k z p l e v r T:Int):List dp:=if (aV s t k z p l e v r&&bH T 0 60)=true then aQ k z p T else []
theorem gK{s t k z p l e v r T:Int}(h:aV s t k z p l e v r=true)(h2:bH T 0 60=true):eY s t k z p l e v r T=aQ k z p T:=by simp[eY,h,h2]
theorem winsAll_f1{s t k z p l e v r T:Int}(h:aV s t k z p l e v r=false):eY s t k z p l e v r T=[]:=by simp[eY,h]
theorem winsAll_f2{s t k z p l e v r T:Int}(h2:bH T 0 60=false):eY s t k z p l e v r T=[]:=by simp[eY,h2]
theorem bN{s t k z p l e v r:Int}(h:aV s t k z p l e v r=true):(1≤k∧k≤3)∧(1≤z∧z≤20)∧fD k z p=true:=by
 simp only[aV,Bool.and_eq_true]at h
 obtain⟨⟨⟨⟨⟨⟨⟨⟨h1,h2⟩,h3⟩,h4⟩,h5⟩,h6⟩,h7⟩,h8⟩,h9⟩:=h
 exact⟨br.1 h3,br.1 h4,h5⟩
theorem stepB_in{z p:Int}(hz:1≤z∧z≤20)(h:fD 2 z p=true):1≤p∧p≤20:=by
 rw[iZ,Bool.and_eq_true]at h
 have:=br.1 h.1
 omega
theorem winsOf_1(z p T:Int):aQ 1 z p T=[⟨T - T % z,T - T % z+z⟩]:=rfl
theorem winsOf_2(z p T:Int):aQ 2 z p T=bj z p T 61 0:=rfl
theorem winsOf_3(z p T:Int):aQ 3 z p T=[⟨T,T+z⟩]:=rfl
theorem implw1(s t z p l e:Int)(b:Bool)(v r:Int)(T:Int)(hT:bH T 0 60=true)(hj:aV s t 1 z p l e v r=true)(w:World):Calls Tryz.prog 21 #[.agg #[.int .i64 s,.int .i64 t,.int .i64 1,.int .i64 z,.int .i64 p,.int .i64 l,.int .i64 e,.bool b,.int .i64 v,.int .i64 r],.int .i64 T] w fun e' w'=>∃v',e'= .returned v'∧db w' w.heap.size v' (aQ 1 z p T)∧Below w.heap.size w w':=by
 have hmm:=@run_makeMap Tryz.prog
 obtain⟨u1,u2,u3,hr1,hr2,hr3,hl1,hl2,hl3,hu⟩:=lC
 obtain⟨hk,hz,hp⟩:=bN hj
 have hT':=br.1 hT
 rw[winsOf_1]
 go_enter Tryz.func21,Tryz.ntmps21
 go_wp2_with (first
  |(go_at_call 41;refine(ca _ _ _ _ _ _ _ _ _ _ _).mono ?_;rintro e' w1 ⟨rfl,hb⟩;obtain⟨hc,hf,hsz⟩:=az hb;(try have hz0:w.heap.size<w1.heap.size:=(zB hb));obtain⟨hc3,hf3,hs3⟩:=az (hu w1))
  |(go_at_call 34;refine(aA _ _ _ _).mono ?_;rintro e' w' ⟨rfl,rfl⟩)
  |(go_at_call 48;refine(fixed_any _ _ _ _ _ _ _ _ _ _ _ (by omega) (by omega) _).mono ?_;rintro e' w2 ⟨v2,rfl,hO,hb2⟩))
 go_ret
 have h9:=hb.size
 have h8:=(hu w').size
 simp at h9
 exact⟨_,rfl,World.ownsRow.mono hO (by omega),am (am (am (aq _ _) hb) (hu w')) hb2⟩
theorem implw2(s t z p l e:Int)(b:Bool)(v r:Int)(T:Int)(hT:bH T 0 60=true)(hj:aV s t 2 z p l e v r=true)(w:World):Calls Tryz.prog 21 #[.agg #[.int .i64 s,.int .i64 t,.int .i64 2,.int .i64 z,.int .i64 p,.int .i64 l,.int .i64 e,.bool b,.int .i64 v,.int .i64 r],.int .i64 T] w fun e' w'=>∃v',e'= .returned v'∧db w' w.heap.size v' (aQ 2 z p T)∧Below w.heap.size w w':=by
 have hmm:=@run_makeMap Tryz.prog
 obtain⟨u1,u2,u3,hr1,hr2,hr3,hl1,hl2,hl3,hu⟩:=lC
 obtain⟨hk,hz,hp⟩:=bN hj
 have hT':=br.1 hT
 have hp':=stepB_in hz hp
 rw[winsOf_2]
 go_enter Tryz.func21,Tryz.ntmps21
 go_wp2_with (first
  |(go_at_call 41;refine(ca _ _ _ _ _ _ _ _ _ _ _).mono ?_;rintro e' w1 ⟨rfl,hb⟩;obtain⟨hc,hf,hsz⟩:=az hb;(try have hz0:w.heap.size<w1.heap.size:=(zB hb));obtain⟨hc3,hf3,hs3⟩:=az (hu w1))
  |(go_at_call 34;refine(aA _ _ _ _).mono ?_;rintro e' w' ⟨rfl,rfl⟩)
  |(go_at_call 49;refine(slide_any _ _ _ _ _ _ _ _ _ _ _ (by omega) (by omega) (by omega) _).mono ?_;rintro e' w2 ⟨v2,rfl,hO,hb2⟩))
 go_ret
 have h9:=hb.size
 have h8:=(hu w').size
 simp at h9
 exact⟨_,rfl,World.ownsRow.mono hO (by omega),am (am (am (aq _ _) hb) (hu w')) hb2⟩
theorem implw3(s t z p l e:Int)(b:Bool)(v r:Int)(T:Int)(hT:bH T 0 60=true)(hj:aV s t 3 z p l e v r=true)(w:World):Calls Tryz.prog 21 #[.agg #[.int .i64 s,.int .i64 t,.int .i64 3,.int .i64 z,.int .i64 p,.int .i64 l,.int .i64 e,.bool b,.int .i64 v,.int .i64 r],.int .i64 T] w fun e' w'=>∃v',e'= .returned v'∧db w' w.heap.size v' (aQ 3 z p T)∧Below w.heap.size w w':=by
 have hmm:=@run_makeMap Tryz.prog
 obtain⟨u1,u2,u3,hr1,hr2,hr3,hl1,hl2,hl3,hu⟩:=lC
 obtain⟨hk,hz,hp⟩:=bN hj
 have hT':=br.1 hT
 rw[winsOf_3]
 go_enter Tryz.func21,Tryz.ntmps21
 go_wp2_with (first
  |(go_at_call 41;refine(ca _ _ _ _ _ _ _ _ _ _ _).mono ?_;rintro e' w1 ⟨rfl,hb⟩;obtain⟨hc,hf,hsz⟩:=az hb;(try have hz0:w.heap.size<w1.heap.size:=(zB hb));obtain⟨hc3,hf3,hs3⟩:=az (hu w1))
  |(go_at_call 34;refine(aA _ _ _ _).mono ?_;rintro e' w' ⟨rfl,rfl⟩)
  |(go_at_call 50;refine(session_any _ _ _ _ _ _ _ _ _ _ _ (by omega) (by omega) _).mono ?_;rintro e' w2 ⟨v2,rfl,hO,hb2⟩))
 go_ret
 have h9:=hb.size
 have h8:=(hu w').size
 simp at h9
 exact⟨_,rfl,World.ownsRow.mono hO (by omega),am (am (am (aq _ _) hb) (hu w')) hb2⟩
theorem gu(s t k z p l e:Int)(b:Bool)(v r:Int)(T:Int)(w:World):Calls Tryz.prog 21 #[.agg #[.int .i64 s,.int .i64 t,.int .i64 k,.int .i64 z,.int .i64 p,.int .i64 l,.int .i64 e,.bool b,.int .i64 v,.int .i64 r],.int .i64 T] w fun e' w'=>∃v',e'= .returned v'∧db w' w.heap.size v' (eY s t k z p l e v r T)∧Below w.heap.size w w':=by
 cases c0:aV s t k z p l e v r
 ·rw[winsAll_f1 c0]
  go_enter Tryz.func21,Tryz.ntmps21
  go_wp2_with (first
   |(go_at_call 41;refine(ca _ _ _ _ _ _ _ _ _ _ _).mono ?_;rintro e' w1 ⟨rfl,hb⟩;obtain⟨hc,hf,hsz⟩:=az hb)
   |(go_at_call 34;refine(aA _ _ _ _).mono ?_;rintro e' w' ⟨rfl,rfl⟩))
  go_ret
  exact⟨_,rfl,World.ownsRow_nil _ _ _ _,(bC)⟩
 cases c1:bH T 0 60
 ·rw[winsAll_f2 c1]
  go_enter Tryz.func21,Tryz.ntmps21
  go_wp2_with (first
   |(go_at_call 41;refine(ca _ _ _ _ _ _ _ _ _ _ _).mono ?_;rintro e' w1 ⟨rfl,hb⟩;obtain⟨hc,hf,hsz⟩:=az hb)
   |(go_at_call 34;refine(aA _ _ _ _).mono ?_;rintro e' w' ⟨rfl,rfl⟩))
  go_ret
  exact⟨_,rfl,World.ownsRow_nil _ _ _ _,(bC)⟩
 rw[gK c0 c1]
 obtain⟨hk,_,_⟩:=bN c0
 by_cases h1:k=1
 ·subst h1;exact implw1 s t z p l e b v r T c1 c0 w
 by_cases h2:k=2
 ·subst h2;exact implw2 s t z p l e b v r T c1 c0 w
 obtain rfl:k=3:=by omega
 exact implw3 s t z p l e b v r T c1 c0 w
theorem kC{W:World}{B g:Nat}(h:B≤W.heap.size)(hg:g=W.heap.size)(a b:Int):db (W.alloc (.cells #[.int .i64 a,.int .i64 b] 48)) B (.slice (some ⟨g,0,none⟩) 1 1) [⟨a,b⟩]:=by
 subst hg;exact jE h a b
theorem l4_1(s t z p l e:Int)(b:Bool)(v r:Int)(T:Int)(hT:0≤T∧T≤60)(hz:1≤z∧z≤20)(w:World):Calls Tryz.prog 62 #[.agg #[.int .i64 s,.int .i64 t,.int .i64 1,.int .i64 z,.int .i64 p,.int .i64 l,.int .i64 e,.bool b,.int .i64 v,.int .i64 r],.int .i64 T] w fun e' w'=>∃v',e'= .returned v'∧db w' w.heap.size v' (aQ 1 z p T)∧Below w.heap.size w w':=by
 have hmod:0≤T % z∧T % z≤T:=⟨Int.emod_nonneg _ (by omega),by have:=Int.emod_add_mul_ediv T z;have:=Int.ediv_nonneg (a:=T) (b:=z) (by omega) (by omega);have:=Int.mul_nonneg (a:=z) (b:=T / z) (by omega) (by omega);omega⟩
 rw[winsOf_1]
 have hwr:IntKind.i64.wrap (T - T % z)=T - T % z:=IntWalk.i64_in _ (by omega)
 have hwr2:IntKind.i64.wrap (T - T % z+z)=T - T % z+z:=IntWalk.i64_in _ (by omega)
 go_enter Tryz.func62,Tryz.ntmps62
 go_wp2
 go_region
 all_goals go_wp2
 all_goals
  go_ret
  exact⟨_,rfl,kC (by simp) (by simp) _ _,(bC)⟩
theorem l4_3(s t z p l e:Int)(b:Bool)(v r:Int)(T:Int)(hT:0≤T∧T≤60)(hz:1≤z∧z≤20)(w:World):Calls Tryz.prog 62 #[.agg #[.int .i64 s,.int .i64 t,.int .i64 3,.int .i64 z,.int .i64 p,.int .i64 l,.int .i64 e,.bool b,.int .i64 v,.int .i64 r],.int .i64 T] w fun e' w'=>∃v',e'= .returned v'∧db w' w.heap.size v' (aQ 3 z p T)∧Below w.heap.size w w':=by
 have hmod:0≤T % z∧T % z≤T:=⟨Int.emod_nonneg _ (by omega),by have:=Int.emod_add_mul_ediv T z;have:=Int.ediv_nonneg (a:=T) (b:=z) (by omega) (by omega);have:=Int.mul_nonneg (a:=z) (b:=T / z) (by omega) (by omega);omega⟩
 rw[winsOf_3]
 have hwr:IntKind.i64.wrap (T - T % z)=T - T % z:=IntWalk.i64_in _ (by omega)
 have hwr2:IntKind.i64.wrap (T - T % z+z)=T - T % z+z:=IntWalk.i64_in _ (by omega)
 go_enter Tryz.func62,Tryz.ntmps62
 go_wp2
 all_goals
  go_ret
  exact⟨_,rfl,kC (by simp) (by simp) _ _,(bC)⟩
end Go.Proofs.YtdmhihcipkhecaaGreat
namespace Go.Proofs.YtdmhihcipkhecaaGreat
open Go.ChangeShapes Go.WideShapes Go.ChangeAt Go.RowKit
/-- When a record, a mark, a wall, an item is ok. -/
def dg(t k v n:Int):Bool:=bH t 0 60&&bH k 0 3&&bH v (-9) 9&&(n==0)
def bB(t k v n:Int):Bool:=(bH t 1 60||t==1000)&&(k==0)&&(v==0)&&(n==0)
def dW(t k v n:Int):Bool:=bH n 1 900&&(t==0)&&(k==0)&&(v==0)
def dZ(t k v n:Int):Bool:=(t==0)&&(k==0)&&(v==0)&&bH n 1 900
def eF(q t k v n:Int):Bool:=if q=1 then dg t k v n else if q=2 then bB t k v n else if q=3 then dW t k v n else false
theorem okWall_eq(t k v n:Int):dZ t k v n=dW t k v n:=by
 unfold dZ dW
 cases bH n 1 900<;>cases (t==0)<;>cases (k==0)<;>cases (v==0)<;>rfl
theorem okItm_1(t k v n:Int):eF 1 t k v n=dg t k v n:=rfl
theorem okItm_2(t k v n:Int):eF 2 t k v n=bB t k v n:=rfl
theorem okItm_3(t k v n:Int):eF 3 t k v n=dW t k v n:=rfl
theorem okItm_n{q:Int}(h1:q≠1)(h2:q≠2)(h3:q≠3)(t k v n:Int):eF q t k v n=false:=by unfold eF;rw[if_neg h1,if_neg h2,if_neg h3]
theorem recok_any(q t k v n:Int)(w:World):Calls Tryz.prog 141 #[.agg #[.int .i64 q,.int .i64 t,.int .i64 k,.int .i64 v,.int .i64 n]] w fun e w'=>e= .returned (.bool (dg t k v n))∧Below w.heap.size w w':=by
 cases c0:bH t 0 60
 ·have hq:Hid (dg t k v n=false):=ae (by simp[dg,c0])
  go_enter Tryz.func141,Tryz.ntmps141
  go_wp2_with (go_at_call 34;refine(aA _ _ _ _).mono ?_;rintro e w' ⟨rfl,rfl⟩)
  go_ret
  exact⟨aD (ab hq).symm,(aW)⟩
 ·cases c1:bH k 0 3
  ·have hq:Hid (dg t k v n=false):=ae (by simp[dg,c0,c1])
   go_enter Tryz.func141,Tryz.ntmps141
   go_wp2_with (go_at_call 34;refine(aA _ _ _ _).mono ?_;rintro e w' ⟨rfl,rfl⟩)
   go_ret
   exact⟨aD (ab hq).symm,(aW)⟩
  ·cases c2:bH v (-9) 9
   ·have hq:Hid (dg t k v n=false):=ae (by simp[dg,c0,c1,c2])
    go_enter Tryz.func141,Tryz.ntmps141
    go_wp2_with (go_at_call 34;refine(aA _ _ _ _).mono ?_;rintro e w' ⟨rfl,rfl⟩)
    go_ret
    exact⟨aD (ab hq).symm,(aW)⟩
   ·have hq:Hid (dg t k v n=(n==0)):=ae (by simp[dg,c0,c1,c2])
    go_enter Tryz.func141,Tryz.ntmps141
    go_wp2_with (go_at_call 34;refine(aA _ _ _ _).mono ?_;rintro e w' ⟨rfl,rfl⟩)
    go_ret
    exact⟨aD (ab hq).symm,(aW)⟩
theorem markok_any(q t k v n:Int)(w:World):Calls Tryz.prog 143 #[.agg #[.int .i64 q,.int .i64 t,.int .i64 k,.int .i64 v,.int .i64 n]] w fun e w'=>e= .returned (.bool (bB t k v n))∧Below w.heap.size w w':=by
 cases m0:bH t 1 60
 ·cases m1:(t==1000)
  ·have hq:Hid (bB t k v n=false):=ae (by simp[bB,m0,m1])
   go_enter Tryz.func143,Tryz.ntmps143
   go_wp2_with (go_at_call 34;refine(aA _ _ _ _).mono ?_;rintro e w' ⟨rfl,rfl⟩)
   go_ret
   exact⟨aD (ab hq).symm,(aW)⟩
  ·cases c0:(k==0)
   ·have hq:Hid (bB t k v n=false):=ae (by simp[bB,m0,m1,c0])
    go_enter Tryz.func143,Tryz.ntmps143
    go_wp2_with (go_at_call 34;refine(aA _ _ _ _).mono ?_;rintro e w' ⟨rfl,rfl⟩)
    go_ret
    exact⟨aD (ab hq).symm,(aW)⟩
   ·cases c1:(v==0)
    ·have hq:Hid (bB t k v n=false):=ae (by simp[bB,m0,m1,c0,c1])
     go_enter Tryz.func143,Tryz.ntmps143
     go_wp2_with (go_at_call 34;refine(aA _ _ _ _).mono ?_;rintro e w' ⟨rfl,rfl⟩)
     go_ret
     exact⟨aD (ab hq).symm,(aW)⟩
    ·have hq:Hid (bB t k v n=(n==0)):=ae (by simp[bB,m0,m1,c0,c1])
     go_enter Tryz.func143,Tryz.ntmps143
     go_wp2_with (go_at_call 34;refine(aA _ _ _ _).mono ?_;rintro e w' ⟨rfl,rfl⟩)
     go_ret
     exact⟨aD (ab hq).symm,(aW)⟩
 ·cases c0:(k==0)
  ·have hq:Hid (bB t k v n=false):=ae (by simp[bB,m0,c0])
   go_enter Tryz.func143,Tryz.ntmps143
   go_wp2_with (go_at_call 34;refine(aA _ _ _ _).mono ?_;rintro e w' ⟨rfl,rfl⟩)
   go_ret
   exact⟨aD (ab hq).symm,(aW)⟩
  ·cases c1:(v==0)
   ·have hq:Hid (bB t k v n=false):=ae (by simp[bB,m0,c0,c1])
    go_enter Tryz.func143,Tryz.ntmps143
    go_wp2_with (go_at_call 34;refine(aA _ _ _ _).mono ?_;rintro e w' ⟨rfl,rfl⟩)
    go_ret
    exact⟨aD (ab hq).symm,(aW)⟩
   ·have hq:Hid (bB t k v n=(n==0)):=ae (by simp[bB,m0,c0,c1])
    go_enter Tryz.func143,Tryz.ntmps143
    go_wp2_with (go_at_call 34;refine(aA _ _ _ _).mono ?_;rintro e w' ⟨rfl,rfl⟩)
    go_ret
    exact⟨aD (ab hq).symm,(aW)⟩
theorem wallok_any(q t k v n:Int)(w:World):Calls Tryz.prog 145 #[.agg #[.int .i64 q,.int .i64 t,.int .i64 k,.int .i64 v,.int .i64 n]] w fun e w'=>e= .returned (.bool (dW t k v n))∧Below w.heap.size w w':=by
 cases c0:bH n 1 900
 ·have hq:Hid (dW t k v n=false):=ae (by simp[dW,c0])
  go_enter Tryz.func145,Tryz.ntmps145
  go_wp2_with (go_at_call 34;refine(aA _ _ _ _).mono ?_;rintro e w' ⟨rfl,rfl⟩)
  go_ret
  exact⟨aD (ab hq).symm,(aW)⟩
 ·cases c1:(t==0)
  ·have hq:Hid (dW t k v n=false):=ae (by simp[dW,c0,c1])
   go_enter Tryz.func145,Tryz.ntmps145
   go_wp2_with (go_at_call 34;refine(aA _ _ _ _).mono ?_;rintro e w' ⟨rfl,rfl⟩)
   go_ret
   exact⟨aD (ab hq).symm,(aW)⟩
  ·cases c2:(k==0)
   ·have hq:Hid (dW t k v n=false):=ae (by simp[dW,c0,c1,c2])
    go_enter Tryz.func145,Tryz.ntmps145
    go_wp2_with (go_at_call 34;refine(aA _ _ _ _).mono ?_;rintro e w' ⟨rfl,rfl⟩)
    go_ret
    exact⟨aD (ab hq).symm,(aW)⟩
   ·have hq:Hid (dW t k v n=(v==0)):=ae (by simp[dW,c0,c1,c2])
    go_enter Tryz.func145,Tryz.ntmps145
    go_wp2_with (go_at_call 34;refine(aA _ _ _ _).mono ?_;rintro e w' ⟨rfl,rfl⟩)
    go_ret
    exact⟨aD (ab hq).symm,(aW)⟩
theorem noneok_any(q t k v n:Int)(w:World):Calls Tryz.prog 147 #[.agg #[.int .i64 q,.int .i64 t,.int .i64 k,.int .i64 v,.int .i64 n]] w fun e w'=>e= .returned (.bool false)∧Below w.heap.size w w':=by
 go_enter Tryz.func147,Tryz.ntmps147
 go_wp2
 go_ret
 exact⟨rfl,(aW)⟩
set_option maxHeartbeats 1000000 in
theorem iR(q t k v n:Int)(w:World):Calls Tryz.prog 18 #[.agg #[.int .i64 q,.int .i64 t,.int .i64 k,.int .i64 v,.int .i64 n]] w fun e w'=>e= .returned (.bool (eF q t k v n))∧Below w.heap.size w w':=by
 by_cases h1:q=1
 ·subst h1
  rw[okItm_1]
  cases c0:bH t 0 60
  ·have hq:Hid (dg t k v n=false):=ae (by simp[dg,c0])
   go_enter Tryz.func18,Tryz.ntmps18
   go_wp2_with (go_at_call 26;refine(aI _ _ _ _).mono ?_;rintro e w' ⟨rfl,rfl⟩)
   go_ret
   exact⟨aD (ab hq).symm,(aW)⟩
  ·cases c1:bH k 0 3
   ·have hq:Hid (dg t k v n=false):=ae (by simp[dg,c0,c1])
    go_enter Tryz.func18,Tryz.ntmps18
    go_wp2_with (go_at_call 26;refine(aI _ _ _ _).mono ?_;rintro e w' ⟨rfl,rfl⟩)
    go_ret
    exact⟨aD (ab hq).symm,(aW)⟩
   ·cases c2:bH v (-9) 9
    ·have hq:Hid (dg t k v n=false):=ae (by simp[dg,c0,c1,c2])
     go_enter Tryz.func18,Tryz.ntmps18
     go_wp2_with (go_at_call 26;refine(aI _ _ _ _).mono ?_;rintro e w' ⟨rfl,rfl⟩)
     go_ret
     exact⟨aD (ab hq).symm,(aW)⟩
    ·have hq:Hid (dg t k v n=(n==0)):=ae (by simp[dg,c0,c1,c2])
     go_enter Tryz.func18,Tryz.ntmps18
     go_wp2_with (go_at_call 26;refine(aI _ _ _ _).mono ?_;rintro e w' ⟨rfl,rfl⟩)
     go_ret
     exact⟨aD (ab hq).symm,(aW)⟩
 by_cases h2:q=2
 ·subst h2
  rw[okItm_2]
  cases m0:bH t 1 60
  ·cases m1:(t==1000)
   ·have hq:Hid (bB t k v n=false):=ae (by simp[bB,m0,m1])
    go_enter Tryz.func18,Tryz.ntmps18
    go_wp2_with (go_at_call 26;refine(aI _ _ _ _).mono ?_;rintro e w' ⟨rfl,rfl⟩)
    go_ret
    exact⟨aD (ab hq).symm,(aW)⟩
   ·cases c0:(k==0)
    ·have hq:Hid (bB t k v n=false):=ae (by simp[bB,m0,m1,c0])
     go_enter Tryz.func18,Tryz.ntmps18
     go_wp2_with (go_at_call 26;refine(aI _ _ _ _).mono ?_;rintro e w' ⟨rfl,rfl⟩)
     go_ret
     exact⟨aD (ab hq).symm,(aW)⟩
    ·cases c1:(v==0)
     ·have hq:Hid (bB t k v n=false):=ae (by simp[bB,m0,m1,c0,c1])
      go_enter Tryz.func18,Tryz.ntmps18
      go_wp2_with (go_at_call 26;refine(aI _ _ _ _).mono ?_;rintro e w' ⟨rfl,rfl⟩)
      go_ret
      exact⟨aD (ab hq).symm,(aW)⟩
     ·have hq:Hid (bB t k v n=(n==0)):=ae (by simp[bB,m0,m1,c0,c1])
      go_enter Tryz.func18,Tryz.ntmps18
      go_wp2_with (go_at_call 26;refine(aI _ _ _ _).mono ?_;rintro e w' ⟨rfl,rfl⟩)
      go_ret
      exact⟨aD (ab hq).symm,(aW)⟩
  ·cases c0:(k==0)
   ·have hq:Hid (bB t k v n=false):=ae (by simp[bB,m0,c0])
    go_enter Tryz.func18,Tryz.ntmps18
    go_wp2_with (go_at_call 26;refine(aI _ _ _ _).mono ?_;rintro e w' ⟨rfl,rfl⟩)
    go_ret
    exact⟨aD (ab hq).symm,(aW)⟩
   ·cases c1:(v==0)
    ·have hq:Hid (bB t k v n=false):=ae (by simp[bB,m0,c0,c1])
     go_enter Tryz.func18,Tryz.ntmps18
     go_wp2_with (go_at_call 26;refine(aI _ _ _ _).mono ?_;rintro e w' ⟨rfl,rfl⟩)
     go_ret
     exact⟨aD (ab hq).symm,(aW)⟩
    ·have hq:Hid (bB t k v n=(n==0)):=ae (by simp[bB,m0,c0,c1])
     go_enter Tryz.func18,Tryz.ntmps18
     go_wp2_with (go_at_call 26;refine(aI _ _ _ _).mono ?_;rintro e w' ⟨rfl,rfl⟩)
     go_ret
     exact⟨aD (ab hq).symm,(aW)⟩
 have g1:(q==1)=false:=by simpa using h1
 have g2:(q==2)=false:=by simpa using h2
 by_cases h3:q=3
 ·subst h3
  rw[okItm_3,←okWall_eq]
  clear g1 g2
  cases c0:(t==0)
  ·have hq:Hid (dZ t k v n=false):=ae (by simp[dZ,c0])
   go_enter Tryz.func18,Tryz.ntmps18
   go_wp2_with (go_at_call 26;refine(aI _ _ _ _).mono ?_;rintro e w' ⟨rfl,rfl⟩)
   go_ret
   exact⟨aD (ab hq).symm,(aW)⟩
  ·cases c1:(k==0)
   ·have hq:Hid (dZ t k v n=false):=ae (by simp[dZ,c0,c1])
    go_enter Tryz.func18,Tryz.ntmps18
    go_wp2_with (go_at_call 26;refine(aI _ _ _ _).mono ?_;rintro e w' ⟨rfl,rfl⟩)
    go_ret
    exact⟨aD (ab hq).symm,(aW)⟩
   ·cases c2:(v==0)
    ·have hq:Hid (dZ t k v n=false):=ae (by simp[dZ,c0,c1,c2])
     go_enter Tryz.func18,Tryz.ntmps18
     go_wp2_with (go_at_call 26;refine(aI _ _ _ _).mono ?_;rintro e w' ⟨rfl,rfl⟩)
     go_ret
     exact⟨aD (ab hq).symm,(aW)⟩
    ·have hq:Hid (dZ t k v n=bH n 1 900):=ae (by simp[dZ,c0,c1,c2])
     go_enter Tryz.func18,Tryz.ntmps18
     go_wp2_with (go_at_call 26;refine(aI _ _ _ _).mono ?_;rintro e w' ⟨rfl,rfl⟩)
     go_ret
     exact⟨aD (ab hq).symm,(aW)⟩
 have g3:(q==3)=false:=by simpa using h3
 have hq:Hid (eF q t k v n=false):=ae (okItm_n h1 h2 h3 t k v n)
 clear h1 h2 h3
 go_enter Tryz.func18,Tryz.ntmps18
 go_wp2_with (go_at_call 26;refine(aI _ _ _ _).mono ?_;rintro e w' ⟨rfl,rfl⟩)
 go_ret
 exact⟨aD (ab hq).symm,(aW)⟩
/-- The interface value that an item is, by its kind. -/
def eG(q t k v n:Int):Value:= .iface (if q=1 then 115 else if q=2 then 116 else if q=3 then 117 else 118) (.agg #[.int .i64 q,.int .i64 t,.int .i64 k,.int .i64 v,.int .i64 n])
theorem dX(q t k v n:Int)(w:World):Calls Tryz.prog 56 #[.agg #[.int .i64 q,.int .i64 t,.int .i64 k,.int .i64 v,.int .i64 n]] w fun e w'=>e= .returned (eG q t k v n)∧Below w.heap.size w w':=by
 by_cases h1:q=1
 ·subst h1
  go_enter Tryz.func56,Tryz.ntmps56
  go_wp2
  go_ret
  exact⟨rfl,(aW)⟩
 by_cases h2:q=2
 ·subst h2
  go_enter Tryz.func56,Tryz.ntmps56
  go_wp2
  go_ret
  exact⟨rfl,(aW)⟩
 by_cases h3:q=3
 ·subst h3
  go_enter Tryz.func56,Tryz.ntmps56
  go_wp2
  go_ret
  exact⟨rfl,(aW)⟩
 have hq:Hid (eG q t k v n= .iface 118 (.agg #[.int .i64 q,.int .i64 t,.int .i64 k,.int .i64 v,.int .i64 n])):=ae (by unfold eG;rw[if_neg h1,if_neg h2,if_neg h3])
 have g1:(q==1)=false:=by simpa using h1
 have g2:(q==2)=false:=by simpa using h2
 have g3:(q==3)=false:=by simpa using h3
 clear h1 h2 h3
 go_enter Tryz.func56,Tryz.ntmps56
 go_wp2
 go_ret
 exact⟨by rw[ab hq];rfl,(aW)⟩
theorem iT(q t k v n:Int)(w:World):Calls Tryz.prog 57 #[.agg #[.int .i64 q,.int .i64 t,.int .i64 k,.int .i64 v,.int .i64 n]] w fun e w'=>e= .returned (.bool (eF q t k v n))∧Below w.heap.size w w':=by
 by_cases h1:q=1
 ·subst h1
  rw[okItm_1]
  have hp:eG 1 t k v n= .iface 115 (.agg #[.int .i64 1,.int .i64 t,.int .i64 k,.int .i64 v,.int .i64 n]):=rfl
  have hm : ∀ w : World, (method 292 115 (.agg #[.int .i64 1, .int .i64 t, .int .i64 k, .int .i64 v, .int .i64 n]) "loop.example/freshet/impl.ok").run Tryz.prog w = .ok (141, .agg #[.int .i64 1, .int .i64 t, .int .i64 k, .int .i64 v, .int .i64 n]) w := fun _ => by kernel_rfl
  go_enter Tryz.func57,Tryz.ntmps57
  go_wp2_with (first
   |(go_at_call 56;refine(dX _ _ _ _ _ _).mono ?_;rintro e w' ⟨rfl,hb⟩)
   |(go_at_call 141;refine(recok_any _ _ _ _ _ _).mono ?_;rintro e w' ⟨rfl,hb⟩))
  go_ret
  exact⟨rfl,(aW)⟩
 by_cases h2:q=2
 ·subst h2
  rw[okItm_2]
  have hp:eG 2 t k v n= .iface 116 (.agg #[.int .i64 2,.int .i64 t,.int .i64 k,.int .i64 v,.int .i64 n]):=rfl
  have hm : ∀ w : World, (method 292 116 (.agg #[.int .i64 2, .int .i64 t, .int .i64 k, .int .i64 v, .int .i64 n]) "loop.example/freshet/impl.ok").run Tryz.prog w = .ok (143, .agg #[.int .i64 2, .int .i64 t, .int .i64 k, .int .i64 v, .int .i64 n]) w := fun _ => by kernel_rfl
  go_enter Tryz.func57,Tryz.ntmps57
  go_wp2_with (first
   |(go_at_call 56;refine(dX _ _ _ _ _ _).mono ?_;rintro e w' ⟨rfl,hb⟩)
   |(go_at_call 143;refine(markok_any _ _ _ _ _ _).mono ?_;rintro e w' ⟨rfl,hb⟩))
  go_ret
  exact⟨rfl,(aW)⟩
 by_cases h3:q=3
 ·subst h3
  rw[okItm_3]
  have hp:eG 3 t k v n= .iface 117 (.agg #[.int .i64 3,.int .i64 t,.int .i64 k,.int .i64 v,.int .i64 n]):=rfl
  have hm : ∀ w : World, (method 292 117 (.agg #[.int .i64 3, .int .i64 t, .int .i64 k, .int .i64 v, .int .i64 n]) "loop.example/freshet/impl.ok").run Tryz.prog w = .ok (145, .agg #[.int .i64 3, .int .i64 t, .int .i64 k, .int .i64 v, .int .i64 n]) w := fun _ => by kernel_rfl
  go_enter Tryz.func57,Tryz.ntmps57
  go_wp2_with (first
   |(go_at_call 56;refine(dX _ _ _ _ _ _).mono ?_;rintro e w' ⟨rfl,hb⟩)
   |(go_at_call 145;refine(wallok_any _ _ _ _ _ _).mono ?_;rintro e w' ⟨rfl,hb⟩))
  go_ret
  exact⟨rfl,(aW)⟩
 have hq:Hid (eF q t k v n=false):=ae (okItm_n h1 h2 h3 t k v n)
 have hr:eG q t k v n= .iface 118 (.agg #[.int .i64 q,.int .i64 t,.int .i64 k,.int .i64 v,.int .i64 n]):=by unfold eG;rw[if_neg h1,if_neg h2,if_neg h3]
 clear h1 h2 h3
 have hp:eG q t k v n= .iface 118 (.agg #[.int .i64 q,.int .i64 t,.int .i64 k,.int .i64 v,.int .i64 n]):=hr
 have hm : ∀ w : World, (method 292 118 (.agg #[.int .i64 q, .int .i64 t, .int .i64 k, .int .i64 v, .int .i64 n]) "loop.example/freshet/impl.ok").run Tryz.prog w = .ok (147, .agg #[.int .i64 q, .int .i64 t, .int .i64 k, .int .i64 v, .int .i64 n]) w := fun _ => by kernel_rfl
 go_enter Tryz.func57,Tryz.ntmps57
 go_wp2_with (first
  |(go_at_call 56;refine(dX _ _ _ _ _ _).mono ?_;rintro e w' ⟨rfl,hb⟩)
  |(go_at_call 147;refine(noneok_any _ _ _ _ _ _).mono ?_;rintro e w' ⟨rfl,hb⟩))
 go_ret
 exact⟨aD (ab hq).symm,(aW)⟩
theorem partV_1(t k v n:Int):eG 1 t k v n= .iface 115 (.agg #[.int .i64 1,.int .i64 t,.int .i64 k,.int .i64 v,.int .i64 n]):=rfl
theorem partV_2(t k v n:Int):eG 2 t k v n= .iface 116 (.agg #[.int .i64 2,.int .i64 t,.int .i64 k,.int .i64 v,.int .i64 n]):=rfl
theorem partV_3(t k v n:Int):eG 3 t k v n= .iface 117 (.agg #[.int .i64 3,.int .i64 t,.int .i64 k,.int .i64 v,.int .i64 n]):=rfl
theorem partV_n{q:Int}(h1:q≠1)(h2:q≠2)(h3:q≠3)(t k v n:Int):eG q t k v n= .iface 118 (.agg #[.int .i64 q,.int .i64 t,.int .i64 k,.int .i64 v,.int .i64 n]):=by unfold eG;rw[if_neg h1,if_neg h2,if_neg h3]
theorem taRR(x:Value)(w:World):(Instr.typeAssert (.iface 115 x) 100 115 true).run Tryz.prog w= .ok (.tuple #[x,.bool true]) w:=by kernel_rfl
theorem taRM(x:Value)(w:World):(Instr.typeAssert (.iface 115 x) 100 116 true).run Tryz.prog w= .ok (.tuple #[.agg #[.int .i64 0,.int .i64 0,.int .i64 0,.int .i64 0,.int .i64 0],.bool false]) w:=by kernel_rfl
theorem taMR(x:Value)(w:World):(Instr.typeAssert (.iface 116 x) 100 115 true).run Tryz.prog w= .ok (.tuple #[.agg #[.int .i64 0,.int .i64 0,.int .i64 0,.int .i64 0,.int .i64 0],.bool false]) w:=by kernel_rfl
theorem taMM(x:Value)(w:World):(Instr.typeAssert (.iface 116 x) 100 116 true).run Tryz.prog w= .ok (.tuple #[x,.bool true]) w:=by kernel_rfl
theorem taWR(x:Value)(w:World):(Instr.typeAssert (.iface 117 x) 100 115 true).run Tryz.prog w= .ok (.tuple #[.agg #[.int .i64 0,.int .i64 0,.int .i64 0,.int .i64 0,.int .i64 0],.bool false]) w:=by kernel_rfl
theorem taWM(x:Value)(w:World):(Instr.typeAssert (.iface 117 x) 100 116 true).run Tryz.prog w= .ok (.tuple #[.agg #[.int .i64 0,.int .i64 0,.int .i64 0,.int .i64 0,.int .i64 0],.bool false]) w:=by kernel_rfl
theorem taNR(x:Value)(w:World):(Instr.typeAssert (.iface 118 x) 100 115 true).run Tryz.prog w= .ok (.tuple #[.agg #[.int .i64 0,.int .i64 0,.int .i64 0,.int .i64 0,.int .i64 0],.bool false]) w:=by kernel_rfl
theorem taNM(x:Value)(w:World):(Instr.typeAssert (.iface 118 x) 100 116 true).run Tryz.prog w= .ok (.tuple #[.agg #[.int .i64 0,.int .i64 0,.int .i64 0,.int .i64 0,.int .i64 0],.bool false]) w:=by kernel_rfl
/-- What recordOf tells. -/
def recIt(q t k v n:Int):Value:=if q=1 then .agg #[.int .i64 1,.int .i64 t,.int .i64 k,.int .i64 v,.int .i64 n]else .agg #[.int .i64 0,.int .i64 0,.int .i64 0,.int .i64 0,.int .i64 0]
theorem recIt_1(t k v n:Int):recIt 1 t k v n= .agg #[.int .i64 1,.int .i64 t,.int .i64 k,.int .i64 v,.int .i64 n]:=rfl
theorem recIt_n{q:Int}(h:q≠1)(t k v n:Int):recIt q t k v n= .agg #[.int .i64 0,.int .i64 0,.int .i64 0,.int .i64 0,.int .i64 0]:=if_neg h
theorem lD{a b:Value}{c d:Bool}(h:a=b)(k:c=d):Ending.returned (.tuple #[a,.bool c])= .returned (.tuple #[b,.bool d]):=by rw[h,k]
theorem jF(q t k v n:Int)(w:World):Calls Tryz.prog 55 #[eG q t k v n] w fun e w'=>e= .returned (.tuple #[recIt q t k v n,.bool (q==1)])∧Below w.heap.size w w':=by
 by_cases h1:q=1
 ·subst h1
  rw[partV_1]
  have rR:=taRR
  have mR:=taRM
  go_enter Tryz.func55,Tryz.ntmps55
  go_wp2
  refine bodyPost_ret (v:= .tuple #[.agg #[.int .i64 1,.int .i64 t,.int .i64 k,.int .i64 v,.int .i64 n],.bool true]) (nH) rfl ⟨rfl,?_⟩
  exact(aW)
 have hq:=ae (recIt_n h1 t k v n)
 have hp:Hid ((q==1)=false):=ae (by simpa using h1)
 by_cases h2:q=2
 ·subst h2
  rw[partV_2]
  have rM:=taMR
  have mM:=taMM
  go_enter Tryz.func55,Tryz.ntmps55
  go_wp2
  refine bodyPost_ret (v:= .tuple #[.agg #[.int .i64 0,.int .i64 0,.int .i64 0,.int .i64 0,.int .i64 0],.bool false]) (nH) rfl ⟨lD (ab hq).symm (ab hp).symm,?_⟩
  exact(aW)
 by_cases h3:q=3
 ·subst h3
  rw[partV_3]
  have rW:=taWR
  have mW:=taWM
  go_enter Tryz.func55,Tryz.ntmps55
  go_wp2
  refine bodyPost_ret (v:= .tuple #[.agg #[.int .i64 0,.int .i64 0,.int .i64 0,.int .i64 0,.int .i64 0],.bool false]) (nH) rfl ⟨lD (ab hq).symm (ab hp).symm,?_⟩
  exact(aW)
 ·rw[partV_n h1 h2 h3]
  have rN:=taNR
  have mN:=taNM
  clear h1 h2 h3
  go_enter Tryz.func55,Tryz.ntmps55
  go_wp2
  refine bodyPost_ret (v:= .tuple #[.agg #[.int .i64 0,.int .i64 0,.int .i64 0,.int .i64 0,.int .i64 0],.bool false]) (nH) rfl ⟨lD (ab hq).symm (ab hp).symm,?_⟩
  exact(aW)
def dd(q t k v n:Int):Bool:=(q==1)&&dg t k v n
theorem isRecB_n{q:Int}(h:q≠1)(t k v n:Int):dd q t k v n=false:=by simp[dd,h]
theorem isRecB_1(t k v n:Int):dd 1 t k v n=dg t k v n:=by simp[dd]
theorem okItm_rec(t k v n:Int):eF 1 t k v n=dg t k v n:=rfl
set_option maxHeartbeats 1000000 in
theorem isrec_any(q t k v n:Int)(w:World):Calls Tryz.prog 28 #[.agg #[.int .i64 q,.int .i64 t,.int .i64 k,.int .i64 v,.int .i64 n]] w fun e' w'=>e'= .returned (.bool (dd q t k v n))∧Below w.heap.size w w':=by
 by_cases h1:q=1
 ·subst h1
  have hq:=ae ((isRecB_1 t k v n).trans (okItm_rec t k v n).symm)
  have hr:=recIt_1 t k v n
  go_enter Tryz.func28,Tryz.ntmps28
  go_wp2_with (first
   |(go_at_call 56;refine(dX _ _ _ _ _ _).mono ?_;rintro e w' ⟨rfl,hb⟩;obtain⟨hc,hf,hs⟩:=az hb;(try have hz0:=zA hb w.heap.size);(try have hz1:=zA hb (w.heap.size+1)))
   |(go_at_call 55;refine(jF _ _ _ _ _ _).mono ?_;rintro e w' ⟨rfl,hb⟩;obtain⟨hc,hf,hs⟩:=az hb;(try have hz0:=zA hb w.heap.size);(try have hz1:=zA hb (w.heap.size+1)))
   |(go_at_call 57;refine(iT _ _ _ _ _ _).mono ?_;rintro e w' ⟨rfl,hb⟩;obtain⟨hc,hf,hs⟩:=az hb;(try have hz0:=zA hb w.heap.size);(try have hz1:=zA hb (w.heap.size+1))))
  go_ret
  exact⟨aD (ab hq).symm,(bC)⟩
 ·have hq:=ae (isRecB_n h1 t k v n)
  have hr:=recIt_n h1 t k v n
  have h1':(q==1)=false:=by simpa using h1
  clear h1
  go_enter Tryz.func28,Tryz.ntmps28
  go_wp2_with (first
   |(go_at_call 56;refine(dX _ _ _ _ _ _).mono ?_;rintro e w' ⟨rfl,hb⟩;obtain⟨hc,hf,hs⟩:=az hb;(try have hz0:=zA hb w.heap.size);(try have hz1:=zA hb (w.heap.size+1)))
   |(go_at_call 55;refine(jF _ _ _ _ _ _).mono ?_;rintro e w' ⟨rfl,hb⟩;obtain⟨hc,hf,hs⟩:=az hb;(try have hz0:=zA hb w.heap.size);(try have hz1:=zA hb (w.heap.size+1)))
   |(go_at_call 57;refine(iT _ _ _ _ _ _).mono ?_;rintro e w' ⟨rfl,hb⟩;obtain⟨hc,hf,hs⟩:=az hb;(try have hz0:=zA hb w.heap.size);(try have hz1:=zA hb (w.heap.size+1))))
  go_ret
  exact⟨aD (ab hq).symm,(bC)⟩
/-- A row of 7 numbers. -/
structure gv where
 kd:Int
 tm:Int
 ke:Int
 va:Int
 nn:Int
 st:Int
 en:Int
/-- A row lies in its cells; rows lie one behind the other; a slice's value holds rows. -/
def kD(W:World)(g o:Nat)(x:gv):Prop:=W.cell? ⟨g,o,none⟩=some (.int .i64 x.kd)∧W.cell? ⟨g,o+1,none⟩=some (.int .i64 x.tm)∧W.cell? ⟨g,o+2,none⟩=some (.int .i64 x.ke)∧W.cell? ⟨g,o+3,none⟩=some (.int .i64 x.va)∧W.cell? ⟨g,o+4,none⟩=some (.int .i64 x.nn)∧W.cell? ⟨g,o+5,none⟩=some (.int .i64 x.st)∧W.cell? ⟨g,o+6,none⟩=some (.int .i64 x.en)
def iB(W:World)(g o:Nat)(xs:List gv):Prop:=∀i x,xs[i]? =some x→kD W g (o+i*7) x
def LpRs(W:World)(a:Option Addr)(len:Nat)(xs:List gv):Prop:=xs.length=len∧len≤maxLen∧(len=0∨∃g o,a=some ⟨g,o,none⟩∧iB W g o xs)
theorem kD.lt{W:World}{g o:Nat}{x:gv}(h:kD W g o x):g<W.heap.size:=by
 obtain⟨h0,_⟩:=h
 rcases Nat.lt_or_ge g W.heap.size with hl|hg
 ·exact hl
 ·simp[World.cell?,Array.getElem?_eq_none hg]at h0
theorem iB.lt{W:World}{g o:Nat}{xs:List gv}(h:iB W g o xs)(hp:0<xs.length):g<W.heap.size:=(h 0 xs[0] (List.getElem?_eq_getElem hp)).lt
theorem kD.below{W W':World}{B g o:Nat}{x:gv}(h:kD W g o x)(hb:Below B W W')(hg:g<B):kD W' g o x:=by
 obtain⟨h0,h1,h2,h3,h4,h5,h6⟩:=h
 exact⟨(hb.cell (p:=⟨g,_,none⟩) hg).trans h0,(hb.cell (p:=⟨g,_,none⟩) hg).trans h1,(hb.cell (p:=⟨g,_,none⟩) hg).trans h2,(hb.cell (p:=⟨g,_,none⟩) hg).trans h3,(hb.cell (p:=⟨g,_,none⟩) hg).trans h4,(hb.cell (p:=⟨g,_,none⟩) hg).trans h5,(hb.cell (p:=⟨g,_,none⟩) hg).trans h6⟩
theorem iB.below{W W':World}{B g o:Nat}{xs:List gv}(h:iB W g o xs)(hb:Below B W W')(hg:0<xs.length→g<B):iB W' g o xs:=by
 intro i x hx
 have hlt:i<xs.length:=(List.getElem?_eq_some_iff.1 hx).1
 exact(h i x hx).below hb (hg (by omega))
theorem LpRs.below{W W':World}{a:Option Addr}{len:Nat}{xs:List gv}(h:LpRs W a len xs)(hb:Below W.heap.size W W'):LpRs W' a len xs:=by
 obtain⟨h1,h2,h3⟩:=h
 refine⟨h1,h2,?_⟩
 rcases h3 with h3|⟨g,o,ha,hr⟩
 ·exact Or.inl h3
 ·exact Or.inr ⟨g,o,ha,hr.below hb (fun hp=>hr.lt hp)⟩
def BlkLp(W:World)(g ty len:Nat):Prop:=∃cur,W.heap[g]? =some (.cells cur ty (0,0))∧cur.size=len*7
/-- The cells of rows; a slice of the call's own that holds rows. -/
def gv.cells(x:gv):List Value:=[.int .i64 x.kd,.int .i64 x.tm,.int .i64 x.ke,.int .i64 x.va,.int .i64 x.nn,.int .i64 x.st,.int .i64 x.en]
def dF(xs:List gv):List Value:=xs.flatMap gv.cells
theorem flatLp_snoc(xs:List gv)(x:gv):dF (xs++[x])=dF xs++x.cells:=by simp[dF]
theorem flatLp_get{xs:List gv}{i:Nat}{x:gv}(h:xs[i]? =some x):(dF xs)[i*7]? =some (.int .i64 x.kd)∧(dF xs)[i*7+1]? =some (.int .i64 x.tm)∧(dF xs)[i*7+2]? =some (.int .i64 x.ke)∧(dF xs)[i*7+3]? =some (.int .i64 x.va)∧(dF xs)[i*7+4]? =some (.int .i64 x.nn)∧(dF xs)[i*7+5]? =some (.int .i64 x.st)∧(dF xs)[i*7+6]? =some (.int .i64 x.en):=by
 induction xs generalizing i with
 |nil=>simp at h
 |cons y r ih=>
  have hf:dF (y :: r)=y.cells++dF r:=rfl
  cases i with
  |zero=>
   simp at h
   subst h
   rw[hf]
   exact⟨rfl,rfl,rfl,rfl,rfl,rfl,rfl⟩
  |succ i=>
   simp at h
   obtain⟨h0,h1,h2,h3,h4,h5,h6⟩:=ih h
   have hl:y.cells.length=7:=rfl
   rw[hf]
   refine⟨?_,?_,?_,?_,?_,?_,?_⟩
   ·rw[List.getElem?_append_right (by omega),hl,show(i+1)*7 - 7=i*7 by omega];exact h0
   ·rw[List.getElem?_append_right (by omega),hl,show(i+1)*7+1 - 7=i*7+1 by omega];exact h1
   ·rw[List.getElem?_append_right (by omega),hl,show(i+1)*7+2 - 7=i*7+2 by omega];exact h2
   ·rw[List.getElem?_append_right (by omega),hl,show(i+1)*7+3 - 7=i*7+3 by omega];exact h3
   ·rw[List.getElem?_append_right (by omega),hl,show(i+1)*7+4 - 7=i*7+4 by omega];exact h4
   ·rw[List.getElem?_append_right (by omega),hl,show(i+1)*7+5 - 7=i*7+5 by omega];exact h5
   ·rw[List.getElem?_append_right (by omega),hl,show(i+1)*7+6 - 7=i*7+6 by omega];exact h6
def bT(W:World)(B:Nat)(v:Value)(ys:List gv):Prop:=W.ownsRow B 59 7 v ys.length (dF ys)
theorem gL{w1:World}{B:Nat}{v':Value}{ys:List gv}{x:gv}(ho:w1.ownsRow B 59 7 v' (ys.length+1) (dF ys++x.cells)):bT w1 B v' (ys++[x]):=by
 unfold bT
 rw[flatLp_snoc]
 simpa using ho
theorem fR(w:World)(kd tm ke va nn st en:Int)(ty:Nat):∀j u,([.int .i64 kd,.int .i64 tm,.int .i64 ke,.int .i64 va,.int .i64 nn,.int .i64 st,.int .i64 en]:List Value)[j]? =some u→(w.alloc (.cells #[.int .i64 kd,.int .i64 tm,.int .i64 ke,.int .i64 va,.int .i64 nn,.int .i64 st,.int .i64 en] ty)).cell? ((⟨w.heap.size,0,none⟩:Addr).add j)=some u:=by
 intro j u hj
 have e:((⟨w.heap.size,0,none⟩:Addr).add j)=⟨w.heap.size,j,none⟩:=by
  unfold Addr.add
  split
  ·rename_i h0;rw[h0]
  ·simp
 rw[e]
 simpa[go_sem]using hj
def WrLp(W:World)(a:Option Addr)(n cap:Nat):Prop:=n=0∨∃g,a=some ⟨g,0,none⟩∧BlkLp W g 59 cap∧n≤cap
theorem lE{W:World}{B:Nat}{v:Value}{ys:List gv}(h:bT W B v ys)(hl:ys.length≤1048576):
  ∃a cap,v= .slice a ys.length cap∧LpRs W a ys.length ys∧WrLp W a ys.length cap∧∀g o,0<ys.length→a=some ⟨g,o,none⟩→B≤g:=by
 have hm:ys.length≤maxLen:=by unfold maxLen;omega
 obtain⟨hlen,h|⟨g,cap,cur,rfl,hB,hblk,hnc,hcm,hsz,htk⟩⟩:=h
 ·obtain⟨rfl,h0⟩:=h
  rw[h0]
  exact⟨none,0,rfl,⟨h0,Nat.zero_le _,Or.inl rfl⟩,Or.inl rfl,fun _ _ hp=>by omega⟩
 ·refine⟨_,cap,rfl,⟨rfl,hm,Or.inr ⟨g,0,rfl,?_⟩⟩,Or.inr ⟨g,rfl,⟨cur,hblk,hsz⟩,hnc⟩,fun g' o' _ e=>by simp at e;omega⟩
  intro i x hx
  have hi:i<ys.length:=(List.getElem?_eq_some_iff.1 hx).1
  have hcell:∀j u,j<ys.length*7→(dF ys)[j]? =some u→W.cell? ⟨g,j,none⟩=some u:=by
   intro j u hj hu
   rw[cA hblk j,←Array.getElem?_toList]
   rw[←htk,List.getElem?_take_of_lt hj]at hu
   exact hu
  obtain⟨f0,f1,f2,f3,f4,f5,f6⟩:=flatLp_get hx
  rw[Nat.zero_add]
  exact⟨hcell _ _ (by omega) f0,hcell _ _ (by omega) f1,hcell _ _ (by omega) f2,hcell _ _ (by omega) f3,hcell _ _ (by omega) f4,hcell _ _ (by omega) f5,hcell _ _ (by omega) f6⟩
end Go.Proofs.YtdmhihcipkhecaaGreat
namespace Go.Proofs.YtdmhihcipkhecaaGreat
open Go.ChangeShapes Go.WideShapes Go.ChangeAt Go.RowKit Go.Deep
theorem Tryz.infoLp:(Tryz.prog.info? 59).map (fun i=>(i.zero,i.size,i.bytes))=some (some (.agg #[.int .i64 0,.int .i64 0,.int .i64 0,.int .i64 0,.int .i64 0,.int .i64 0,.int .i64 0]),7,56):=by kernel_rfl
end Go.Proofs.YtdmhihcipkhecaaGreat
namespace Go.Proofs.YtdmhihcipkhecaaGreat
open Go.ChangeShapes Go.WideShapes Go.ChangeAt Go.RowKit
theorem l4of_any(s t k z p l e:Int)(b:Bool)(v r:Int)(T:Int)(w:World)(hj:aV s t k z p l e v r=true)(hT:0≤T∧T≤60):Calls Tryz.prog 62 #[.agg #[.int .i64 s,.int .i64 t,.int .i64 k,.int .i64 z,.int .i64 p,.int .i64 l,.int .i64 e,.bool b,.int .i64 v,.int .i64 r],.int .i64 T] w fun e' w'=>∃v',e'= .returned v'∧db w' w.heap.size v' (aQ k z p T)∧Below w.heap.size w w':=by
 obtain⟨hk,hz,hp⟩:=bN hj
 rcases(show k=1∨k=2∨k=3 by omega)with rfl|rfl|rfl
 ·exact l4_1 s t z p l e b v r T hT hz w
 ·rw[winsOf_2]
  exact jY s t 2 z p l e b v r T hT hz (stepB_in hz hp) rfl w
 ·exact l4_3 s t z p l e b v r T hT hz w
end Go.Proofs.YtdmhihcipkhecaaGreat
