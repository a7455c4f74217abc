/- Laid together: what the claim needs of the texts that were built one by one. -/
import Derived.Test.YtdmhihcipkhecaaR2
import Derived.Test.YtdmhihcipkhecaaR5
import Derived.Test.YtdmhihcipkhecaaR0
import Derived.Deep.Onto
import Derived.Maps.Own
import Derived.Test.YtdmhihcipkhecaaRows
import Derived.Deep.Slices
import Derived.Lib.SmallJoins
import Derived.OwnWalk
import Derived.WalkSpells
import Derived.Deep.RegionHeld3
import Derived.Test.YtdmhihcipkhecaaR6
set_option linter.unusedVariables false
namespace Go.Proofs.Ytdmhihcipkhecaa
open Go.ChangeShapes Go.WideShapes Go.ChangeAt Go.RowKit
/-- The windows that slide, from a start on. -/
def cn(z p t:Int):Nat→Int→List dF
 |0,_=>[]
 |n+1,s=>if s≤t then(if t<s+z then⟨s,s+z⟩ :: cn z p t n (s+p)else cn z p t n (s+p))else []
theorem slideGo_end{z p t:Int}{n:Nat}{s:Int}(h:¬ s≤t):cn z p t n s=[]:=by
 cases n with
 |zero=>rfl
 |succ n=>exact if_neg h
theorem slideGo_in{z p t:Int}{n:Nat}{s:Int}(h:s≤t)(h2:t<s+z):cn z p t (n+1) s=⟨s,s+z⟩ :: cn z p t n (s+p):=by
 show(if s≤t then _ else _)=_
 rw[if_pos h,if_pos h2]
theorem slideGo_out{z p t:Int}{n:Nat}{s:Int}(h:s≤t)(h2:¬ t<s+z):cn z p t (n+1) s=cn z p t n (s+p):=by
 show(if s≤t then _ else _)=_
 rw[if_pos h,if_neg h2]
theorem slideGo_len(z p t:Int)(n:Nat)(s:Int):(cn z p t n s).length≤n:=by
 induction n generalizing s with
 |zero=>exact Nat.le_refl _
 |succ n ih=>
  have:=ih (s+p)
  show(if s≤t then _ else _:List dF).length≤_
  split
  ·split
   ·simp;omega
   ·omega
  ·simp
/-- The windows of a time. -/
def bV(k z p t:Int):List dF:=if k=1 then [⟨t - t % z,t - t % z+z⟩]else if k=3 then [⟨t,t+z⟩]else cn z p t 61 0
theorem snocW(total ys rest:List dF)(x:dF)(h:total=ys++x :: rest):total=(ys++[x])++rest:=by rw[h];simp
theorem Try.infoWin:(Try.prog.info? 38).map (fun i=>(i.zero,i.size,i.bytes))=some (some (.agg #[.int .i64 0,.int .i64 0]),2,16):=by kernel_rfl
theorem own_lit1{W:World}{B:Nat}(h:B≤W.heap.size)(a b:Int):ed (W.alloc (.cells #[.int .i64 a,.int .i64 b] 38)) B (.slice (some ⟨W.heap.size,0,none⟩) 1 1) [⟨a,b⟩]:=
 World.ownsRow_lit (base:=B) (size:=2) W #[.int .i64 a,.int .i64 b] 1 h (by decide) rfl
theorem World.ownsRow.below{W W':World}{B:Nat}{e:TypeId}{size n:Nat}{v:Value}{xs:List Value}(h:W.ownsRow B e size v n xs)(hb:Below W.heap.size W W'):W'.ownsRow B e size v n xs:=
 h.kept (grown0Wn hb) (by cases h5:v.ownBlock<;>simp)
theorem own_lit0{W:World}{B g:Nat}(h:B≤W.heap.size)(hg:g=W.heap.size):ed (W.alloc (.cells #[] 38)) B (.slice (some ⟨g,0,none⟩) 0 0) []:=by
 subst hg
 exact World.ownsRow_lit (base:=B) (size:=2) W #[] 0 h (by decide) rfl
set_option maxRecDepth 20000 in
set_option maxHeartbeats 2000000 in
theorem jz(s t k z p l e:Int)(b:Bool)(v r:Int)(T:Int)(hT:0≤T∧T≤60)(hz:1≤z∧z≤20)(hp:1≤p∧p≤20)(hk:k=2)(w:World):Calls Try.prog 69 #[.agg #[.int .i64 s,.int .i64 t,.int .i64 k,.int .i64 z,.int .i64 p,.int .i64 l,.int .i64 e,.bool b,.int .i64 v,.int .i64 r],.int .i64 T] w fun e' w'=>∃v',e'= .returned v'∧ed w' w.heap.size v' (cn z p T 61 0)∧Below w.heap.size w w':=by
 subst hk
 obtain⟨i0,hi,hz0,hz1,hz2⟩:=info_parts Try.infoWin
 go_enter Try.func69,Try.ntmps69
 go_wp2
 go_loopw [5,6] (fun v' s' wr=>∃(st:Int) (n:Nat) (ys:List dF),s'= .int .i64 st∧0≤st∧st≤80∧T+1≤st+n∧n+ys.length≤61∧Hid (cn z p T 61 0=ys++cn z p T n st)∧ed wr (w.heap.size+1) v' ys∧Below (w.heap.size+1) (w.alloc (.cells #[.int .i64 s,.int .i64 t,.int .i64 2,.int .i64 z,.int .i64 p,.int .i64 l,.int .i64 e,.bool b,.int .i64 v,.int .i64 r] 24)) wr) (fun _ s' _=>(T+1 - intOf s').toNat)
 case atStart=>exact⟨0,61,[],rfl,by omega,by omega,by omega,by simp,ae rfl,own_lit0 (W:=(w.alloc (.cells #[.int .i64 s,.int .i64 t,.int .i64 2,.int .i64 z,.int .i64 p,.int .i64 l,.int .i64 e,.bool b,.int .i64 v,.int .i64 r] 24))) (B:=w.heap.size+1) (by simp) (by simp),(Below.refl (w.heap.size+1) (w.alloc (.cells #[.int .i64 s,.int .i64 t,.int .i64 2,.int .i64 z,.int .i64 p,.int .i64 l,.int .i64 e,.bool b,.int .i64 v,.int .i64 r] 24))).alloc (by simp) _⟩
 case round=>
  obtain⟨st,n,ys,rfl,hs0,hs1,hsn,hyn,HQ,hO,hbw⟩:=hrel
  have hws:w.heap.size+1≤wr.heap.size:=by have:=hbw.size;simpa using this
  have hgs:w.heap.size<wr.heap.size:=by omega
  have c0:wr.cell? ⟨w.heap.size,0,none⟩=some (.int .i64 s):=(hbw.cell (p:=⟨w.heap.size,0,none⟩) (by simp)).trans (ne)
  have c1:wr.cell? ⟨w.heap.size,1,none⟩=some (.int .i64 t):=(hbw.cell (p:=⟨w.heap.size,1,none⟩) (by simp)).trans (ne)
  have c2:wr.cell? ⟨w.heap.size,2,none⟩=some (.int .i64 2):=(hbw.cell (p:=⟨w.heap.size,2,none⟩) (by simp)).trans (ne)
  have c3:wr.cell? ⟨w.heap.size,3,none⟩=some (.int .i64 z):=(hbw.cell (p:=⟨w.heap.size,3,none⟩) (by simp)).trans (ne)
  have c4:wr.cell? ⟨w.heap.size,4,none⟩=some (.int .i64 p):=(hbw.cell (p:=⟨w.heap.size,4,none⟩) (by simp)).trans (ne)
  have c5:wr.cell? ⟨w.heap.size,5,none⟩=some (.int .i64 l):=(hbw.cell (p:=⟨w.heap.size,5,none⟩) (by simp)).trans (ne)
  have c6:wr.cell? ⟨w.heap.size,6,none⟩=some (.int .i64 e):=(hbw.cell (p:=⟨w.heap.size,6,none⟩) (by simp)).trans (ne)
  have c7:wr.cell? ⟨w.heap.size,7,none⟩=some (.bool b):=(hbw.cell (p:=⟨w.heap.size,7,none⟩) (by simp)).trans (ne)
  have c8:wr.cell? ⟨w.heap.size,8,none⟩=some (.int .i64 v):=(hbw.cell (p:=⟨w.heap.size,8,none⟩) (by simp)).trans (ne)
  have c9:wr.cell? ⟨w.heap.size,9,none⟩=some (.int .i64 r):=(hbw.cell (p:=⟨w.heap.size,9,none⟩) (by simp)).trans (ne)
  have HO:=ae hO
  have hge:=ae (ownWn_ge hO)
  clear hO
  by_cases h1:st≤T
  ·obtain⟨n,rfl⟩:∃m,n=m+1:=⟨n - 1,by omega⟩
   by_cases h2:T<st+z
   ·have HQ2:=ae (snocW _ _ _ _ ((ab HQ).trans (by rw[slideGo_in h1 h2])))
    clear HQ
    go_wp2_with (first
     |(at_builtin;go_loud (refine wpList_append_own _ rfl _ _ 110 rfl (w.heap.size+1) 38 i0 _ 2 16 Try.underlying110 hi hz0 hz1 hz2 rfl (by decide) u5 _ _ rfl (World.ownsRow.alloc (ab HO) _) ⟨wr.heap.size,0,none⟩ 1 1 [.int .i64 st,.int .i64 (st+z)] rfl rfl (cells_newWn wr st (st+z) _) (na) (by unfold maxLen;omega) (by omega) (by have:=hbw.size;simp at this ⊢;omega) ?_);intro v' w1 hown' lK _;go_loud (have hb1:=(hbw.alloc hws _).grown lK (nh) (ab hge));go_loud (have d4:w1.cell? ⟨w.heap.size,4,none⟩=some (.int .i64 p):=(hb1.cell (p:=⟨w.heap.size,4,none⟩) (by simp)).trans (ne))))
    go_roundw
    case rel=>exact⟨st+p,n,ys++[⟨st,st+z⟩],rfl,by omega,by omega,by omega,by simp;omega,HQ2,ownWn_snoc (x:=⟨st,st+z⟩) hown',hb1⟩
    case measure=>simp[intOf];omega
   ·have HQ2:=ae ((ab HQ).trans (by rw[slideGo_out h1 h2]))
    clear HQ
    go_wp2
    go_roundw
    case rel=>exact⟨st+p,n,ys,rfl,by omega,by omega,by omega,by omega,HQ2,ab HO,hbw⟩
    case measure=>simp[intOf];omega
  ·have HQ2:Hid (cn z p T 61 0=ys):=ae ((ab HQ).trans (by rw[slideGo_end h1];simp))
   clear HQ
   go_wp2
   go_ret
   refine⟨_,rfl,?_,?_⟩
   ·rw[ab HQ2];exact World.ownsRow.mono (ab HO) (by omega)
   ·exact ap (ax _ _) (by simpa using hbw)
end Go.Proofs.Ytdmhihcipkhecaa
namespace Go.Proofs.Ytdmhihcipkhecaa
open Go.ChangeShapes Go.WideShapes Go.ChangeAt Go.RowKit Go.Maps
theorem iu{s t k z p l e v r:Int}(h:aX s t k z p l e v r=true):(1≤k∧k≤3)∧(1≤z∧z≤20)∧fV k z p=true:=by
 simp only[aX,Bool.and_eq_true]at h
 obtain⟨⟨⟨⟨⟨⟨⟨⟨h1,h2⟩,h3⟩,h4⟩,h5⟩,h6⟩,h7⟩,h8⟩,h9⟩:=h
 exact⟨bB.1 h3,bB.1 h4,h5⟩
theorem stepB_in{z p:Int}(hz:1≤z∧z≤20)(h:fV 2 z p=true):1≤p∧p≤20:=by
 rw[km,Bool.and_eq_true]at h
 have:=bB.1 h.1
 omega
theorem winsOf_1(z p T:Int):bV 1 z p T=[⟨T - T % z,T - T % z+z⟩]:=rfl
theorem winsOf_2(z p T:Int):bV 2 z p T=cn z p T 61 0:=rfl
theorem winsOf_3(z p T:Int):bV 3 z p T=[⟨T,T+z⟩]:=rfl
theorem jT{W:World}{B g:Nat}(h:B≤W.heap.size)(hg:g=W.heap.size)(a b:Int):ed (W.alloc (.cells #[.int .i64 a,.int .i64 b] 38)) B (.slice (some ⟨g,0,none⟩) 1 1) [⟨a,b⟩]:=by
 subst hg;exact own_lit1 h a b
theorem l4_1(s t z p l e:Int)(b:Bool)(v r:Int)(T:Int)(hT:0≤T∧T≤60)(hz:1≤z∧z≤20)(w:World):Calls Try.prog 69 #[.agg #[.int .i64 s,.int .i64 t,.int .i64 1,.int .i64 z,.int .i64 p,.int .i64 l,.int .i64 e,.bool b,.int .i64 v,.int .i64 r],.int .i64 T] w fun e' w'=>∃v',e'= .returned v'∧ed w' w.heap.size v' (bV 1 z p T)∧Below w.heap.size w w':=by
 have hmod:0≤T % z∧T % z≤T:=⟨Int.emod_nonneg _ (by omega),by have:=Int.emod_add_mul_ediv T z;have:=Int.ediv_nonneg (a:=T) (b:=z) (by omega) (by omega);have:=Int.mul_nonneg (a:=z) (b:=T / z) (by omega) (by omega);omega⟩
 rw[winsOf_1]
 have hwr:IntKind.i64.wrap (T - T % z)=T - T % z:=IntWalk.i64_in _ (by omega)
 have hwr2:IntKind.i64.wrap (T - T % z+z)=T - T % z+z:=IntWalk.i64_in _ (by omega)
 go_enter Try.func69,Try.ntmps69
 go_wp2
 go_region
 all_goals go_wp2
 all_goals
  go_ret
  exact⟨_,rfl,jT (by simp) (by simp) _ _,(bx)⟩
theorem l4_3(s t z p l e:Int)(b:Bool)(v r:Int)(T:Int)(hT:0≤T∧T≤60)(hz:1≤z∧z≤20)(w:World):Calls Try.prog 69 #[.agg #[.int .i64 s,.int .i64 t,.int .i64 3,.int .i64 z,.int .i64 p,.int .i64 l,.int .i64 e,.bool b,.int .i64 v,.int .i64 r],.int .i64 T] w fun e' w'=>∃v',e'= .returned v'∧ed w' w.heap.size v' (bV 3 z p T)∧Below w.heap.size w w':=by
 have hmod:0≤T % z∧T % z≤T:=⟨Int.emod_nonneg _ (by omega),by have:=Int.emod_add_mul_ediv T z;have:=Int.ediv_nonneg (a:=T) (b:=z) (by omega) (by omega);have:=Int.mul_nonneg (a:=z) (b:=T / z) (by omega) (by omega);omega⟩
 rw[winsOf_3]
 have hwr:IntKind.i64.wrap (T - T % z)=T - T % z:=IntWalk.i64_in _ (by omega)
 have hwr2:IntKind.i64.wrap (T - T % z+z)=T - T % z+z:=IntWalk.i64_in _ (by omega)
 go_enter Try.func69,Try.ntmps69
 go_wp2
 all_goals
  go_ret
  exact⟨_,rfl,jT (by simp) (by simp) _ _,(bx)⟩
end Go.Proofs.Ytdmhihcipkhecaa
namespace Go.Proofs.Ytdmhihcipkhecaa
open Go.ChangeShapes Go.WideShapes Go.ChangeAt Go.RowKit
/-- When a record, a mark, a wall, an item is ok. -/
def fo(t k v n:Int):Bool:=bz t 0 60&&bz k 0 3&&bz v (-9) 9&&(n==0)
def db(t k v n:Int):Bool:=(bz t 1 60||t==1000)&&(k==0)&&(v==0)&&(n==0)
def kX(t k v n:Int):Bool:=bz n 1 900&&(t==0)&&(k==0)&&(v==0)
def dN(t k v n:Int):Bool:=(t==0)&&(k==0)&&(v==0)&&bz n 1 900
def gL(q t k v n:Int):Bool:=if q=1 then fo t k v n else if q=2 then db t k v n else if q=3 then kX t k v n else false
theorem okWall_eq(t k v n:Int):dN t k v n=kX t k v n:=by
 unfold dN kX
 cases bz n 1 900<;>cases (t==0)<;>cases (k==0)<;>cases (v==0)<;>rfl
theorem okItm_1(t k v n:Int):gL 1 t k v n=fo t k v n:=rfl
theorem okItm_2(t k v n:Int):gL 2 t k v n=db t k v n:=rfl
theorem okItm_3(t k v n:Int):gL 3 t k v n=kX t k v n:=rfl
theorem okItm_n{q:Int}(h1:q≠1)(h2:q≠2)(h3:q≠3)(t k v n:Int):gL q t k v n=false:=by unfold gL;rw[if_neg h1,if_neg h2,if_neg h3]
set_option maxHeartbeats 1000000 in
theorem specitm_any(q t k v n:Int)(w:World):Calls Try.prog 61 #[.agg #[.int .i64 q,.int .i64 t,.int .i64 k,.int .i64 v,.int .i64 n]] w fun e w'=>e= .returned (.bool (gL q t k v n))∧Below w.heap.size w w':=by
 by_cases h1:q=1
 ·subst h1
  rw[okItm_1]
  cases c0:bz t 0 60
  ·have hq:Hid (fo t k v n=false):=ae (by simp[fo,c0])
   go_enter Try.func61,Try.ntmps61
   go_wp2_with (go_at_call 21;refine(aF _ _ _ _).mono ?_;rintro e w' ⟨rfl,rfl⟩)
   go_ret
   exact⟨aG (ab hq).symm,(bu)⟩
  ·cases c1:bz k 0 3
   ·have hq:Hid (fo t k v n=false):=ae (by simp[fo,c0,c1])
    go_enter Try.func61,Try.ntmps61
    go_wp2_with (go_at_call 21;refine(aF _ _ _ _).mono ?_;rintro e w' ⟨rfl,rfl⟩)
    go_ret
    exact⟨aG (ab hq).symm,(bu)⟩
   ·cases c2:bz v (-9) 9
    ·have hq:Hid (fo t k v n=false):=ae (by simp[fo,c0,c1,c2])
     go_enter Try.func61,Try.ntmps61
     go_wp2_with (go_at_call 21;refine(aF _ _ _ _).mono ?_;rintro e w' ⟨rfl,rfl⟩)
     go_ret
     exact⟨aG (ab hq).symm,(bu)⟩
    ·have hq:Hid (fo t k v n=(n==0)):=ae (by simp[fo,c0,c1,c2])
     go_enter Try.func61,Try.ntmps61
     go_wp2_with (go_at_call 21;refine(aF _ _ _ _).mono ?_;rintro e w' ⟨rfl,rfl⟩)
     go_ret
     exact⟨aG (ab hq).symm,(bu)⟩
 by_cases h2:q=2
 ·subst h2
  rw[okItm_2]
  cases m0:bz t 1 60
  ·cases m1:(t==1000)
   ·have hq:Hid (db t k v n=false):=ae (by simp[db,m0,m1])
    go_enter Try.func61,Try.ntmps61
    go_wp2_with (go_at_call 21;refine(aF _ _ _ _).mono ?_;rintro e w' ⟨rfl,rfl⟩)
    go_ret
    exact⟨aG (ab hq).symm,(bu)⟩
   ·cases c0:(k==0)
    ·have hq:Hid (db t k v n=false):=ae (by simp[db,m0,m1,c0])
     go_enter Try.func61,Try.ntmps61
     go_wp2_with (go_at_call 21;refine(aF _ _ _ _).mono ?_;rintro e w' ⟨rfl,rfl⟩)
     go_ret
     exact⟨aG (ab hq).symm,(bu)⟩
    ·cases c1:(v==0)
     ·have hq:Hid (db t k v n=false):=ae (by simp[db,m0,m1,c0,c1])
      go_enter Try.func61,Try.ntmps61
      go_wp2_with (go_at_call 21;refine(aF _ _ _ _).mono ?_;rintro e w' ⟨rfl,rfl⟩)
      go_ret
      exact⟨aG (ab hq).symm,(bu)⟩
     ·have hq:Hid (db t k v n=(n==0)):=ae (by simp[db,m0,m1,c0,c1])
      go_enter Try.func61,Try.ntmps61
      go_wp2_with (go_at_call 21;refine(aF _ _ _ _).mono ?_;rintro e w' ⟨rfl,rfl⟩)
      go_ret
      exact⟨aG (ab hq).symm,(bu)⟩
  ·cases c0:(k==0)
   ·have hq:Hid (db t k v n=false):=ae (by simp[db,m0,c0])
    go_enter Try.func61,Try.ntmps61
    go_wp2_with (go_at_call 21;refine(aF _ _ _ _).mono ?_;rintro e w' ⟨rfl,rfl⟩)
    go_ret
    exact⟨aG (ab hq).symm,(bu)⟩
   ·cases c1:(v==0)
    ·have hq:Hid (db t k v n=false):=ae (by simp[db,m0,c0,c1])
     go_enter Try.func61,Try.ntmps61
     go_wp2_with (go_at_call 21;refine(aF _ _ _ _).mono ?_;rintro e w' ⟨rfl,rfl⟩)
     go_ret
     exact⟨aG (ab hq).symm,(bu)⟩
    ·have hq:Hid (db t k v n=(n==0)):=ae (by simp[db,m0,c0,c1])
     go_enter Try.func61,Try.ntmps61
     go_wp2_with (go_at_call 21;refine(aF _ _ _ _).mono ?_;rintro e w' ⟨rfl,rfl⟩)
     go_ret
     exact⟨aG (ab hq).symm,(bu)⟩
 have g1:(q==1)=false:=by simpa using h1
 have g2:(q==2)=false:=by simpa using h2
 by_cases h3:q=3
 ·subst h3
  rw[okItm_3,←okWall_eq]
  clear g1 g2
  cases c0:(t==0)
  ·have hq:Hid (dN t k v n=false):=ae (by simp[dN,c0])
   go_enter Try.func61,Try.ntmps61
   go_wp2_with (go_at_call 21;refine(aF _ _ _ _).mono ?_;rintro e w' ⟨rfl,rfl⟩)
   go_ret
   exact⟨aG (ab hq).symm,(bu)⟩
  ·cases c1:(k==0)
   ·have hq:Hid (dN t k v n=false):=ae (by simp[dN,c0,c1])
    go_enter Try.func61,Try.ntmps61
    go_wp2_with (go_at_call 21;refine(aF _ _ _ _).mono ?_;rintro e w' ⟨rfl,rfl⟩)
    go_ret
    exact⟨aG (ab hq).symm,(bu)⟩
   ·cases c2:(v==0)
    ·have hq:Hid (dN t k v n=false):=ae (by simp[dN,c0,c1,c2])
     go_enter Try.func61,Try.ntmps61
     go_wp2_with (go_at_call 21;refine(aF _ _ _ _).mono ?_;rintro e w' ⟨rfl,rfl⟩)
     go_ret
     exact⟨aG (ab hq).symm,(bu)⟩
    ·have hq:Hid (dN t k v n=bz n 1 900):=ae (by simp[dN,c0,c1,c2])
     go_enter Try.func61,Try.ntmps61
     go_wp2_with (go_at_call 21;refine(aF _ _ _ _).mono ?_;rintro e w' ⟨rfl,rfl⟩)
     go_ret
     exact⟨aG (ab hq).symm,(bu)⟩
 have g3:(q==3)=false:=by simpa using h3
 have hq:Hid (gL q t k v n=false):=ae (okItm_n h1 h2 h3 t k v n)
 clear h1 h2 h3
 go_enter Try.func61,Try.ntmps61
 go_wp2_with (go_at_call 21;refine(aF _ _ _ _).mono ?_;rintro e w' ⟨rfl,rfl⟩)
 go_ret
 exact⟨aG (ab hq).symm,(bu)⟩
def fa(q t k v n:Int):Bool:=(q==1)&&fo t k v n
/-- A row of 7 numbers. -/
structure fY where
 kd:Int
 tm:Int
 ke:Int
 va:Int
 nn:Int
 st:Int
 en:Int
/-- A row lies in its cells; rows lie one behind the other; a slice's value holds rows. -/
def eo(W:World)(g o:Nat)(x:fY):Prop:=W.cell? ⟨g,o,none⟩=some (.int .i64 x.kd)∧W.cell? ⟨g,o+1,none⟩=some (.int .i64 x.tm)∧W.cell? ⟨g,o+2,none⟩=some (.int .i64 x.ke)∧W.cell? ⟨g,o+3,none⟩=some (.int .i64 x.va)∧W.cell? ⟨g,o+4,none⟩=some (.int .i64 x.nn)∧W.cell? ⟨g,o+5,none⟩=some (.int .i64 x.st)∧W.cell? ⟨g,o+6,none⟩=some (.int .i64 x.en)
def gt(W:World)(g o:Nat)(xs:List fY):Prop:=∀i x,xs[i]? =some x→eo W g (o+i*7) x
def LpRs(W:World)(a:Option Addr)(len:Nat)(xs:List fY):Prop:=xs.length=len∧len≤maxLen∧(len=0∨∃g o,a=some ⟨g,o,none⟩∧gt W g o xs)
theorem eo.lt{W:World}{g o:Nat}{x:fY}(h:eo W g o x):g<W.heap.size:=by
 obtain⟨h0,_⟩:=h
 rcases Nat.lt_or_ge g W.heap.size with hl|hg
 ·exact hl
 ·simp[World.cell?,Array.getElem?_eq_none hg]at h0
theorem gt.lt{W:World}{g o:Nat}{xs:List fY}(h:gt W g o xs)(hp:0<xs.length):g<W.heap.size:=(h 0 xs[0] (List.getElem?_eq_getElem hp)).lt
theorem eo.below{W W':World}{B g o:Nat}{x:fY}(h:eo W g o x)(hb:Below B W W')(hg:g<B):eo W' g o x:=by
 obtain⟨h0,h1,h2,h3,h4,h5,h6⟩:=h
 exact⟨(hb.cell (p:=⟨g,_,none⟩) hg).trans h0,(hb.cell (p:=⟨g,_,none⟩) hg).trans h1,(hb.cell (p:=⟨g,_,none⟩) hg).trans h2,(hb.cell (p:=⟨g,_,none⟩) hg).trans h3,(hb.cell (p:=⟨g,_,none⟩) hg).trans h4,(hb.cell (p:=⟨g,_,none⟩) hg).trans h5,(hb.cell (p:=⟨g,_,none⟩) hg).trans h6⟩
theorem gt.below{W W':World}{B g o:Nat}{xs:List fY}(h:gt W g o xs)(hb:Below B W W')(hg:0<xs.length→g<B):gt W' g o xs:=by
 intro i x hx
 have hlt:i<xs.length:=(List.getElem?_eq_some_iff.1 hx).1
 exact(h i x hx).below hb (hg (by omega))
theorem LpRs.below{W W':World}{a:Option Addr}{len:Nat}{xs:List fY}(h:LpRs W a len xs)(hb:Below W.heap.size W W'):LpRs W' a len xs:=by
 obtain⟨h1,h2,h3⟩:=h
 refine⟨h1,h2,?_⟩
 rcases h3 with h3|⟨g,o,ha,hr⟩
 ·exact Or.inl h3
 ·exact Or.inr ⟨g,o,ha,hr.below hb (fun hp=>hr.lt hp)⟩
theorem eo.grown{W W':World}{row:Option Nat}{g o:Nat}{x:fY}(h:eo W g o x)(hg:W.grownBy W' row)(hne:some g≠row):eo W' g o x:=by
 have hbk:=hg.block g h.lt hne
 obtain⟨h0,h1,h2,h3,h4,h5,h6⟩:=h
 exact⟨(World.cell?_of_block (w:=W) hbk).trans h0,(World.cell?_of_block (w:=W) hbk).trans h1,(World.cell?_of_block (w:=W) hbk).trans h2,(World.cell?_of_block (w:=W) hbk).trans h3,(World.cell?_of_block (w:=W) hbk).trans h4,(World.cell?_of_block (w:=W) hbk).trans h5,(World.cell?_of_block (w:=W) hbk).trans h6⟩
theorem LpRs.grown{W W':World}{row:Option Nat}{a:Option Addr}{n:Nat}{xs:List fY}(h:LpRs W a n xs)(hg:W.grownBy W' row)(hne:∀g o,0<n→a=some ⟨g,o,none⟩→some g≠row):LpRs W' a n xs:=by
 obtain⟨h1,h2,h3⟩:=h
 refine⟨h1,h2,?_⟩
 rcases h3 with h3|⟨g,o,ha,hr⟩
 ·exact Or.inl h3
 ·refine Or.inr ⟨g,o,ha,fun i x hx=>(hr i x hx).grown hg (hne g o ?_ ha)⟩
  have hlt:i<xs.length:=(List.getElem?_eq_some_iff.1 hx).1
  omega
theorem LpRs.lt{W:World}{g o n:Nat}{xs:List fY}(h:LpRs W (some ⟨g,o,none⟩) n xs)(hp:0<n):g<W.heap.size:=by
 obtain⟨h1,h2,h3⟩:=h
 obtain⟨g',o',ha,hr⟩:=h3.resolve_left (by omega)
 simp at ha
 have:=hr.lt (by omega)
 omega
/-- A row is stored; a block of rows, known whole. -/
def jU(W:World)(g o:Nat)(x:fY):World:=(((((((W.setCell ⟨g,o,none⟩ (.int .i64 x.kd)).setCell ⟨g,o+1,none⟩ (.int .i64 x.tm)).setCell ⟨g,o+2,none⟩ (.int .i64 x.ke)).setCell ⟨g,o+3,none⟩ (.int .i64 x.va)).setCell ⟨g,o+4,none⟩ (.int .i64 x.nn)).setCell ⟨g,o+5,none⟩ (.int .i64 x.st)).setCell ⟨g,o+6,none⟩ (.int .i64 x.en))
def dj(W:World)(g ty len:Nat):Prop:=∃cur,W.heap[g]? =some (.cells cur ty (0,0))∧cur.size=len*7
theorem dj.set{W:World}{g ty len i:Nat}(h:dj W g ty len)(v:Value):dj (W.setCell ⟨g,i,none⟩ v) g ty len:=by
 obtain⟨cur,h1,h2⟩:=h
 exact⟨_,Joins.block_setCell h1 v,by simp[h2]⟩
theorem dj.below{W W':World}{g ty len B:Nat}(h:dj W g ty len)(hb:Below B W W')(hg:g<B):dj W' g ty len:=by
 obtain⟨cur,h1,h2⟩:=h
 exact⟨cur,(hb.block g hg).trans h1,h2⟩
theorem dj.lt{W:World}{g ty len:Nat}(h:dj W g ty len):g<W.heap.size:=by
 obtain⟨cur,h1,h2⟩:=h
 exact(Array.getElem?_eq_some_iff.1 h1).1
theorem dj.cell{W:World}{g ty len i:Nat}(h:dj W g ty len)(hi:i<len*7):∃u,W.cell? ⟨g,i,none⟩=some u:=by
 obtain⟨cur,h1,h2⟩:=h
 exact⟨_,(cA h1 i).trans (Array.getElem?_eq_getElem (by omega))⟩
theorem dj.frozen{W:World}{g ty len i:Nat}(h:dj W g ty len):W.frozen? ⟨g,i,none⟩=false:=by
 obtain⟨cur,h1,h2⟩:=h
 exact Joins.unfrozen_of_block h1 i
theorem dj.cells{W:World}{g ty len k:Nat}(h:dj W g ty len)(hk:k<len):(∃u,W.cell? ⟨g,k*7,none⟩=some u)∧(∃u,W.cell? ⟨g,k*7+1,none⟩=some u)∧(∃u,W.cell? ⟨g,k*7+2,none⟩=some u)∧(∃u,W.cell? ⟨g,k*7+3,none⟩=some u)∧(∃u,W.cell? ⟨g,k*7+4,none⟩=some u)∧(∃u,W.cell? ⟨g,k*7+5,none⟩=some u)∧(∃u,W.cell? ⟨g,k*7+6,none⟩=some u):=⟨h.cell (by omega),h.cell (by omega),h.cell (by omega),h.cell (by omega),h.cell (by omega),h.cell (by omega),h.cell (by omega)⟩
theorem dj.sets{W:World}{g ty len o:Nat}(h:dj W g ty len)(x:fY):dj (jU W g o x) g ty len:=(((((((h.set _).set _).set _).set _).set _).set _).set _)
theorem aH{W:World}{g i j:Nat}{v:Value}(h:i≠j):(W.setCell ⟨g,i,none⟩ v).cell? ⟨g,j,none⟩=W.cell? ⟨g,j,none⟩:=World.cell?_setCell_other _ _ _ _ (by intro e;injection e with e1 e2;exact h e2)
theorem fb{W:World}{g ty len i:Nat}{v:Value}(h:dj W g ty len)(hi:i<len*7):(W.setCell ⟨g,i,none⟩ v).cell? ⟨g,i,none⟩=some v:=by
 obtain⟨u,hu⟩:=h.cell hi
 exact World.cell?_setCell_same _ _ _ hu
theorem setLp_this{W:World}{g ty len k:Nat}(h:dj W g ty len)(hk:k<len)(x:fY):eo (jU W g (k*7) x) g (k*7) x:=by
 unfold jU
 refine⟨?_,?_,?_,?_,?_,?_,?_⟩
 ·(repeat rw[aH (by omega)]);rw[fb h (by omega)]
 ·(repeat rw[aH (by omega)]);rw[fb (h.set _) (by omega)]
 ·(repeat rw[aH (by omega)]);rw[fb ((h.set _).set _) (by omega)]
 ·(repeat rw[aH (by omega)]);rw[fb (((h.set _).set _).set _) (by omega)]
 ·rw[aH (by omega),aH (by omega),fb ((((h.set _).set _).set _).set _) (by omega)]
 ·rw[aH (by omega),fb (((((h.set _).set _).set _).set _).set _) (by omega)]
 ·rw[fb ((((((h.set _).set _).set _).set _).set _).set _) (by omega)]
theorem setLp_ne{W:World}{g i k:Nat}{x y:fY}(h:eo W g (i*7) y)(hk:i≠k):eo (jU W g (k*7) x) g (i*7) y:=by
 unfold jU
 obtain⟨h0,h1,h2,h3,h4,h5,h6⟩:=h
 refine⟨?_,?_,?_,?_,?_,?_,?_⟩
 ·rw[aH (by omega),aH (by omega),aH (by omega),aH (by omega),aH (by omega),aH (by omega),aH (by omega)];exact h0
 ·rw[aH (by omega),aH (by omega),aH (by omega),aH (by omega),aH (by omega),aH (by omega),aH (by omega)];exact h1
 ·rw[aH (by omega),aH (by omega),aH (by omega),aH (by omega),aH (by omega),aH (by omega),aH (by omega)];exact h2
 ·rw[aH (by omega),aH (by omega),aH (by omega),aH (by omega),aH (by omega),aH (by omega),aH (by omega)];exact h3
 ·rw[aH (by omega),aH (by omega),aH (by omega),aH (by omega),aH (by omega),aH (by omega),aH (by omega)];exact h4
 ·rw[aH (by omega),aH (by omega),aH (by omega),aH (by omega),aH (by omega),aH (by omega),aH (by omega)];exact h5
 ·rw[aH (by omega),aH (by omega),aH (by omega),aH (by omega),aH (by omega),aH (by omega),aH (by omega)];exact h6
/-- The cells of rows; a slice of the call's own that holds rows. -/
def fY.cells(x:fY):List Value:=[.int .i64 x.kd,.int .i64 x.tm,.int .i64 x.ke,.int .i64 x.va,.int .i64 x.nn,.int .i64 x.st,.int .i64 x.en]
def jg(xs:List fY):List Value:=xs.flatMap fY.cells
theorem flatLp_snoc(xs:List fY)(x:fY):jg (xs++[x])=jg xs++x.cells:=by simp[jg]
def ep(W:World)(B:Nat)(v:Value)(ys:List fY):Prop:=W.ownsRow B 115 7 v ys.length (jg ys)
theorem jh{w1:World}{B:Nat}{v':Value}{ys:List fY}{x:fY}(ho:w1.ownsRow B 115 7 v' (ys.length+1) (jg ys++x.cells)):ep w1 B v' (ys++[x]):=by
 unfold ep
 rw[flatLp_snoc]
 simpa using ho
theorem iw(w:World)(kd tm ke va nn st en:Int)(ty:Nat):∀j u,([.int .i64 kd,.int .i64 tm,.int .i64 ke,.int .i64 va,.int .i64 nn,.int .i64 st,.int .i64 en]:List Value)[j]? =some u→(w.alloc (.cells #[.int .i64 kd,.int .i64 tm,.int .i64 ke,.int .i64 va,.int .i64 nn,.int .i64 st,.int .i64 en] ty)).cell? ((⟨w.heap.size,0,none⟩:Addr).add j)=some u:=by
 intro j u hj
 have e:((⟨w.heap.size,0,none⟩:Addr).add j)=⟨w.heap.size,j,none⟩:=by
  unfold Addr.add
  split
  ·rename_i h0;rw[h0]
  ·simp
 rw[e]
 simpa[go_sem]using hj
def markLp(i:Nat):fY:=⟨1+7*(i:Int),1+7*(i:Int)+1,1+7*(i:Int)+1+1,1+7*(i:Int)+1+1+1,1+7*(i:Int)+1+1+1+1,1+7*(i:Int)+1+1+1+1+1,1+7*(i:Int)+1+1+1+1+1+1⟩
def WrLp(W:World)(a:Option Addr)(n cap:Nat):Prop:=n=0∨∃g,a=some ⟨g,0,none⟩∧dj W g 115 cap∧n≤cap
def ji(W:World)(a:Option Addr)(n:Nat):Prop:=n=0∨∃g,a=some ⟨g,0,none⟩∧∀i,i<n→eo W g (i*7) (markLp i)
theorem ji.below{W W':World}{a:Option Addr}{n:Nat}(h:ji W a n)(hb:Below W.heap.size W W'):ji W' a n:=by
 rcases h with h|⟨g,ha,hM⟩
 ·exact Or.inl h
 ·exact Or.inr ⟨g,ha,fun i hi=>(hM i hi).below hb (hM i hi).lt⟩
theorem WrLp.below{W W':World}{a:Option Addr}{n cap:Nat}(h:WrLp W a n cap)(hb:Below W.heap.size W W'):WrLp W' a n cap:=by
 rcases h with h|⟨g,ha,hB,hc⟩
 ·exact Or.inl h
 ·exact Or.inr ⟨g,ha,hB.below hb hB.lt,hc⟩
theorem WrLp.grown{W W':World}{row:Option Nat}{a:Option Addr}{n cap:Nat}(h:WrLp W a n cap)(hg:W.grownBy W' row)(hne:∀g o,0<n→a=some ⟨g,o,none⟩→some g≠row):WrLp W' a n cap:=by
 rcases h with h|⟨g,ha,hB,hc⟩
 ·exact Or.inl h
 ·by_cases h0:n=0
  ·exact Or.inl h0
  ·obtain⟨cur,c1,c2⟩:=hB
   exact Or.inr ⟨g,ha,⟨cur,(hg.block g (Array.getElem?_eq_some_iff.1 c1).1 (hne g 0 (by omega) ha)).trans c1,c2⟩,hc⟩
end Go.Proofs.Ytdmhihcipkhecaa
namespace Go.Proofs.Ytdmhihcipkhecaa
open Go.ChangeShapes Go.WideShapes Go.ChangeAt Go.RowKit Go.Deep
theorem Try.infoLp:(Try.prog.info? 115).map (fun i=>(i.zero,i.size,i.bytes))=some (some (.agg #[.int .i64 0,.int .i64 0,.int .i64 0,.int .i64 0,.int .i64 0,.int .i64 0,.int .i64 0]),7,56):=by kernel_rfl
/-- The slice that is being filled. -/
def gu(W:World)(g ty len:Nat)(ys:List fY):Prop:=dj W g ty len∧∀i x,ys[i]? =some x→eo W g (i*7) x
theorem gu.step{wr w':World}{g ty len k:Nat}{xs:List fY}{x:fY}(h:gu wr g ty len (xs.take k))(hb:Below wr.heap.size wr w')(hk:k<len)(hx:xs[k]? =some x):gu (jU w' g (k*7) x) g ty len (xs.take (k+1)):=by
 have hB:=h.1.below hb h.1.lt
 refine⟨hB.sets x,fun i y hy=>?_⟩
 have hik:i<k+1:=by
  rcases Nat.lt_or_ge i (k+1)with h'|h'
  ·exact h'
  ·rw[List.getElem?_eq_none (nh)]at hy;cases hy
 rw[List.getElem?_take_of_lt hik]at hy
 by_cases he:i=k
 ·subst he
  rw[hx]at hy
  cases hy
  exact setLp_this hB hk x
 ·refine setLp_ne ?_ he
  exact(h.2 i y (by rw[List.getElem?_take_of_lt (by omega)];exact hy)).below hb h.1.lt
theorem gu.start{w:World}{ty len:Nat}{C:Array Value}(hC:C.size=len*7)(xs:List fY):gu (w.alloc (.cells C ty)) w.heap.size ty len (xs.take 0):=
 ⟨⟨C,by show(w.heap.push _)[w.heap.size]? =_;simp,hC⟩,fun i x h=>by simp at h⟩
theorem gu.done{W:World}{g ty len k:Nat}{xs:List fY}(h:gu W g ty len (xs.take k))(hk:xs.length≤k):gt W g 0 xs:=by
 intro i x hx
 rw[List.take_of_length_le hk]at h
 simpa using h.2 i x hx
end Go.Proofs.Ytdmhihcipkhecaa
namespace Go.Proofs.Ytdmhihcipkhecaa
open Go.ChangeShapes Go.WideShapes Go.ChangeAt Go.RowKit
/-- A row of 5 numbers. -/
structure IwR where
 kd:Int
 tm:Int
 ke:Int
 va:Int
 nn:Int
/-- A row lies in its cells; rows lie one behind the other; a slice's value holds rows. -/
def fZ(W:World)(g o:Nat)(x:IwR):Prop:=W.cell? ⟨g,o,none⟩=some (.int .i64 x.kd)∧W.cell? ⟨g,o+1,none⟩=some (.int .i64 x.tm)∧W.cell? ⟨g,o+2,none⟩=some (.int .i64 x.ke)∧W.cell? ⟨g,o+3,none⟩=some (.int .i64 x.va)∧W.cell? ⟨g,o+4,none⟩=some (.int .i64 x.nn)
def ie(W:World)(g o:Nat)(xs:List IwR):Prop:=∀i x,xs[i]? =some x→fZ W g (o+i*5) x
def IwRs(W:World)(a:Option Addr)(len:Nat)(xs:List IwR):Prop:=xs.length=len∧len≤maxLen∧(len=0∨∃g o,a=some ⟨g,o,none⟩∧ie W g o xs)
theorem fZ.lt{W:World}{g o:Nat}{x:IwR}(h:fZ W g o x):g<W.heap.size:=by
 obtain⟨h0,_⟩:=h
 rcases Nat.lt_or_ge g W.heap.size with hl|hg
 ·exact hl
 ·simp[World.cell?,Array.getElem?_eq_none hg]at h0
theorem ie.lt{W:World}{g o:Nat}{xs:List IwR}(h:ie W g o xs)(hp:0<xs.length):g<W.heap.size:=(h 0 xs[0] (List.getElem?_eq_getElem hp)).lt
theorem fZ.below{W W':World}{B g o:Nat}{x:IwR}(h:fZ W g o x)(hb:Below B W W')(hg:g<B):fZ W' g o x:=by
 obtain⟨h0,h1,h2,h3,h4⟩:=h
 exact⟨(hb.cell (p:=⟨g,_,none⟩) hg).trans h0,(hb.cell (p:=⟨g,_,none⟩) hg).trans h1,(hb.cell (p:=⟨g,_,none⟩) hg).trans h2,(hb.cell (p:=⟨g,_,none⟩) hg).trans h3,(hb.cell (p:=⟨g,_,none⟩) hg).trans h4⟩
theorem ie.below{W W':World}{B g o:Nat}{xs:List IwR}(h:ie W g o xs)(hb:Below B W W')(hg:0<xs.length→g<B):ie W' g o xs:=by
 intro i x hx
 have hlt:i<xs.length:=(List.getElem?_eq_some_iff.1 hx).1
 exact(h i x hx).below hb (hg (by omega))
theorem IwRs.below{W W':World}{a:Option Addr}{len:Nat}{xs:List IwR}(h:IwRs W a len xs)(hb:Below W.heap.size W W'):IwRs W' a len xs:=by
 obtain⟨h1,h2,h3⟩:=h
 refine⟨h1,h2,?_⟩
 rcases h3 with h3|⟨g,o,ha,hr⟩
 ·exact Or.inl h3
 ·exact Or.inr ⟨g,o,ha,hr.below hb (fun hp=>hr.lt hp)⟩
theorem fZ.grown{W W':World}{row:Option Nat}{g o:Nat}{x:IwR}(h:fZ W g o x)(hg:W.grownBy W' row)(hne:some g≠row):fZ W' g o x:=by
 have hbk:=hg.block g h.lt hne
 obtain⟨h0,h1,h2,h3,h4⟩:=h
 exact⟨(World.cell?_of_block (w:=W) hbk).trans h0,(World.cell?_of_block (w:=W) hbk).trans h1,(World.cell?_of_block (w:=W) hbk).trans h2,(World.cell?_of_block (w:=W) hbk).trans h3,(World.cell?_of_block (w:=W) hbk).trans h4⟩
theorem IwRs.grown{W W':World}{row:Option Nat}{a:Option Addr}{n:Nat}{xs:List IwR}(h:IwRs W a n xs)(hg:W.grownBy W' row)(hne:∀g o,0<n→a=some ⟨g,o,none⟩→some g≠row):IwRs W' a n xs:=by
 obtain⟨h1,h2,h3⟩:=h
 refine⟨h1,h2,?_⟩
 rcases h3 with h3|⟨g,o,ha,hr⟩
 ·exact Or.inl h3
 ·refine Or.inr ⟨g,o,ha,fun i x hx=>(hr i x hx).grown hg (hne g o ?_ ha)⟩
  have hlt:i<xs.length:=(List.getElem?_eq_some_iff.1 hx).1
  omega
theorem IwRs.lt{W:World}{g o n:Nat}{xs:List IwR}(h:IwRs W (some ⟨g,o,none⟩) n xs)(hp:0<n):g<W.heap.size:=by
 obtain⟨h1,h2,h3⟩:=h
 obtain⟨g',o',ha,hr⟩:=h3.resolve_left (by omega)
 simp at ha
 have:=hr.lt (by omega)
 omega
/-- A row is stored; a block of rows, known whole. -/
def setIw(W:World)(g o:Nat)(x:IwR):World:=(((((W.setCell ⟨g,o,none⟩ (.int .i64 x.kd)).setCell ⟨g,o+1,none⟩ (.int .i64 x.tm)).setCell ⟨g,o+2,none⟩ (.int .i64 x.ke)).setCell ⟨g,o+3,none⟩ (.int .i64 x.va)).setCell ⟨g,o+4,none⟩ (.int .i64 x.nn))
def dH(W:World)(g ty len:Nat):Prop:=∃cur,W.heap[g]? =some (.cells cur ty (0,0))∧cur.size=len*5
theorem dH.set{W:World}{g ty len i:Nat}(h:dH W g ty len)(v:Value):dH (W.setCell ⟨g,i,none⟩ v) g ty len:=by
 obtain⟨cur,h1,h2⟩:=h
 exact⟨_,Joins.block_setCell h1 v,by simp[h2]⟩
theorem dH.below{W W':World}{g ty len B:Nat}(h:dH W g ty len)(hb:Below B W W')(hg:g<B):dH W' g ty len:=by
 obtain⟨cur,h1,h2⟩:=h
 exact⟨cur,(hb.block g hg).trans h1,h2⟩
theorem dH.lt{W:World}{g ty len:Nat}(h:dH W g ty len):g<W.heap.size:=by
 obtain⟨cur,h1,h2⟩:=h
 exact(Array.getElem?_eq_some_iff.1 h1).1
theorem dH.cell{W:World}{g ty len i:Nat}(h:dH W g ty len)(hi:i<len*5):∃u,W.cell? ⟨g,i,none⟩=some u:=by
 obtain⟨cur,h1,h2⟩:=h
 exact⟨_,(cA h1 i).trans (Array.getElem?_eq_getElem (by omega))⟩
theorem dH.frozen{W:World}{g ty len i:Nat}(h:dH W g ty len):W.frozen? ⟨g,i,none⟩=false:=by
 obtain⟨cur,h1,h2⟩:=h
 exact Joins.unfrozen_of_block h1 i
theorem dH.cells{W:World}{g ty len k:Nat}(h:dH W g ty len)(hk:k<len):(∃u,W.cell? ⟨g,k*5,none⟩=some u)∧(∃u,W.cell? ⟨g,k*5+1,none⟩=some u)∧(∃u,W.cell? ⟨g,k*5+2,none⟩=some u)∧(∃u,W.cell? ⟨g,k*5+3,none⟩=some u)∧(∃u,W.cell? ⟨g,k*5+4,none⟩=some u):=⟨h.cell (by omega),h.cell (by omega),h.cell (by omega),h.cell (by omega),h.cell (by omega)⟩
theorem dH.sets{W:World}{g ty len o:Nat}(h:dH W g ty len)(x:IwR):dH (setIw W g o x) g ty len:=(((((h.set _).set _).set _).set _).set _)
/-- The cells of rows; a slice of the call's own that holds rows. -/
def IwR.cells(x:IwR):List Value:=[.int .i64 x.kd,.int .i64 x.tm,.int .i64 x.ke,.int .i64 x.va,.int .i64 x.nn]
def markIw(i:Nat):IwR:=⟨1+5*(i:Int),1+5*(i:Int)+1,1+5*(i:Int)+1+1,1+5*(i:Int)+1+1+1,1+5*(i:Int)+1+1+1+1⟩
def WrIw(W:World)(a:Option Addr)(n cap:Nat):Prop:=n=0∨∃g,a=some ⟨g,0,none⟩∧dH W g 87 cap∧n≤cap
def jj(W:World)(a:Option Addr)(n:Nat):Prop:=n=0∨∃g,a=some ⟨g,0,none⟩∧∀i,i<n→fZ W g (i*5) (markIw i)
theorem jj.below{W W':World}{a:Option Addr}{n:Nat}(h:jj W a n)(hb:Below W.heap.size W W'):jj W' a n:=by
 rcases h with h|⟨g,ha,hM⟩
 ·exact Or.inl h
 ·exact Or.inr ⟨g,ha,fun i hi=>(hM i hi).below hb (hM i hi).lt⟩
theorem WrIw.below{W W':World}{a:Option Addr}{n cap:Nat}(h:WrIw W a n cap)(hb:Below W.heap.size W W'):WrIw W' a n cap:=by
 rcases h with h|⟨g,ha,hB,hc⟩
 ·exact Or.inl h
 ·exact Or.inr ⟨g,ha,hB.below hb hB.lt,hc⟩
theorem WrIw.grown{W W':World}{row:Option Nat}{a:Option Addr}{n cap:Nat}(h:WrIw W a n cap)(hg:W.grownBy W' row)(hne:∀g o,0<n→a=some ⟨g,o,none⟩→some g≠row):WrIw W' a n cap:=by
 rcases h with h|⟨g,ha,hB,hc⟩
 ·exact Or.inl h
 ·by_cases h0:n=0
  ·exact Or.inl h0
  ·obtain⟨cur,c1,c2⟩:=hB
   exact Or.inr ⟨g,ha,⟨cur,(hg.block g (Array.getElem?_eq_some_iff.1 c1).1 (hne g 0 (by omega) ha)).trans c1,c2⟩,hc⟩
/-- Whether items are records that may be looked at; a record and a window; all pairs. -/
def IwR.isB(x:IwR):Bool:=fa x.kd x.tm x.ke x.va x.nn
theorem l4of_any(s t k z p l e:Int)(b:Bool)(v r:Int)(T:Int)(w:World)(hj:aX s t k z p l e v r=true)(hT:0≤T∧T≤60):Calls Try.prog 69 #[.agg #[.int .i64 s,.int .i64 t,.int .i64 k,.int .i64 z,.int .i64 p,.int .i64 l,.int .i64 e,.bool b,.int .i64 v,.int .i64 r],.int .i64 T] w fun e' w'=>∃v',e'= .returned v'∧ed w' w.heap.size v' (bV k z p T)∧Below w.heap.size w w':=by
 obtain⟨hk,hz,hp⟩:=iu hj
 rcases(show k=1∨k=2∨k=3 by omega)with rfl|rfl|rfl
 ·exact l4_1 s t z p l e b v r T hT hz w
 ·rw[winsOf_2]
  exact jz s t 2 z p l e b v r T hT hz (stepB_in hz hp) rfl w
 ·exact l4_3 s t z p l e b v r T hT hz w
end Go.Proofs.Ytdmhihcipkhecaa
