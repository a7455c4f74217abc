/- Laid together: what the claim needs of the texts that were built one by one. -/
import Derived.Test.YtdmhihcipkhecaaGreatR1
import Derived.LoopN
import Derived.Test.YtdmhihcipkhecaaGreatR0
import Derived.Deep.Slices
import Derived.Lib.SmallJoins
import Derived.OwnWalk
import Derived.WalkSpells
import Derived.Deep.RegionHeld3
import Derived.Test.YtdmhihcipkhecaaGreatR3
import Derived.Test.YtdmhihcipkhecaaGreatR2
import Derived.OrdersHeld
import Derived.OrdersIn
import Derived.Deep.RegionLawGrows
import Derived.Maps.AppendAt
import Derived.WalkKit
import Derived.TacticsInMore
import Derived.OwnWalkIn
set_option linter.unusedVariables false
namespace Go.Proofs.YtdmhihcipkhecaaGreat
open Go.ChangeShapes Go.WideShapes Go.ChangeAt Go.RowKit
/-- One number of what is known of both. -/
def bo(n n' x x' c:Int):Int:=if n=0 then x' else if n'=0 then x else c
theorem bo_1(n' x x' c:Int):bo 0 n' x x' c=x':=rfl
theorem bo_2{n:Int}(h:n≠0)(x x' c:Int):bo n 0 x x' c=x:=by unfold bo;rw[if_neg h];rfl
theorem bo_3{n n':Int}(h:n≠0)(h':n'≠0)(x x' c:Int):bo n n' x x' c=c:=by unfold bo;rw[if_neg h,if_neg h']
theorem dj{a b c d a' b' c' d':Int}(h1:a'=a)(h2:b'=b)(h3:c'=c)(h4:d'=d):Ending.returned (.agg #[.int .i64 a,.int .i64 b,.int .i64 c,.int .i64 d])= .returned (.agg #[.int .i64 a',.int .i64 b',.int .i64 c',.int .i64 d']):=by rw[h1,h2,h3,h4]
set_option maxHeartbeats 1000000 in
theorem both_any(n s l m n' s' l' m':Int)(w:World):Calls Tryz.prog 105 #[.agg #[.int .i64 n,.int .i64 s,.int .i64 l,.int .i64 m],.agg #[.int .i64 n',.int .i64 s',.int .i64 l',.int .i64 m']] w fun e w'=>e= .returned (.agg #[.int .i64 (bo n n' n n' (wrap64 (n+n'))),.int .i64 (bo n n' s s' (wrap64 (s+s'))),.int .i64 (bo n n' l l' (fp l l')),.int .i64 (bo n n' m m' (fo m m'))])∧Below w.heap.size w w':=by
 by_cases h1:n=0
 ·subst h1
  have hq:=ae (bo_1 n')
  go_enter Tryz.func105,Tryz.ntmps105
  go_wp2
  refine bodyPost_ret (v:= .agg #[.int .i64 n',.int .i64 s',.int .i64 l',.int .i64 m']) (nP) rfl ⟨dj (ab hq _ _ _) (ab hq _ _ _) (ab hq _ _ _) (ab hq _ _ _),?_⟩
  exact(aX)
 have g1:(n==0)=false:=by simpa using h1
 by_cases h2:n'=0
 ·subst h2
  have hq:=ae (bo_2 h1)
  clear h1
  go_enter Tryz.func105,Tryz.ntmps105
  go_wp2
  refine bodyPost_ret (v:= .agg #[.int .i64 n,.int .i64 s,.int .i64 l,.int .i64 m]) (nP) rfl ⟨dj (ab hq _ _ _) (ab hq _ _ _) (ab hq _ _ _) (ab hq _ _ _),?_⟩
  exact(aX)
 have g2:(n'==0)=false:=by simpa using h2
 have hq:=ae (bo_3 h1 h2)
 clear h1 h2
 by_cases h3:l'<l<;>by_cases h4:m<m'
 ·have k3:=ae (iI h3)
  have k4:=ae (iL h4)
  go_enter Tryz.func105,Tryz.ntmps105
  go_wp2
  all_goals first
   |(exfalso;omega)
   |(refine bodyPost_ret (v:= .agg #[.int .i64 (wrap64 (n+n')),.int .i64 (wrap64 (s+s')),.int .i64 l',.int .i64 m']) (nP) rfl ⟨dj (ab hq _ _ _) (ab hq _ _ _) ((ab hq _ _ _).trans (ab k3)) ((ab hq _ _ _).trans (ab k4)),?_⟩;exact(aX))
 ·have k3:=ae (iI h3)
  have k4:=ae (iK h4)
  go_enter Tryz.func105,Tryz.ntmps105
  go_wp2
  all_goals first
   |(exfalso;omega)
   |(refine bodyPost_ret (v:= .agg #[.int .i64 (wrap64 (n+n')),.int .i64 (wrap64 (s+s')),.int .i64 l',.int .i64 m]) (nP) rfl ⟨dj (ab hq _ _ _) (ab hq _ _ _) ((ab hq _ _ _).trans (ab k3)) ((ab hq _ _ _).trans (ab k4)),?_⟩;exact(aX))
 ·have k3:=ae (iH h3)
  have k4:=ae (iL h4)
  go_enter Tryz.func105,Tryz.ntmps105
  go_wp2
  all_goals first
   |(exfalso;omega)
   |(refine bodyPost_ret (v:= .agg #[.int .i64 (wrap64 (n+n')),.int .i64 (wrap64 (s+s')),.int .i64 l,.int .i64 m']) (nP) rfl ⟨dj (ab hq _ _ _) (ab hq _ _ _) ((ab hq _ _ _).trans (ab k3)) ((ab hq _ _ _).trans (ab k4)),?_⟩;exact(aX))
 ·have k3:=ae (iH h3)
  have k4:=ae (iK h4)
  go_enter Tryz.func105,Tryz.ntmps105
  go_wp2
  all_goals first
   |(exfalso;omega)
   |(refine bodyPost_ret (v:= .agg #[.int .i64 (wrap64 (n+n')),.int .i64 (wrap64 (s+s')),.int .i64 l,.int .i64 m]) (nP) rfl ⟨dj (ab hq _ _ _) (ab hq _ _ _) ((ab hq _ _ _).trans (ab k3)) ((ab hq _ _ _).trans (ab k4)),?_⟩;exact(aX))
set_option maxHeartbeats 1000000 in
theorem gR(n s l m n' s' l' m':Int)(w:World):Calls Tryz.prog 88 #[.agg #[.int .i64 n,.int .i64 s,.int .i64 l,.int .i64 m],.agg #[.int .i64 n',.int .i64 s',.int .i64 l',.int .i64 m']] w fun e w'=>e= .returned (.agg #[.int .i64 (bo n n' n n' (wrap64 (n+n'))),.int .i64 (bo n n' s s' (wrap64 (s+s'))),.int .i64 (bo n n' l l' (fp l l')),.int .i64 (bo n n' m m' (fo m m'))])∧Below w.heap.size w w':=by
 by_cases h1:n=0
 ·subst h1
  have hq:=ae (bo_1 n')
  go_enter Tryz.func88,Tryz.ntmps88
  go_wp2
  refine bodyPost_ret (v:= .agg #[.int .i64 n',.int .i64 s',.int .i64 l',.int .i64 m']) (nU) rfl ⟨dj (ab hq _ _ _) (ab hq _ _ _) (ab hq _ _ _) (ab hq _ _ _),?_⟩
  exact(aX)
 have g1:(n==0)=false:=by simpa using h1
 by_cases h2:n'=0
 ·subst h2
  have hq:=ae (bo_2 h1)
  clear h1
  go_enter Tryz.func88,Tryz.ntmps88
  go_wp2
  refine bodyPost_ret (v:= .agg #[.int .i64 n,.int .i64 s,.int .i64 l,.int .i64 m]) (nU) rfl ⟨dj (ab hq _ _ _) (ab hq _ _ _) (ab hq _ _ _) (ab hq _ _ _),?_⟩
  exact(aX)
 have g2:(n'==0)=false:=by simpa using h2
 have hq:=ae (bo_3 h1 h2)
 clear h1 h2
 by_cases h3:l'<l<;>by_cases h4:m<m'
 ·have k3:=ae (iI h3)
  have k4:=ae (iL h4)
  go_enter Tryz.func88,Tryz.ntmps88
  go_wp2
  all_goals first
   |(exfalso;omega)
   |(refine bodyPost_ret (v:= .agg #[.int .i64 (wrap64 (n+n')),.int .i64 (wrap64 (s+s')),.int .i64 l',.int .i64 m']) (nU) rfl ⟨dj (ab hq _ _ _) (ab hq _ _ _) ((ab hq _ _ _).trans (ab k3)) ((ab hq _ _ _).trans (ab k4)),?_⟩;exact(aX))
 ·have k3:=ae (iI h3)
  have k4:=ae (iK h4)
  go_enter Tryz.func88,Tryz.ntmps88
  go_wp2
  all_goals first
   |(exfalso;omega)
   |(refine bodyPost_ret (v:= .agg #[.int .i64 (wrap64 (n+n')),.int .i64 (wrap64 (s+s')),.int .i64 l',.int .i64 m]) (nU) rfl ⟨dj (ab hq _ _ _) (ab hq _ _ _) ((ab hq _ _ _).trans (ab k3)) ((ab hq _ _ _).trans (ab k4)),?_⟩;exact(aX))
 ·have k3:=ae (iH h3)
  have k4:=ae (iL h4)
  go_enter Tryz.func88,Tryz.ntmps88
  go_wp2
  all_goals first
   |(exfalso;omega)
   |(refine bodyPost_ret (v:= .agg #[.int .i64 (wrap64 (n+n')),.int .i64 (wrap64 (s+s')),.int .i64 l,.int .i64 m']) (nU) rfl ⟨dj (ab hq _ _ _) (ab hq _ _ _) ((ab hq _ _ _).trans (ab k3)) ((ab hq _ _ _).trans (ab k4)),?_⟩;exact(aX))
 ·have k3:=ae (iH h3)
  have k4:=ae (iK h4)
  go_enter Tryz.func88,Tryz.ntmps88
  go_wp2
  all_goals first
   |(exfalso;omega)
   |(refine bodyPost_ret (v:= .agg #[.int .i64 (wrap64 (n+n')),.int .i64 (wrap64 (s+s')),.int .i64 l,.int .i64 m]) (nU) rfl ⟨dj (ab hq _ _ _) (ab hq _ _ _) ((ab hq _ _ _).trans (ab k3)) ((ab hq _ _ _).trans (ab k4)),?_⟩;exact(aX))
theorem with_any(n s l m v:Int)(w:World):Calls Tryz.prog 103 #[.agg #[.int .i64 n,.int .i64 s,.int .i64 l,.int .i64 m],.int .i64 v] w fun e w'=>e= .returned (.agg #[.int .i64 (bo n 1 n 1 (wrap64 (n+1))),.int .i64 (bo n 1 s v (wrap64 (s+v))),.int .i64 (bo n 1 l v (fp l v)),.int .i64 (bo n 1 m v (fo m v))])∧Below w.heap.size w w':=by
 go_enter Tryz.func103,Tryz.ntmps103
 go_wp2_with (first
  |(go_at_call 105;refine(both_any _ _ _ _ _ _ _ _ _).mono ?_;rintro e w' ⟨rfl,hb⟩;obtain⟨hc,hf,hs⟩:=aA hb;(try have hz0:=zA hb w.heap.size);(try have hz1:=zA hb (w.heap.size+1));(try have hz2:=zA hb (w.heap.size+2))))
 refine bodyPost_ret (v:= .agg #[.int .i64 (bo n 1 n 1 (wrap64 (n+1))),.int .i64 (bo n 1 s v (wrap64 (s+v))),.int .i64 (bo n 1 l v (fp l v)),.int .i64 (bo n 1 m v (fo m v))]) (by simp[results,Tryz.results103,go_sem,hc]) rfl ⟨rfl,?_⟩
 exact(aX)
theorem iN(n s l m v:Int)(w:World):Calls Tryz.prog 86 #[.agg #[.int .i64 n,.int .i64 s,.int .i64 l,.int .i64 m],.int .i64 v] w fun e w'=>e= .returned (.agg #[.int .i64 (bo n 1 n 1 (wrap64 (n+1))),.int .i64 (bo n 1 s v (wrap64 (s+v))),.int .i64 (bo n 1 l v (fp l v)),.int .i64 (bo n 1 m v (fo m v))])∧Below w.heap.size w w':=by
 go_enter Tryz.func86,Tryz.ntmps86
 go_wp2_with (first
  |(go_at_call 88;refine(gR _ _ _ _ _ _ _ _ _).mono ?_;rintro e w' ⟨rfl,hb⟩;obtain⟨hc,hf,hs⟩:=aA hb;(try have hz0:=zA hb w.heap.size);(try have hz1:=zA hb (w.heap.size+1));(try have hz2:=zA hb (w.heap.size+2))))
 refine bodyPost_ret (v:= .agg #[.int .i64 (bo n 1 n 1 (wrap64 (n+1))),.int .i64 (bo n 1 s v (wrap64 (s+v))),.int .i64 (bo n 1 l v (fp l v)),.int .i64 (bo n 1 m v (fo m v))]) (by simp[results,Tryz.results86,go_sem,hc]) rfl ⟨rfl,?_⟩
 exact(aX)
/-- A row of 2 numbers. -/
structure dr where
 a:Int
 b:Int
/-- A row lies in its cells; rows lie one behind the other; a slice's value holds rows. -/
def dF(W:World)(g o:Nat)(x:dr):Prop:=W.cell? ⟨g,o,none⟩=some (.int .i64 x.a)∧W.cell? ⟨g,o+1,none⟩=some (.int .i64 x.b)
def WnRsAt(W:World)(g o:Nat)(xs:List dr):Prop:=∀i x,xs[i]? =some x→dF W g (o+i*2) x
def WnRs(W:World)(a:Option Addr)(len:Nat)(xs:List dr):Prop:=xs.length=len∧len≤maxLen∧(len=0∨∃g o,a=some ⟨g,o,none⟩∧WnRsAt W g o xs)
theorem dF.lt{W:World}{g o:Nat}{x:dr}(h:dF W g o x):g<W.heap.size:=by
 obtain⟨h0,_⟩:=h
 rcases Nat.lt_or_ge g W.heap.size with hl|hg
 ·exact hl
 ·simp[World.cell?,Array.getElem?_eq_none hg]at h0
theorem dF.below{W W':World}{B g o:Nat}{x:dr}(h:dF W g o x)(hb:Below B W W')(hg:g<B):dF W' g o x:=by
 obtain⟨h0,h1⟩:=h
 exact⟨(hb.cell (p:=⟨g,_,none⟩) hg).trans h0,(hb.cell (p:=⟨g,_,none⟩) hg).trans h1⟩
theorem dF.grown{W W':World}{row:Option Nat}{g o:Nat}{x:dr}(h:dF W g o x)(hg:W.grownBy W' row)(hne:some g≠row):dF W' g o x:=by
 have hbk:=hg.block g h.lt hne
 obtain⟨h0,h1⟩:=h
 exact⟨(World.cell?_of_block (w:=W) hbk).trans h0,(World.cell?_of_block (w:=W) hbk).trans h1⟩
def BlkWn(W:World)(g ty len:Nat):Prop:=∃cur,W.heap[g]? =some (.cells cur ty (0,0))∧cur.size=len*2
/-- The cells of rows; a slice of the call's own that holds rows. -/
def dr.cells(x:dr):List Value:=[.int .i64 x.a,.int .i64 x.b]
def fc(xs:List dr):List Value:=xs.flatMap dr.cells
theorem flatWn_snoc(xs:List dr)(x:dr):fc (xs++[x])=fc xs++x.cells:=by simp[fc]
theorem flatWn_get{xs:List dr}{i:Nat}{x:dr}(h:xs[i]? =some x):(fc xs)[i*2]? =some (.int .i64 x.a)∧(fc xs)[i*2+1]? =some (.int .i64 x.b):=by
 induction xs generalizing i with
 |nil=>simp at h
 |cons y r ih=>
  have hf:fc (y :: r)=y.cells++fc r:=rfl
  cases i with
  |zero=>
   simp at h
   subst h
   rw[hf]
   exact⟨rfl,rfl⟩
  |succ i=>
   simp at h
   obtain⟨h0,h1⟩:=ih h
   have hl:y.cells.length=2:=rfl
   rw[hf]
   refine⟨?_,?_⟩
   ·rw[List.getElem?_append_right (by omega),hl,show(i+1)*2 - 2=i*2 by omega];exact h0
   ·rw[List.getElem?_append_right (by omega),hl,show(i+1)*2+1 - 2=i*2+1 by omega];exact h1
def df(W:World)(B:Nat)(v:Value)(ys:List dr):Prop:=W.ownsRow B 48 2 v ys.length (fc ys)
theorem ownWn_ge{W:World}{B:Nat}{v:Value}{ys:List dr}(h:df W B v ys):∀k,v.ownBlock=some k→B≤k:=by
 intro k hk
 rcases h.2 with⟨rfl,_⟩|⟨g,cap,cur,rfl,hg,_⟩
 ·cases hk
 ·simp[Value.ownBlock]at hk;omega
theorem jq{w1:World}{B:Nat}{v':Value}{ys:List dr}{x:dr}(ho:w1.ownsRow B 48 2 v' (ys.length+1) (fc ys++x.cells)):df w1 B v' (ys++[x]):=by
 unfold df
 rw[flatWn_snoc]
 simpa using ho
theorem iO(w:World)(a b:Int)(ty:Nat):∀j u,([.int .i64 a,.int .i64 b]:List Value)[j]? =some u→(w.alloc (.cells #[.int .i64 a,.int .i64 b] ty)).cell? ((⟨w.heap.size,0,none⟩:Addr).add j)=some u:=by
 intro j u hj
 have e:((⟨w.heap.size,0,none⟩:Addr).add j)=⟨w.heap.size,j,none⟩:=by
  unfold Addr.add
  split
  ·rename_i h0;rw[h0]
  ·simp
 rw[e]
 simpa[go_sem]using hj
theorem cells_atWn(w:World)(a b:Int)(ty:Nat){g:Nat}(hg:g=w.heap.size):∀j u,([.int .i64 a,.int .i64 b]:List Value)[j]? =some u→(w.alloc (.cells #[.int .i64 a,.int .i64 b] ty)).cell? ((⟨g,0,none⟩:Addr).add j)=some u:=by
 subst hg
 exact iO w a b ty
def WrWn(W:World)(a:Option Addr)(n cap:Nat):Prop:=n=0∨∃g,a=some ⟨g,0,none⟩∧BlkWn W g 48 cap∧n≤cap
theorem grown0Wn{W W':World}(h:Below W.heap.size W W'):W.grownBy W' none:=⟨h.os,h.tape,h.output,h.size,fun k hk _=>h.block k hk⟩
theorem holdWn{W:World}{B:Nat}{v:Value}{ys:List dr}(h:df W B v ys)(hl:ys.length≤1048576):
  ∃a cap,v= .slice a ys.length cap∧WnRs W a ys.length ys∧WrWn W a ys.length cap∧∀g o,0<ys.length→a=some ⟨g,o,none⟩→B≤g:=by
 have hm:ys.length≤maxLen:=by unfold maxLen;omega
 obtain⟨hlen,h|⟨g,cap,cur,rfl,hB,hblk,hnc,hcm,hsz,htk⟩⟩:=h
 ·obtain⟨rfl,h0⟩:=h
  rw[h0]
  exact⟨none,0,rfl,⟨h0,Nat.zero_le _,Or.inl rfl⟩,Or.inl rfl,fun _ _ hp=>by omega⟩
 ·refine⟨_,cap,rfl,⟨rfl,hm,Or.inr ⟨g,0,rfl,?_⟩⟩,Or.inr ⟨g,rfl,⟨cur,hblk,hsz⟩,hnc⟩,fun g' o' _ e=>by simp at e;omega⟩
  intro i x hx
  have hi:i<ys.length:=(List.getElem?_eq_some_iff.1 hx).1
  have hcell:∀j u,j<ys.length*2→(fc ys)[j]? =some u→W.cell? ⟨g,j,none⟩=some u:=by
   intro j u hj hu
   rw[cA hblk j,←Array.getElem?_toList]
   rw[←htk,List.getElem?_take_of_lt hj]at hu
   exact hu
  obtain⟨f0,f1⟩:=flatWn_get hx
  rw[Nat.zero_add]
  exact⟨hcell _ _ (by omega) f0,hcell _ _ (by omega) f1⟩
set_option linter.unusedSimpArgs false
abbrev A4:=Int×Int×Int×Int
def eF(g:A4)(v:Int):A4:=(bo g.1 1 g.1 1 (wrap64 (g.1+1)),bo g.1 1 g.2.1 v (wrap64 (g.2.1+v)),bo g.1 1 g.2.2.1 v (fp g.2.2.1 v),bo g.1 1 g.2.2.2 v (fo g.2.2.2 v))
def fO(g h:A4):A4:=(bo g.1 h.1 g.1 h.1 (wrap64 (g.1+h.1)),bo g.1 h.1 g.2.1 h.2.1 (wrap64 (g.2.1+h.2.1)),bo g.1 h.1 g.2.2.1 h.2.2.1 (fp g.2.2.1 h.2.2.1),bo g.1 h.1 g.2.2.2 h.2.2.2 (fo g.2.2.2 h.2.2.2))
def kg(x:aD):A4:=(x.an,x.asu,x.ale,x.amo)
def frA(x:aD):A4:=(x.fn,x.fsu,x.fle,x.fmo)
/-- A row that knows of one value more; a new row; the row of no window. -/
def eK(x:aD)(v:Int):aD:=⟨x.ky,x.st,x.en,(eF (kg x) v).1,(eF (kg x) v).2.1,(eF (kg x) v).2.2.1,(eF (kg x) v).2.2.2,(eF (frA x) v).1,(eF (frA x) v).2.1,(eF (frA x) v).2.2.1,(eF (frA x) v).2.2.2,x.td,x.tm⟩
def fk(q:P3)(g:A4):aD:=⟨q.1,q.2.1,q.2.2,g.1,g.2.1,g.2.2.1,g.2.2.2,g.1,g.2.1,g.2.2.1,g.2.2.2,0,false⟩
def zerO(q:P3):aD:=⟨q.1,q.2.1,q.2.2,0,0,0,0,0,0,0,0,0,false⟩
theorem knowX_zero(q:P3)(v:Int):eK (zerO q) v=fk q (eF (0,0,0,0) v):=rfl
instance decPl (a b:P3):Decidable (bN a b):=by unfold bN;infer_instance
abbrev dU(xs:List aD):Prop:=xs.Pairwise (fun x y=>bN (aT x) (aT y))
def eu(r:aD):List aD→List aD
 | []=>[r]
 |x :: xs=>if bN (aT r) (aT x)then r :: x :: xs else x :: eu r xs
def eo(q:P3)(xs:List aD):List aD:=xs.filter (fun x=> !decide (aT x=q))
def cn(r:aD)(xs:List aD):List aD:=eu r (eo (aT r) xs)
def fH(q:P3)(xs:List aD):Option aD:=xs.find? (fun x=>decide (aT x=q))
/-- The row of a place that knows of one value more. -/
def dA(q:P3)(v:Int)(xs:List aD):aD:=eK ((fH q xs).getD (zerO q)) v
def gTx(m:Int)(x:aD):aD:=if bQ m x=true then cy x else x
def fw(pc:Bool)(m:Int)(xs:List aD)(r:aD):List aD×List cY:=if m<r.en then(cn r xs,[])else(cn (cy r) xs,[dz pc r])
theorem jr(m:Int)(x:aD):aT (gTx m x)=aT x:=by unfold gTx;split<;>rfl
theorem fx{q:P3}{xs:List aD}{x:aD}(h:fH q xs=some x):aT x=q∧x ∈ xs:=⟨by simpa using List.find?_some h,List.mem_of_find?_eq_some h⟩
theorem nexO_pl(q:P3)(v:Int)(xs:List aD):aT (dA q v xs)=q:=by
 unfold dA
 cases h:fH q xs with
 |none=>rfl
 |some x=>exact(fx h).1
theorem insO_map{f:aD→aD}(hf:∀x,aT (f x)=aT x)(r:aD):∀xs:List aD,(eu r xs).map f=eu (f r) (xs.map f)
 | []=>rfl
 |x :: xs=>by
  simp only[eu,List.map_cons,hf]
  by_cases h:bN (aT r) (aT x)
  ·rw[if_pos h,if_pos h];rfl
  ·rw[if_neg h,if_neg h,List.map_cons,insO_map hf r xs]
theorem offO_map{f:aD→aD}(hf:∀x,aT (f x)=aT x)(q:P3)(xs:List aD):(eo q xs).map f=eo q (xs.map f):=by
 unfold eo
 rw[List.filter_map]
 congr 1
 refine List.filter_congr (fun x _=>?_)
 simp only[Function.comp,hf]
theorem putO_map{f:aD→aD}(hf:∀x,aT (f x)=aT x)(r:aD)(xs:List aD):(cn r xs).map f=cn (f r) (xs.map f):=by
 unfold cn
 rw[insO_map hf,offO_map hf,hf]
theorem jt{r:aD}:∀ {xs:List aD} {y:aD},y ∈ eu r xs↔y=r∨y ∈ xs
 | [],y=>by simp[eu]
 |x :: xs,y=>by
  unfold eu
  split
  ·simp
  ·rw[List.mem_cons,jt,List.mem_cons]
   constructor
   ·rintro (h|h|h)<;>simp[h]
   ·rintro (h|h|h)<;>simp[h]
theorem ju{q:P3}{xs:List aD}{y:aD}:y ∈ eo q xs↔y ∈ xs∧¬ aT y=q:=by
 unfold eo
 rw[List.mem_filter]
 simp
theorem fP{r:aD}{xs:List aD}{y:aD}:y ∈ cn r xs↔y=r∨(y ∈ xs∧¬ aT y=aT r):=by
 unfold cn
 rw[jt,ju]
theorem kH{r:aD}:∀ {xs:List aD},dU xs→(∀x ∈ xs,¬ aT x=aT r)→dU (eu r xs)
 | [],_,_=>by simp[eu,dU]
 |x :: xs,h,hn=>by
  have hc:=List.pairwise_cons.1 h
  unfold eu
  split
  ·rename_i hl
   refine List.pairwise_cons.2 ⟨fun y hy=>?_,h⟩
   rcases List.mem_cons.1 hy with rfl|hy
   ·exact hl
   ·exact dG hl (hc.1 y hy)
  ·rename_i hl
   refine List.pairwise_cons.2 ⟨fun y hy=>?_,kH hc.2 (fun z hz=>hn z (List.mem_cons_of_mem _ hz))⟩
   rcases jt.1 hy with rfl|hy
   ·rcases gO (aT x) (aT y)with h9|h9|h9
    ·exact h9
    ·exact absurd h9 (hn x (by simp))
    ·exact absurd h9 hl
   ·exact hc.1 y hy
theorem iw{r:aD}{xs:List aD}(h:dU xs):dU (cn r xs):=kH (h.sublist List.filter_sublist) (fun x hx=>(ju.1 hx).2)
theorem jv(r:aD)(xs:List aD):(cn r xs).length≤xs.length+1:=by
 have h1:∀ys:List aD,(eu r ys).length=ys.length+1:=by
  intro ys
  induction ys with
  |nil=>rfl
  |cons y ys ih=>unfold eu;split<;>simp[ih]
 unfold cn
 rw[h1]
 have:=List.length_filter_le (fun x:aD=> !decide (aT x=aT r)) xs
 unfold eo
 omega
/-- What is picked behind a put row, where all that was picked lies ahead of it. -/
theorem eM{p:aD→Bool}{r:aD}(hr:p r=true):∀ {xs:List aD},dU xs→(∀x ∈ xs,p x=true→bN (aT x) (aT r))→(eu r xs).filter p=xs.filter p++[r]
 | [],_,_=>by simp[eu,hr]
 |x :: xs,h,hp=>by
  have hc:=List.pairwise_cons.1 h
  unfold eu
  split
  ·rename_i hl
   have hno:∀y ∈ x :: xs,p y=false:=by
    intro y hy
    cases hy9:p y with
    |false=>rfl
    |true=>
     have h1:=hp y hy hy9
     have h2:bN (aT r) (aT y):=by
      rcases List.mem_cons.1 hy with rfl|hy
      ·exact hl
      ·exact dG hl (hc.1 y hy)
     exact absurd (dG h1 h2) (b5 _)
   have h0:(x :: xs).filter p=[]:=List.filter_eq_nil_iff.2 (fun y hy=>by rw[hno y hy];simp)
   rw[List.filter_cons,if_pos hr,h0]
   rfl
  ·rw[List.filter_cons,List.filter_cons,eM hr hc.2 (fun y hy=>hp y (List.mem_cons_of_mem _ hy))]
   split<;>rfl
theorem fQ{p:aD→Bool}{r:aD}(hr:p r=false):∀ {xs:List aD},(eu r xs).filter p=xs.filter p
 | []=>by simp[eu,hr]
 |x :: xs=>by
  unfold eu
  split
  ·rw[List.filter_cons (x:=r),if_neg (by rw[hr];simp)]
  ·rw[List.filter_cons,List.filter_cons,fQ hr]
theorem jw{p:aD→Bool}{q:P3}{xs:List aD}(h:∀x ∈ xs,aT x=q→p x=false):(eo q xs).filter p=xs.filter p:=by
 unfold eo
 rw[List.filter_filter]
 refine List.filter_congr (fun x hx=>?_)
 by_cases h9:aT x=q
 ·simp[h x hx h9]
 ·simp[h9]
/-- How a row is told behind one value more. -/
theorem know_fn{x:aD}{v:Int}(h:0≤x.fn∧x.fn≤1000000):0<(eK x v).fn:=by
 show 0<bo x.fn 1 x.fn 1 (wrap64 (x.fn+1))
 unfold bo
 split
 ·decide
 ·have:wrap64 (x.fn+1)=x.fn+1:=by unfold wrap64;omega
  simp[this]
  omega
theorem tel_know{m:Int}{x:aD}{v:Int}(h:0≤x.fn∧x.fn≤1000000):bQ m (eK x v)=decide (x.en≤m):=by
 unfold bQ
 have:=know_fn (v:=v) h
 simp[this]
 rfl
structure jW(pc:Bool)(m:Int)(xs ys:List aD)(ps:List cY)(q:P3):Prop where
 rows:xs=ys.map (gTx m)
 pans:ps=(ys.filter (bQ m)).map (dz pc)
 rise:dU ys
 ahead:∀y ∈ ys,bQ m y=true→bN (aT y) q
 fresh:∀y ∈ ys,¬ bN (aT y) q→0≤y.fn∧y.fn≤1000000
theorem jW.same{pc:Bool}{m:Int}{xs ys:List aD}{ps:List cY}{q:P3}(h:jW pc m xs ys ps q):fH q xs=fH q ys:=by
 rw[h.rows]
 unfold fH
 rw[List.find?_map]
 have e1:((fun x:aD=>decide (aT x=q))∘gTx m)=fun x=>decide (aT x=q):=by funext x;simp only[Function.comp,jr]
 rw[e1]
 cases hf:ys.find? (fun x=>decide (aT x=q))with
 |none=>rfl
 |some y=>
  have hy:aT y=q:=by simpa using List.find?_some hf
  have hm:y ∈ ys:=List.mem_of_find?_eq_some hf
  show some (gTx m y)=some y
  congr 1
  unfold gTx
  rw[if_neg]
  intro h9
  have:=h.ahead y hm h9
  rw[hy]at this
  exact b5 _ this
/-- A row more: the specification tells of it at once, the program behind all of them. -/
theorem jW.put{pc:Bool}{m:Int}{xs ys:List aD}{ps:List cY}{q:P3}(h:jW pc m xs ys ps q){r:aD}(hp:aT r=q)(htel:bQ m r=decide (r.en≤m)){q':P3}(hq:bN q q'):
  jW pc m (fw pc m xs r).1 (cn r ys) (ps++(fw pc m xs r).2) q':=by
 have hno:∀y ∈ ys,aT y=q→bQ m y=false:=by
  intro y hy h9
  cases h8:bQ m y with
  |false=>rfl
  |true=>
   have:=h.ahead y hy h8
   rw[h9]at this
   exact absurd this (b5 _)
 have hrise:dU (eo q ys):=h.rise.sublist List.filter_sublist
 have hah:∀y ∈ eo q ys,bQ m y=true→bN (aT y) (aT r):=fun y hy h9=>by rw[hp];exact h.ahead y (ju.1 hy).1 h9
 have hfr:∀y ∈ cn r ys,¬ bN (aT y) q'→0≤y.fn∧y.fn≤1000000:=by
  intro y hy h9
  rcases fP.1 hy with rfl|⟨hy,_⟩
  ·rw[hp]at h9
   exact absurd hq h9
  ·exact h.fresh y hy (fun h8=>h9 (dG h8 hq))
 have hah2:∀y ∈ cn r ys,bQ m y=true→bN (aT y) q':=by
  intro y hy h9
  rcases fP.1 hy with rfl|⟨hy,_⟩
  ·rw[hp];exact hq
  ·exact dG (h.ahead y hy h9) hq
 by_cases hm:m<r.en
 ·have ht:bQ m r=false:=by rw[htel];simp;omega
  have e1:fw pc m xs r=(cn r xs,[]):=by unfold fw;rw[if_pos hm]
  rw[e1]
  refine⟨?_,?_,iw h.rise,hah2,hfr⟩
  ·rw[putO_map (jr m),←h.rows]
   have:gTx m r=r:=by unfold gTx;rw[if_neg (by rw[ht];simp)]
   rw[this]
  ·show ps++[]=_
   rw[List.append_nil,h.pans]
   unfold cn
   rw[fQ ht,hp,jw hno]
 ·have ht:bQ m r=true:=by rw[htel];simp;omega
  have e1:fw pc m xs r=(cn (cy r) xs,[dz pc r]):=by unfold fw;rw[if_neg hm]
  rw[e1]
  refine⟨?_,?_,iw h.rise,hah2,hfr⟩
  ·rw[putO_map (jr m),←h.rows]
   have:gTx m r=cy r:=by unfold gTx;rw[if_pos ht]
   rw[this]
  ·show ps++[dz pc r]=_
   rw[h.pans]
   unfold cn
   rw[hp,eM ht hrise hah,jw hno,List.map_append]
   rfl
theorem jW.step{pc:Bool}{m:Int}{xs ys:List aD}{ps:List cY}{q:P3}(h:jW pc m xs ys ps q)(v:Int){q':P3}(hq:bN q q'):
  jW pc m (fw pc m xs (dA q v xs)).1 (cn (dA q v ys) ys) (ps++(fw pc m xs (dA q v xs)).2) q':=by
 have hs:dA q v xs=dA q v ys:=by unfold dA;rw[h.same]
 rw[hs]
 refine h.put (nexO_pl q v ys) ?_ hq
 unfold dA
 cases hf:fH q ys with
 |none=>exact tel_know ⟨(show(0:Int)≤0 by decide),(show(0:Int)≤1000000 by decide)⟩
 |some y=>
  have:=fx hf
  exact tel_know (h.fresh y this.2 (by rw[this.1];exact b5 _))
theorem jW.next{pc:Bool}{m:Int}{xs ys:List aD}{ps:List cY}{q q':P3}(h:jW pc m xs ys ps q)(hq:bN q q'):jW pc m xs ys ps q':=⟨h.rows,h.pans,h.rise,fun y hy h9=>dG (h.ahead y hy h9) hq,fun y hy h9=>h.fresh y hy (fun h8=>h9 (dG h8 hq))⟩
theorem jW.start{pc:Bool}{l m:Int}{xs:List aD}(h:dU xs)(hok:∀x ∈ xs,x.okB l m=true)(hf:∀x ∈ xs,x.fn≤1000000)(q:P3):jW pc m xs xs [] q:=by
 have hno:∀x ∈ xs,bQ m x=false:=fun x hx=>tel_no (hok x hx)
 refine⟨?_,?_,h,(fun y hy h9=>by rw[hno y hy]at h9;cases h9),fun y hy _=>⟨(cK (hok y hy)).2.2.1,hf y hy⟩⟩
 ·have:xs.map (gTx m)=xs.map id:=List.map_congr_left (fun x hx=>by unfold gTx;rw[if_neg (by rw[hno x hx];simp)];rfl)
  rw[this,List.map_id]
 ·rw[List.filter_eq_nil_iff.2 (fun y hy=>by rw[hno y hy];simp)]
  rfl
/-- The specification: into a window that does not grow; into a session; all windows of a record, one behind the other. -/
def ie(pc:Bool)(l m:Int)(xs:List aD)(ky v st en:Int):List aD×List cY×Bool:=if en+l≤m then(xs,[],false)else((fw pc m xs (dA (ky,st,en) v xs)).1,(fw pc m xs (dA (ky,st,en) v xs)).2,true)
def dh(ky st en:Int)(x:aD):Bool:=decide (x.ky=ky)&&bi x.st x.en st en
def ew(st en:Int)(old:List aD):Int×Int:=old.foldl (fun p x=>(fp p.1 x.st,fo p.2 x.en)) (st,en)
def ep(v:Int)(old:List aD):A4:=old.foldl (fun g x=>fO g (kg x)) (eF (0,0,0,0) v)
def gonX(x:aD):cY:=⟨x.ky,x.st,x.en,x.td,3,0,0,0,0⟩
def dm(old:List aD):List cY:=(old.filter (fun x=>decide (0<x.td))).map gonX
/-- One row alone that is as wide as all of it. -/
def dZ(sp:Int×Int)(old:List aD):Bool:=match old with
 | [x]=>decide (x.st=sp.1)&&decide (x.en=sp.2)
 |_=>false
def seF(pc:Bool)(l m:Int)(xs:List aD)(ky v st en:Int):List aD×List cY×Bool:=
 let old:=xs.filter (dh ky st en)
 let sp:=ew st en old
 if sp.2+l≤m then(xs,[],false)
 else if dZ sp old=true then ie pc l m xs ky v sp.1 sp.2
 else((fw pc m (xs.filter (fun x=> !dh ky st en x)) (fk (ky,sp.1,sp.2) (ep v old))).1,dm old++(fw pc m (xs.filter (fun x=> !dh ky st en x)) (fk (ky,sp.1,sp.2) (ep v old))).2,true)
def cH(ses pc:Bool)(l m ky v:Int)(a:List aD×List cY×List dr)(w:dr):List aD×List cY×List dr:=
 let r:=if ses=true then seF pc l m a.1 ky v w.a w.b else ie pc l m a.1 ky v w.a w.b
 (r.1,a.2.1++r.2.1,if r.2.2=true then a.2.2 else a.2.2++[w])
def db(ses pc:Bool)(l m ky v:Int)(xs:List aD)(ws:List dr):List aD×List cY×List dr:=ws.foldl (cH ses pc l m ky v) (xs,[],[])
/-- The program, ahead of what is gathered: the rows that a window meets. -/
def gG(ses:Bool)(ky st en:Int)(xs:List aD):List aD:=if ses=true then xs.filter (dh ky st en)else(fH (ky,st,en) xs).toList
def bH(ses:Bool)(l m ky v:Int)(a:List aD×List cY×List dr)(w:dr):List aD×List cY×List dr:=
 let met:=gG ses ky w.a w.b a.1
 let sp:=ew w.a w.b met
 if sp.2+l≤m then(a.1,a.2.1,a.2.2++[w])
 else if dZ sp met=true then(cn (dA (ky,sp.1,sp.2) v a.1) a.1,a.2.1,a.2.2)
 else(cn (fk (ky,sp.1,sp.2) (ep v met)) (a.1.filter (fun x=> !met.any (fun y=>decide (aT y=aT x)))),a.2.1++dm met,a.2.2)
def eD(ses:Bool)(l m ky v:Int)(xs:List aD)(ws:List dr):List aD×List cY×List dr:=ws.foldl (bH ses l m ky v) (xs,[],[])
def lq(q:P3):P3:=(q.1,q.2.1,q.2.2+1)
theorem lr(q:P3):bN q (lq q):= .inr ⟨rfl,.inr ⟨rfl,by show q.2.2<q.2.2+1;omega⟩⟩
theorem suc_le{q p:P3}(h:bN q p):lq q=p∨bN (lq q) p:=by
 rcases gO (lq q) p with h9|h9|h9
 ·exact .inr h9
 ·exact .inl h9
 ·exfalso
  unfold bN lq at*
  simp only at*
  omega
/-- Where windows do not grow the program puts the very row that the specification puts. -/
theorem loI_same(a:Int):fp a a=a:=by unfold fp;simp
theorem hiI_same(a:Int):fo a a=a:=by unfold fo;simp
theorem jx{l m ky v:Int}{a:List aD×List cY×List dr}{w:dr}:bH false l m ky v a w=if w.b+l≤m then(a.1,a.2.1,a.2.2++[w])else(cn (dA (ky,w.a,w.b) v a.1) a.1,a.2.1,a.2.2):=by
 unfold bH gG
 cases hf:fH (ky,w.a,w.b) a.1 with
 |none=>
  simp only[Bool.false_eq_true,if_false,Option.toList,ew,List.foldl_nil,dZ,ep,dm,List.filter_nil,List.map_nil,List.append_nil,List.any_nil,Bool.not_false]
  have e1:dA (ky,w.a,w.b) v a.1=fk (ky,w.a,w.b) (eF (0,0,0,0) v):=by unfold dA;rw[hf];exact knowX_zero _ _
  rw[e1,List.filter_eq_self.2 (fun _ _=>rfl)]
 |some y=>
  have hy:=fx hf
  have h1:y.ky=ky∧y.st=w.a∧y.en=w.b:=by have:=hy.1;unfold aT at this;simp only[Prod.mk.injEq]at this;exact this
  simp only[Bool.false_eq_true,if_false,Option.toList,ew,List.foldl_cons,List.foldl_nil,dZ,h1.2.1,h1.2.2,loI_same,hiI_same,decide_true,Bool.and_self,if_true]
theorem jy{pc:Bool}{l m ky v:Int}:∀(ws:List dr) (a:List aD×List cY×List dr) (ys:List aD) (q:P3),jW pc m a.1 ys a.2.1 q→(∀w ∈ ws,q=(ky,w.a,w.b)∨bN q (ky,w.a,w.b))→ws.Pairwise (fun x y=>bN (ky,x.a,x.b) (ky,y.a,y.b))→
  ∃q',jW pc m (ws.foldl (cH false pc l m ky v) a).1 (ws.foldl (bH false l m ky v) (ys,[],a.2.2)).1 (ws.foldl (cH false pc l m ky v) a).2.1 q'∧(ws.foldl (bH false l m ky v) (ys,[],a.2.2)).2.1=[]∧(ws.foldl (cH false pc l m ky v) a).2.2=(ws.foldl (bH false l m ky v) (ys,[],a.2.2)).2.2
 | [],a,ys,q,h,_,_=>⟨q,h,rfl,rfl⟩
 |w :: ws,a,ys,q,h,hq,hw=>by
  have hc:=List.pairwise_cons.1 hw
  have h1:jW pc m a.1 ys a.2.1 (ky,w.a,w.b):=by
   rcases hq w (by simp)with h9|h9
   ·rw[←h9];exact h
   ·exact h.next h9
  have hq2:∀w' ∈ ws,lq (ky,w.a,w.b)=(ky,w'.a,w'.b)∨bN (lq (ky,w.a,w.b)) (ky,w'.a,w'.b):=fun w' hw'=>suc_le (hc.1 w' hw')
  rw[List.foldl_cons,List.foldl_cons,jx]
  by_cases hs:w.b+l≤m
  ·have e1:cH false pc l m ky v a w=(a.1,a.2.1,a.2.2++[w]):=by
    unfold cH ie
    simp[hs]
   rw[e1,if_pos hs]
   exact jy ws (a.1,a.2.1,a.2.2++[w]) ys (lq (ky,w.a,w.b)) (h1.next (lr _)) hq2 hc.2
  ·have e1:cH false pc l m ky v a w=((fw pc m a.1 (dA (ky,w.a,w.b) v a.1)).1,a.2.1++(fw pc m a.1 (dA (ky,w.a,w.b) v a.1)).2,a.2.2):=by
    unfold cH ie
    simp[hs]
   rw[e1,if_neg hs]
   exact jy ws (_,_,a.2.2) (cn (dA (ky,w.a,w.b) v ys) ys) (lq (ky,w.a,w.b)) (h1.step v (lr _)) hq2 hc.2
theorem i7:∀(l:List Bool) (i:Nat),l[i]? =some false→(l.set i true).count false+1=l.count false
 | [],i,h=>by simp at h
 |b :: l,0,h=>by
  simp at h
  subst h
  simp
 |b :: l,i+1,h=>by
  have h1:=i7 l i (by simpa using h)
  simp only[List.set_cons_succ,List.count_cons]
  omega
theorem cnt_zero{l:List Bool}(h:l.count false=0){i:Nat}(hi:l[i]? =some false):False:=by
 have:=i7 l i hi
 omega
/-- All that a region's operations wait for stands ahead of them. -/
def fF:Nat→List Oper→Bool
 |_,[]=>true
 |k,o :: os=>o.after.all (fun e=> !Region.binds .any e||decide (e.on<k))&&fF (k+1) os
theorem fR:∀(l:List Oper) (k:Nat),fF k l=true→∀(i:Nat) (o:Oper),l[i]? =some o→∀e ∈ o.after,Region.binds .any e=true→e.on<k+i
 | [],k,_,i,o,h=>by simp at h
 |x :: l,k,hw,0,o,h=>by
  simp only[fF,Bool.and_eq_true]at hw
  simp at h
  subst h
  intro e he hb
  have:=Array.all_eq_true_iff_forall_mem.1 hw.1 e he
  rw[hb]at this
  simpa using this
 |x :: l,k,hw,i+1,o,h=>by
  simp only[fF,Bool.and_eq_true]at hw
  intro e he hb
  have:=fR l (k+1) hw.2 i o (by simpa using h) e he hb
  omega
/-- For each operation, with its number. -/
def lu(F:Nat→Oper→Prop):Nat→List Oper→Prop
 |_,[]=>True
 |k,o :: os=>F k o∧lu F (k+1) os
theorem iy{F:Nat→Oper→Prop}:∀(l:List Oper) (k:Nat),lu F k l→∀(i:Nat) (o:Oper),l[i]? =some o→F (k+i) o
 | [],k,_,i,o,h=>by simp at h
 |x :: l,k,hF,0,o,h=>by
  simp at h
  subst h
  exact hF.1
 |x :: l,k,hF,i+1,o,h=>by
  have:=iy l (k+1) hF.2 i o (by simpa using h)
  rw[Nat.add_assoc,Nat.add_comm 1 i]at this
  exact this
/-- What is done, and one more. -/
def more(L:Nat→Bool)(i:Nat):Nat→Bool:=fun j=>if j=i then true else L j
theorem mO{L:Nat→Bool}{i j:Nat}{v:Bool}{p:Prop}(h:L j=v→p)(hn:decide (j=i)=false:=by decide):more L i j=v→p:=fun h9=>h (by unfold more at h9;rw[if_neg (of_decide_eq_false hn)]at h9;exact h9)
theorem mP{L:Nat→Bool}{i j:Nat}{v:Bool}(h9:more L i j=v)(hn:decide (j=i)=false:=by decide):L j=v:=by unfold more at h9;rw[if_neg (of_decide_eq_false hn)]at h9;exact h9
theorem eA(L:Nat→Bool)(i:Nat):more L i i=true:=by simp[more]
theorem ey{L:Nat→Bool}{i j:Nat}(h:j≠i):more L i j=L j:=by simp[more,h]
section
variable {P : Program} {ops : List Oper} {Q : Exit → Act → World → Prop}
/-- One operation keeps the invariant, whenever it comes. -/
def Keeps1(P:Program)(ops:List Oper)(Q:Exit→Act→World→Prop)(I:(Nat→Bool)→Act→World→Prop)(i:Nat)(o:Oper):Prop:=∀(L:Nat→Bool) (a:Act) (w:World),I L a w→L i=false→(∀e ∈ o.after,Region.binds .any e=true→L e.on=true)→∀K':Act→World→Prop,Shut (∀a' w',I (more L i) a' w'→K' a' w')→if Region.wanted o (yielded ops.toArray a.tmps)=true then Oper.wp P o a w K' Q else K' (a.put o.dst undef) w
theorem kJ(I:(Nat→Bool)→Act→World→Prop)(step:∀i o,ops[i]? =some o→Keeps1 P ops Q I i o)(fin:∀L a w,I L a w→(∀i,i<ops.length→L i=true)→Q .normal a w)(hw:fF 0 ops=true):
  ∀(fuel:Nat) (l:Array Bool) (L:Nat→Bool) (a:Act) (w:World),l.size=ops.length→(∀i,i<ops.length→l[i]? =some (L i))→l.toList.count false≤fuel→I L a w→wpAny P .any ops.toArray Q fuel l a w:=by
 have key:∀(l:Array Bool) (L:Nat→Bool),l.size=ops.length→(∀i,i<ops.length→l[i]? =some (L i))→Region.ready .any ops.toArray l=[]→∀i,i<ops.length→L i=true:=by
  intro l L hs hL hr i
  induction i using Nat.strongRecOn with
  |_ i ih=>
   intro hi
   cases hb:L i with
   |true=>rfl
   |false=>
    have hm:i ∈ Region.ready .any ops.toArray l:=by
     refine mem_ready.2 ⟨?_,ops[i],?_,fun e he hb'=>?_⟩
     ·rw[Array.getD_eq_getD_getElem?,hL i hi,hb];rfl
     ·simp[hi]
     ·have hlt:=fR ops 0 hw i ops[i] (by simp[hi]) e he hb'
      rw[Nat.zero_add]at hlt
      rw[Array.getD_eq_getD_getElem?,hL e.on (by omega),ih e.on hlt (by omega)]
      rfl
    rw[hr]at hm
    cases hm
 intro fuel
 induction fuel with
 |zero=>
  intro l L a w hs hL hc hI
  have hr:Region.ready .any ops.toArray l=[]:=by
   cases hx:Region.ready .any ops.toArray l with
   |nil=>rfl
   |cons i rs=>
    have hm:i ∈ Region.ready .any ops.toArray l:=by rw[hx];exact List.mem_cons_self
    obtain⟨h1,o,ho,_⟩:=mem_ready.1 hm
    have hi:i<ops.length:=by simpa using(Array.getElem?_eq_some_iff.1 ho).1
    rw[Array.getD_eq_getD_getElem?,hL i hi]at h1
    exact absurd (cnt_zero (i:=i) (Nat.le_zero.1 hc) (by rw[Array.getElem?_toList,hL i hi];simpa using h1)) (fun h=>h)
  exact⟨hr,fin L a w hI (key l L hs hL hr)⟩
 |succ fuel ih=>
  intro l L a w hs hL hc hI
  refine⟨fun hr=>fin L a w hI (key l L hs hL hr),fun i hi=>?_⟩
  obtain⟨h1,o,ho,hall⟩:=mem_ready.1 hi
  have hlt:i<ops.length:=by simpa using(Array.getElem?_eq_some_iff.1 ho).1
  rw[Array.getD_eq_getD_getElem?,hL i hlt]at h1
  have hLi:L i=false:=by simpa using h1
  refine wpOp_step ho (fun K' hK=>?_)
  have hst:=step i o (by simpa using ho)
  refine hst L a w hI hLi (fun e he hb=>?_) K' (fun a' w' hI'=>hK a' w' ?_)
  ·have:=hall e he hb
   have hlt2:=fR ops 0 hw i o (by simpa using ho) e he hb
   rw[Nat.zero_add]at hlt2
   rw[Array.getD_eq_getD_getElem?,hL e.on (by omega)]at this
   simpa using this
  ·refine ih _ (more L i) a' w' (by simpa using hs) (fun j hj=>?_) ?_ hI'
   ·by_cases hji:j=i
    ·subst hji
     rw[eA,Array.getElem?_setIfInBounds]
     simp[hs,hlt]
    ·rw[ey hji,Array.getElem?_setIfInBounds,if_neg (fun e=>hji e.symm)]
     exact hL j hj
   ·have h9:=i7 l.toList i (by rw[Array.getElem?_toList,hL i hlt,hLi])
    rw[Array.toList_setIfInBounds]
    omega
theorem wp_region_inv{id:Nat}{a:Act}{w:World}(hm:P.follows .mixedOrders=true)(hw:fF 0 ops=true)(I:(Nat→Bool)→Act→World→Prop)(h0:I (fun _=>false) a w.drew)(step:lu (Keeps1 P ops Q I) 0 ops)(fin:∀L a w,I L a w→(∀i,i<ops.length→L i=true)→Q .normal a w):(Code.region id ops.toArray true).wp P Q a w:=by
 refine wp_region_any hm (kJ I (fun i o ho=>by have:=iy ops 0 step i o ho;rw[Nat.zero_add]at this;exact this) fin hw ops.toArray.size _ (fun _=>false) a _ (by simp) (fun i hi=>by simp[hi]) ?_ h0)
 simp
/-- For each operation but the last; and for the last one. -/
def i8(F G:Nat→Oper→Prop):Nat→List Oper→Prop
 |_,[]=>True
 |k,[o]=>G k o
 |k,o :: o' :: os=>F k o∧i8 F G (k+1) (o' :: os)
theorem gH{F G:Nat→Oper→Prop}:∀(l:List Oper) (k:Nat),i8 F G k l→∀(i:Nat) (o:Oper),l[i]? =some o→(i+1<l.length→F (k+i) o)∧(i+1=l.length→G (k+i) o)
 | [],k,_,i,o,h=>by simp at h
 | [x],k,hF,0,o,h=>by
  simp at h
  subst h
  exact⟨fun h=>by simp at h,fun _=>hF⟩
 | [x],k,hF,i+1,o,h=>by simp at h
 |x :: y :: l,k,hF,0,o,h=>by
  simp at h
  subst h
  exact⟨fun _=>hF.1,fun h=>by simp at h⟩
 |x :: y :: l,k,hF,i+1,o,h=>by
  have h9:=gH (y :: l) (k+1) hF.2 i o (by simpa using h)
  rw[Nat.add_assoc,Nat.add_comm 1 i]at h9
  refine⟨fun hl=>h9.1 ?_,fun hl=>h9.2 ?_⟩
  ·simp at hl ⊢;omega
  ·simp at hl ⊢;omega
/-- The last operation fF for all others. -/
def gi(ops:List Oper):Bool:=match ops.getLast? with
 |none=>false
 |some o=>(List.range (ops.length - 1)).all (fun j=>o.after.any (fun e=>e.on==j&&Region.binds .any e))
/-- The last operation, when all others are done. -/
def Ends1(P:Program)(ops:List Oper)(Q:Exit→Act→World→Prop)(I:(Nat→Bool)→Act→World→Prop)(i:Nat)(o:Oper):Prop:=∀(L:Nat→Bool) (a:Act) (w:World),I L a w→(∀j,j<i→L j=true)→∀K':Act→World→Prop,Shut (∀a' w',Q .normal a' w'→K' a' w')→if Region.wanted o (yielded ops.toArray a.tmps)=true then Oper.wp P o a w K' Q else K' (a.put o.dst undef) w
theorem fT{id:Nat}{a:Act}{w:World}(hm:P.follows .mixedOrders=true)(hw:fF 0 ops=true)(hl:gi ops=true)(I:(Nat→Bool)→Act→World→Prop)(h0:I (fun _=>false) a w.drew)(step:i8 (Keeps1 P ops Q I) (Ends1 P ops Q I) 0 ops):(Code.region id ops.toArray true).wp P Q a w:=by
 have hne:ops≠ []:=by
  intro h
  rw[h]at hl
  cases hl
 have hlen:0<ops.length:=List.length_pos_iff.2 hne
 obtain⟨lo,hlo⟩:∃lo,ops.getLast? =some lo:=⟨_,List.getLast?_eq_some_getLast hne⟩
 have hat:ops[ops.length - 1]? =some lo:=by rw[←List.getLast?_eq_getElem?];exact hlo
 unfold gi at hl
 rw[hlo]at hl
 have hedge:∀j,j<ops.length - 1→∃e ∈ lo.after,e.on=j∧Region.binds .any e=true:=by
  intro j hj
  have h1:=List.all_eq_true.1 hl j (List.mem_range.2 hj)
  simp at h1
  obtain⟨i,hi,h2,h3⟩:=h1
  exact⟨lo.after[i],Array.getElem_mem hi,h2,h3⟩
 refine wp_region_any hm (kJ (fun L a w=>(L (ops.length - 1)=false∧I L a w)∨((∀j,j<ops.length→L j=true)∧Q .normal a w)) ?_ ?_ hw ops.toArray.size _ (fun _=>false) a _ (by simp) (fun i hi=>by simp[hi]) ?_ (Or.inl ⟨rfl,h0⟩))
 ·intro i o ho L a w hI hL hA K' hK
  have hi:i<ops.length:=(List.getElem?_eq_some_iff.1 ho).1
  rcases hI with⟨h1,hI⟩|⟨h1,_⟩
  ·have h9:=gH ops 0 step i o ho
   rw[Nat.zero_add]at h9
   by_cases hil:i+1=ops.length
   ·obtain rfl:o=lo:=by
     have:i=ops.length - 1:=by omega
     rw[this,hat]at ho
     exact(Option.some.inj ho).symm
    have hall:∀j,j<i→L j=true:=by
     intro j hj
     obtain⟨e,he,rfl,hb⟩:=hedge j (by omega)
     exact hA e he hb
    refine h9.2 hil L a w hI hall K' (fun a' w' hQ=>hK.out a' w' (Or.inr ⟨fun j hj=>?_,hQ⟩))
    by_cases hji:j=i
    ·subst hji;exact eA L j
    ·rw[ey hji];exact hall j (by omega)
   ·refine h9.1 (by omega) L a w hI hL hA K' (fun a' w' hI'=>hK.out a' w' (Or.inl ⟨?_,hI'⟩))
    rw[ey (by omega)]
    exact h1
  ·rw[h1 i hi]at hL
   cases hL
 ·intro L a w hI hall
  rcases hI with⟨h1,_⟩|⟨_,hQ⟩
  ·rw[hall (ops.length - 1) (by omega)]at h1
   cases h1
  ·exact hQ
 ·simp
theorem lx{Pd:Nat→Value→World→Prop}{V:Nat→Value}{L:Nat→Bool}{w w':World}{i:Nat}{v:Value}(h:∀j,L j=true→Pd j (V j) w)(hst:∀j u,Pd j u w→Pd j u w')(hv:Pd i v w'):∀j,more L i j=true→Pd j (if j=i then v else V j) w':=by
 intro j hj
 by_cases hji:j=i
 ·subst hji;rw[if_pos rfl];exact hv
 ·rw[if_neg hji];rw[ey hji]at hj;exact hst j _ (h j hj)
end
section
variable {F : Fence} {n : Nat} {P : Program} {ops : List Oper} {Q : Exit → Act → World → Prop}
/-- One operation keeps the invariant, whenever it comes. -/
def ly(F:Fence)(n:Nat)(P:Program)(ops:List Oper)(Q:Exit→Act→World→Prop)(I:(Nat→Bool)→Act→World→Prop)(i:Nat)(o:Oper):Prop:=∀(L:Nat→Bool) (a:Act) (w:World),I L a w→L i=false→(∀e ∈ o.after,Region.binds .any e=true→L e.on=true)→∀K':Act→World→Prop,Shut (∀a' w',I (more L i) a' w'→K' a' w')→if Region.wanted o (yielded ops.toArray a.tmps)=true then Oper.wpIn F n P o a w K' Q else(∀f,o.about P w a.eval=some f→F.fn f)∧K' (a.put o.dst undef) w
theorem jz(I:(Nat→Bool)→Act→World→Prop)(step:∀i o,ops[i]? =some o→ly F n P ops Q I i o)(fin:∀L a w,I L a w→(∀i,i<ops.length→L i=true)→Q .normal a w)(hw:fF 0 ops=true):
  ∀(fuel:Nat) (l:Array Bool) (L:Nat→Bool) (a:Act) (w:World),l.size=ops.length→(∀i,i<ops.length→l[i]? =some (L i))→l.toList.count false≤fuel→I L a w→wpAnyIn F n P .any ops.toArray Q fuel l a w:=by
 have key:∀(l:Array Bool) (L:Nat→Bool),l.size=ops.length→(∀i,i<ops.length→l[i]? =some (L i))→Region.ready .any ops.toArray l=[]→∀i,i<ops.length→L i=true:=by
  intro l L hs hL hr i
  induction i using Nat.strongRecOn with
  |_ i ih=>
   intro hi
   cases hb:L i with
   |true=>rfl
   |false=>
    have hm:i ∈ Region.ready .any ops.toArray l:=by
     refine mem_ready.2 ⟨?_,ops[i],?_,fun e he hb'=>?_⟩
     ·rw[Array.getD_eq_getD_getElem?,hL i hi,hb];rfl
     ·simp[hi]
     ·have hlt:=fR ops 0 hw i ops[i] (by simp[hi]) e he hb'
      rw[Nat.zero_add]at hlt
      rw[Array.getD_eq_getD_getElem?,hL e.on (by omega),ih e.on hlt (by omega)]
      rfl
    rw[hr]at hm
    cases hm
 intro fuel
 induction fuel with
 |zero=>
  intro l L a w hs hL hc hI
  have hr:Region.ready .any ops.toArray l=[]:=by
   cases hx:Region.ready .any ops.toArray l with
   |nil=>rfl
   |cons i rs=>
    have hm:i ∈ Region.ready .any ops.toArray l:=by rw[hx];exact List.mem_cons_self
    obtain⟨h1,o,ho,_⟩:=mem_ready.1 hm
    have hi:i<ops.length:=by simpa using(Array.getElem?_eq_some_iff.1 ho).1
    rw[Array.getD_eq_getD_getElem?,hL i hi]at h1
    exact absurd (cnt_zero (i:=i) (Nat.le_zero.1 hc) (by rw[Array.getElem?_toList,hL i hi];simpa using h1)) (fun h=>h)
  exact⟨hr,fin L a w hI (key l L hs hL hr)⟩
 |succ fuel ih=>
  intro l L a w hs hL hc hI
  refine⟨fun hr=>fin L a w hI (key l L hs hL hr),fun i hi=>?_⟩
  obtain⟨h1,o,ho,hall⟩:=mem_ready.1 hi
  have hlt:i<ops.length:=by simpa using(Array.getElem?_eq_some_iff.1 ho).1
  rw[Array.getD_eq_getD_getElem?,hL i hlt]at h1
  have hLi:L i=false:=by simpa using h1
  refine wpOpIn_step ho (fun K' hK=>?_)
  have hst:=step i o (by simpa using ho)
  refine hst L a w hI hLi (fun e he hb=>?_) K' (fun a' w' hI'=>hK a' w' ?_)
  ·have:=hall e he hb
   have hlt2:=fR ops 0 hw i o (by simpa using ho) e he hb
   rw[Nat.zero_add]at hlt2
   rw[Array.getD_eq_getD_getElem?,hL e.on (by omega)]at this
   simpa using this
  ·refine ih _ (more L i) a' w' (by simpa using hs) (fun j hj=>?_) ?_ hI'
   ·by_cases hji:j=i
    ·subst hji
     rw[eA,Array.getElem?_setIfInBounds]
     simp[hs,hlt]
    ·rw[ey hji,Array.getElem?_setIfInBounds,if_neg (fun e=>hji e.symm)]
     exact hL j hj
   ·have h9:=i7 l.toList i (by rw[Array.getElem?_toList,hL i hlt,hLi])
    rw[Array.toList_setIfInBounds]
    omega
theorem bU{id:Nat}{a:Act}{w:World}(hm:P.follows .mixedOrders=true)(hw:fF 0 ops=true)(I:(Nat→Bool)→Act→World→Prop)(h0:I (fun _=>false) a w.drew)(step:lu (ly F n P ops Q I) 0 ops)(fin:∀L a w,I L a w→(∀i,i<ops.length→L i=true)→Q .normal a w):(Code.region id ops.toArray true).wpIn F n P Q a w:=by
 refine wpIn_region_any hm (jz I (fun i o ho=>by have:=iy ops 0 step i o ho;rw[Nat.zero_add]at this;exact this) fin hw ops.toArray.size _ (fun _=>false) a _ (by simp) (fun i hi=>by simp[hi]) ?_ h0)
 simp
/-- The last operation, when all others are done. -/
def Ends1F(F:Fence)(n:Nat)(P:Program)(ops:List Oper)(Q:Exit→Act→World→Prop)(I:(Nat→Bool)→Act→World→Prop)(i:Nat)(o:Oper):Prop:=∀(L:Nat→Bool) (a:Act) (w:World),I L a w→(∀j,j<i→L j=true)→∀K':Act→World→Prop,Shut (∀a' w',Q .normal a' w'→K' a' w')→if Region.wanted o (yielded ops.toArray a.tmps)=true then Oper.wpIn F n P o a w K' Q else(∀f,o.about P w a.eval=some f→F.fn f)∧K' (a.put o.dst undef) w
theorem iz{id:Nat}{a:Act}{w:World}(hm:P.follows .mixedOrders=true)(hw:fF 0 ops=true)(hl:gi ops=true)(I:(Nat→Bool)→Act→World→Prop)(h0:I (fun _=>false) a w.drew)(step:i8 (ly F n P ops Q I) (Ends1F F n P ops Q I) 0 ops):(Code.region id ops.toArray true).wpIn F n P Q a w:=by
 have hne:ops≠ []:=by
  intro h
  rw[h]at hl
  cases hl
 have hlen:0<ops.length:=List.length_pos_iff.2 hne
 obtain⟨lo,hlo⟩:∃lo,ops.getLast? =some lo:=⟨_,List.getLast?_eq_some_getLast hne⟩
 have hat:ops[ops.length - 1]? =some lo:=by rw[←List.getLast?_eq_getElem?];exact hlo
 unfold gi at hl
 rw[hlo]at hl
 have hedge:∀j,j<ops.length - 1→∃e ∈ lo.after,e.on=j∧Region.binds .any e=true:=by
  intro j hj
  have h1:=List.all_eq_true.1 hl j (List.mem_range.2 hj)
  simp at h1
  obtain⟨i,hi,h2,h3⟩:=h1
  exact⟨lo.after[i],Array.getElem_mem hi,h2,h3⟩
 refine wpIn_region_any hm (jz (fun L a w=>(L (ops.length - 1)=false∧I L a w)∨((∀j,j<ops.length→L j=true)∧Q .normal a w)) ?_ ?_ hw ops.toArray.size _ (fun _=>false) a _ (by simp) (fun i hi=>by simp[hi]) ?_ (Or.inl ⟨rfl,h0⟩))
 ·intro i o ho L a w hI hL hA K' hK
  have hi:i<ops.length:=(List.getElem?_eq_some_iff.1 ho).1
  rcases hI with⟨h1,hI⟩|⟨h1,_⟩
  ·have h9:=gH ops 0 step i o ho
   rw[Nat.zero_add]at h9
   by_cases hil:i+1=ops.length
   ·obtain rfl:o=lo:=by
     have:i=ops.length - 1:=by omega
     rw[this,hat]at ho
     exact(Option.some.inj ho).symm
    have hall:∀j,j<i→L j=true:=by
     intro j hj
     obtain⟨e,he,rfl,hb⟩:=hedge j (by omega)
     exact hA e he hb
    refine h9.2 hil L a w hI hall K' (fun a' w' hQ=>hK.out a' w' (Or.inr ⟨fun j hj=>?_,hQ⟩))
    by_cases hji:j=i
    ·subst hji;exact eA L j
    ·rw[ey hji];exact hall j (by omega)
   ·refine h9.1 (by omega) L a w hI hL hA K' (fun a' w' hI'=>hK.out a' w' (Or.inl ⟨?_,hI'⟩))
    rw[ey (by omega)]
    exact h1
  ·rw[h1 i hi]at hL
   cases hL
 ·intro L a w hI hall
  rcases hI with⟨h1,_⟩|⟨_,hQ⟩
  ·rw[hall (ops.length - 1) (by omega)]at h1
   cases h1
  ·exact hQ
 ·simp
end
theorem cE{P:Program}{ops:Array Oper}{o:Oper}{a:Act}{w:World}{K:Act→World→Prop}{Q:Exit→Act→World→Prop}{E:Prop}
  (hg:o.guard=none) (s x:Operand) (t:TypeId) (hop:o.op=Op.call {callee:=Callee.builtin Builtin.append,args:=#[s,x],argTypes:=#[t,t]}) (base:Nat)
  (e:TypeId) (i:TypeInfo) (z:Value) (size bytes:Nat) (h1:P.underlying t=some (.slice e)) (h2:P.info? e=some i) (h3:i.zero=some z) (h4:i.size=size) (h5:i.bytes=bytes) (h6:z.cells.size=size) (h7:0<size)
  (v:Value) (n:Nat) (xs:List Value) (hs:a.eval s=v) (hown:w.ownsRow base e size v n xs)
  (ad:Addr) (m c:Nat) (news:List Value) (hx:a.eval x= .slice (some ad) m c) (hn:news.length=m*size) (hc:∀j u,news[j]? =some u→w.cell? (ad.add j)=some u) (h1c:∀u ∈ news,u.oneCell'=true)
  (b1:n+m≤maxLen) (b2:(n+m)*bytes≤140737488355328) (hbase:base≤w.heap.size)
  (hK:∀v' w',w'.ownsRow base e size v' (n+m) (xs++news)→w.grownBy w' v.ownBlock→(v'.ownBlock=v.ownBlock∨v'.ownBlock=some w.heap.size)→K (a.put o.dst v') w'):
  if Region.wanted o (yielded ops a.tmps)=true then Oper.wp P o a w K Q else E:=by
 have hw:Region.wanted o (yielded ops a.tmps)=true:=by simp[Region.wanted,hg]
 rw[if_pos hw]
 obtain⟨v',w',hrun,r1,r2,_,r3⟩:=run_append_own_at (P:=P) (w:=w) base t o.type e i z size bytes h1 h2 h3 h4 h5 h6 h7 v n xs hown ad m c news hn hc h1c b1 b2 hbase
 unfold Oper.wp
 simp[execOp,hop,resolve,invoke,builtin,hs,hx,hrun,Result.andThen]
 exact hK v' w' r1 r2 r3
theorem lz{W:World}{B:Nat}{e:TypeId}{size n:Nat}{v:Value}{xs:List Value}(h:W.ownsRow B e size v n xs):∀k,v.ownBlock=some k→k<W.heap.size:=by
 intro k hk
 rcases h.2 with⟨rfl,_⟩|⟨g,cap,cur,rfl,hg,hblk,_⟩
 ·cases hk
 ·simp[Value.ownBlock]at hk
  subst hk
  exact(Array.getElem?_eq_some_iff.1 hblk).1
theorem gx{F:Fence}{nn:Nat}{P:Program}{ops:Array Oper}{o:Oper}{a:Act}{w:World}{K:Act→World→Prop}{Q:Exit→Act→World→Prop}{E:Prop}
  (hg:o.guard=none) (s x:Operand) (t:TypeId) (hop:o.op=Op.call {callee:=Callee.builtin Builtin.append,args:=#[s,x],argTypes:=#[t,t]}) (base:Nat)
  (e:TypeId) (i:TypeInfo) (z:Value) (size bytes:Nat) (h1:P.underlying t=some (.slice e)) (h2:P.info? e=some i) (h3:i.zero=some z) (h4:i.size=size) (h5:i.bytes=bytes) (h6:z.cells.size=size) (h7:0<size)
  (v:Value) (n:Nat) (xs:List Value) (hs:a.eval s=v) (hown:w.ownsRow base e size v n xs)
  (ad:Addr) (m c:Nat) (news:List Value) (hx:a.eval x= .slice (some ad) m c) (hn:news.length=m*size) (hc:∀j u,news[j]? =some u→w.cell? (ad.add j)=some u) (h1c:∀u ∈ news,u.oneCell'=true)
  (b1:n+m≤maxLen) (b2:(n+m)*bytes≤140737488355328) (hbase:base≤w.heap.size)
  (hK:∀v' w',w'.ownsRow base e size v' (n+m) (xs++news)→w.grownBy w' v.ownBlock→(v'.ownBlock=v.ownBlock∨v'.ownBlock=some w.heap.size)→K (a.put o.dst v') w'):
  if Region.wanted o (yielded ops a.tmps)=true then Oper.wpIn F nn P o a w K Q else E:=by
 have hw:Region.wanted o (yielded ops a.tmps)=true:=by simp[Region.wanted,hg]
 rw[if_pos hw]
 obtain⟨v',w',hrun,r1,r2,_,r3⟩:=run_append_own_at (P:=P) (w:=w) base t o.type e i z size bytes h1 h2 h3 h4 h5 h6 h7 v n xs hown ad m c news hn hc h1c b1 b2 hbase
 unfold Oper.wpIn
 refine⟨?_,?_⟩
 ·simp[Oper.about,hop,resolve,Target.leads,Sem.run_pure]
 ·rw[Oper.semAt_plain F _ _ (by rw[hop];intro c hc';cases hc')]
  simp[execOp,hop,resolve,invoke,builtin,hs,hx,hrun,Result.andThen]
  exact hK v' w' r1 r2 r3
end Go.Proofs.YtdmhihcipkhecaaGreat
