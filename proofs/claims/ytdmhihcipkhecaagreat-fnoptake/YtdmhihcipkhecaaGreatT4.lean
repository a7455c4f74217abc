/- Laid together: what the claim needs of the texts that were built one by one. -/
import Derived.Test.YtdmhihcipkhecaaGreatT1
import Derived.LoopN
import Derived.Test.YtdmhihcipkhecaaGreatT0
import Derived.Deep.Slices
import Derived.Lib.SmallJoins
import Derived.OwnWalk
import Derived.WalkSpells
import Derived.Deep.RegionHeld3
import Derived.Test.YtdmhihcipkhecaaGreatT3
import Derived.Test.YtdmhihcipkhecaaGreatT2
import Derived.OrdersHeld
import Derived.OrdersIn
import Derived.Deep.RegionLawGrows
import Derived.Maps.AppendAt
import Derived.WalkKit
import Derived.TacticsInMore
import Derived.OwnWalkIn
set_option linter.unusedVariables false
namespace Go.Proofs.YtdmhihcipkhecaaGreat
open Go.ChangeShapes Go.WideShapes Go.ChangeAt Go.RowKit
/-- One number of what is known of both. -/
def bo(n n' x x' c:Int):Int:=if n=0 then x' else if n'=0 then x else c
theorem bo_1(n' x x' c:Int):bo 0 n' x x' c=x':=rfl
theorem bo_2{n:Int}(h:n≠0)(x x' c:Int):bo n 0 x x' c=x:=by unfold bo;rw[if_neg h];rfl
theorem bo_3{n n':Int}(h:n≠0)(h':n'≠0)(x x' c:Int):bo n n' x x' c=c:=by unfold bo;rw[if_neg h,if_neg h']
theorem df{a b c d a' b' c' d':Int}(h1:a'=a)(h2:b'=b)(h3:c'=c)(h4:d'=d):Ending.returned (.agg #[.int .i64 a,.int .i64 b,.int .i64 c,.int .i64 d])= .returned (.agg #[.int .i64 a',.int .i64 b',.int .i64 c',.int .i64 d']):=by rw[h1,h2,h3,h4]
set_option maxHeartbeats 1000000 in
theorem both_any(n s l m n' s' l' m':Int)(w:World):Calls Tryz.prog 105 #[.agg #[.int .i64 n,.int .i64 s,.int .i64 l,.int .i64 m],.agg #[.int .i64 n',.int .i64 s',.int .i64 l',.int .i64 m']] w fun e w'=>e= .returned (.agg #[.int .i64 (bo n n' n n' (wrap64 (n+n'))),.int .i64 (bo n n' s s' (wrap64 (s+s'))),.int .i64 (bo n n' l l' (ft l l')),.int .i64 (bo n n' m m' (fp m m'))])∧Below w.heap.size w w':=by
 by_cases h1:n=0
 ·subst h1
  have hq:=ae (bo_1 n')
  go_enter Tryz.func105,Tryz.ntmps105
  go_wp2
  refine bodyPost_ret (v:= .agg #[.int .i64 n',.int .i64 s',.int .i64 l',.int .i64 m']) (nB) rfl ⟨df (ab hq _ _ _) (ab hq _ _ _) (ab hq _ _ _) (ab hq _ _ _),?_⟩
  exact(aW)
 have g1:(n==0)=false:=by simpa using h1
 by_cases h2:n'=0
 ·subst h2
  have hq:=ae (bo_2 h1)
  clear h1
  go_enter Tryz.func105,Tryz.ntmps105
  go_wp2
  refine bodyPost_ret (v:= .agg #[.int .i64 n,.int .i64 s,.int .i64 l,.int .i64 m]) (nB) rfl ⟨df (ab hq _ _ _) (ab hq _ _ _) (ab hq _ _ _) (ab hq _ _ _),?_⟩
  exact(aW)
 have g2:(n'==0)=false:=by simpa using h2
 have hq:=ae (bo_3 h1 h2)
 clear h1 h2
 by_cases h3:l'<l<;>by_cases h4:m<m'
 ·have k3:=ae (iH h3)
  have k4:=ae (iK h4)
  go_enter Tryz.func105,Tryz.ntmps105
  go_wp2
  all_goals first
   |(exfalso;omega)
   |(refine bodyPost_ret (v:= .agg #[.int .i64 (wrap64 (n+n')),.int .i64 (wrap64 (s+s')),.int .i64 l',.int .i64 m']) (nB) rfl ⟨df (ab hq _ _ _) (ab hq _ _ _) ((ab hq _ _ _).trans (ab k3)) ((ab hq _ _ _).trans (ab k4)),?_⟩;exact(aW))
 ·have k3:=ae (iH h3)
  have k4:=ae (iI h4)
  go_enter Tryz.func105,Tryz.ntmps105
  go_wp2
  all_goals first
   |(exfalso;omega)
   |(refine bodyPost_ret (v:= .agg #[.int .i64 (wrap64 (n+n')),.int .i64 (wrap64 (s+s')),.int .i64 l',.int .i64 m]) (nB) rfl ⟨df (ab hq _ _ _) (ab hq _ _ _) ((ab hq _ _ _).trans (ab k3)) ((ab hq _ _ _).trans (ab k4)),?_⟩;exact(aW))
 ·have k3:=ae (iG h3)
  have k4:=ae (iK h4)
  go_enter Tryz.func105,Tryz.ntmps105
  go_wp2
  all_goals first
   |(exfalso;omega)
   |(refine bodyPost_ret (v:= .agg #[.int .i64 (wrap64 (n+n')),.int .i64 (wrap64 (s+s')),.int .i64 l,.int .i64 m']) (nB) rfl ⟨df (ab hq _ _ _) (ab hq _ _ _) ((ab hq _ _ _).trans (ab k3)) ((ab hq _ _ _).trans (ab k4)),?_⟩;exact(aW))
 ·have k3:=ae (iG h3)
  have k4:=ae (iI h4)
  go_enter Tryz.func105,Tryz.ntmps105
  go_wp2
  all_goals first
   |(exfalso;omega)
   |(refine bodyPost_ret (v:= .agg #[.int .i64 (wrap64 (n+n')),.int .i64 (wrap64 (s+s')),.int .i64 l,.int .i64 m]) (nB) rfl ⟨df (ab hq _ _ _) (ab hq _ _ _) ((ab hq _ _ _).trans (ab k3)) ((ab hq _ _ _).trans (ab k4)),?_⟩;exact(aW))
set_option maxHeartbeats 1000000 in
theorem gR(n s l m n' s' l' m':Int)(w:World):Calls Tryz.prog 88 #[.agg #[.int .i64 n,.int .i64 s,.int .i64 l,.int .i64 m],.agg #[.int .i64 n',.int .i64 s',.int .i64 l',.int .i64 m']] w fun e w'=>e= .returned (.agg #[.int .i64 (bo n n' n n' (wrap64 (n+n'))),.int .i64 (bo n n' s s' (wrap64 (s+s'))),.int .i64 (bo n n' l l' (ft l l')),.int .i64 (bo n n' m m' (fp m m'))])∧Below w.heap.size w w':=by
 by_cases h1:n=0
 ·subst h1
  have hq:=ae (bo_1 n')
  go_enter Tryz.func88,Tryz.ntmps88
  go_wp2
  refine bodyPost_ret (v:= .agg #[.int .i64 n',.int .i64 s',.int .i64 l',.int .i64 m']) (nE) rfl ⟨df (ab hq _ _ _) (ab hq _ _ _) (ab hq _ _ _) (ab hq _ _ _),?_⟩
  exact(aW)
 have g1:(n==0)=false:=by simpa using h1
 by_cases h2:n'=0
 ·subst h2
  have hq:=ae (bo_2 h1)
  clear h1
  go_enter Tryz.func88,Tryz.ntmps88
  go_wp2
  refine bodyPost_ret (v:= .agg #[.int .i64 n,.int .i64 s,.int .i64 l,.int .i64 m]) (nE) rfl ⟨df (ab hq _ _ _) (ab hq _ _ _) (ab hq _ _ _) (ab hq _ _ _),?_⟩
  exact(aW)
 have g2:(n'==0)=false:=by simpa using h2
 have hq:=ae (bo_3 h1 h2)
 clear h1 h2
 by_cases h3:l'<l<;>by_cases h4:m<m'
 ·have k3:=ae (iH h3)
  have k4:=ae (iK h4)
  go_enter Tryz.func88,Tryz.ntmps88
  go_wp2
  all_goals first
   |(exfalso;omega)
   |(refine bodyPost_ret (v:= .agg #[.int .i64 (wrap64 (n+n')),.int .i64 (wrap64 (s+s')),.int .i64 l',.int .i64 m']) (nE) rfl ⟨df (ab hq _ _ _) (ab hq _ _ _) ((ab hq _ _ _).trans (ab k3)) ((ab hq _ _ _).trans (ab k4)),?_⟩;exact(aW))
 ·have k3:=ae (iH h3)
  have k4:=ae (iI h4)
  go_enter Tryz.func88,Tryz.ntmps88
  go_wp2
  all_goals first
   |(exfalso;omega)
   |(refine bodyPost_ret (v:= .agg #[.int .i64 (wrap64 (n+n')),.int .i64 (wrap64 (s+s')),.int .i64 l',.int .i64 m]) (nE) rfl ⟨df (ab hq _ _ _) (ab hq _ _ _) ((ab hq _ _ _).trans (ab k3)) ((ab hq _ _ _).trans (ab k4)),?_⟩;exact(aW))
 ·have k3:=ae (iG h3)
  have k4:=ae (iK h4)
  go_enter Tryz.func88,Tryz.ntmps88
  go_wp2
  all_goals first
   |(exfalso;omega)
   |(refine bodyPost_ret (v:= .agg #[.int .i64 (wrap64 (n+n')),.int .i64 (wrap64 (s+s')),.int .i64 l,.int .i64 m']) (nE) rfl ⟨df (ab hq _ _ _) (ab hq _ _ _) ((ab hq _ _ _).trans (ab k3)) ((ab hq _ _ _).trans (ab k4)),?_⟩;exact(aW))
 ·have k3:=ae (iG h3)
  have k4:=ae (iI h4)
  go_enter Tryz.func88,Tryz.ntmps88
  go_wp2
  all_goals first
   |(exfalso;omega)
   |(refine bodyPost_ret (v:= .agg #[.int .i64 (wrap64 (n+n')),.int .i64 (wrap64 (s+s')),.int .i64 l,.int .i64 m]) (nE) rfl ⟨df (ab hq _ _ _) (ab hq _ _ _) ((ab hq _ _ _).trans (ab k3)) ((ab hq _ _ _).trans (ab k4)),?_⟩;exact(aW))
theorem with_any(n s l m v:Int)(w:World):Calls Tryz.prog 103 #[.agg #[.int .i64 n,.int .i64 s,.int .i64 l,.int .i64 m],.int .i64 v] w fun e w'=>e= .returned (.agg #[.int .i64 (bo n 1 n 1 (wrap64 (n+1))),.int .i64 (bo n 1 s v (wrap64 (s+v))),.int .i64 (bo n 1 l v (ft l v)),.int .i64 (bo n 1 m v (fp m v))])∧Below w.heap.size w w':=by
 go_enter Tryz.func103,Tryz.ntmps103
 go_wp2_with (first
  |(go_at_call 105;refine(both_any _ _ _ _ _ _ _ _ _).mono ?_;rintro e w' ⟨rfl,hb⟩;obtain⟨hc,hf,hs⟩:=az hb;(try have hz0:=zA hb w.heap.size);(try have hz1:=zA hb (w.heap.size+1));(try have hz2:=zA hb (w.heap.size+2))))
 refine bodyPost_ret (v:= .agg #[.int .i64 (bo n 1 n 1 (wrap64 (n+1))),.int .i64 (bo n 1 s v (wrap64 (s+v))),.int .i64 (bo n 1 l v (ft l v)),.int .i64 (bo n 1 m v (fp m v))]) (by simp[results,Tryz.results103,go_sem,hc]) rfl ⟨rfl,?_⟩
 exact(aW)
theorem iM(n s l m v:Int)(w:World):Calls Tryz.prog 86 #[.agg #[.int .i64 n,.int .i64 s,.int .i64 l,.int .i64 m],.int .i64 v] w fun e w'=>e= .returned (.agg #[.int .i64 (bo n 1 n 1 (wrap64 (n+1))),.int .i64 (bo n 1 s v (wrap64 (s+v))),.int .i64 (bo n 1 l v (ft l v)),.int .i64 (bo n 1 m v (fp m v))])∧Below w.heap.size w w':=by
 go_enter Tryz.func86,Tryz.ntmps86
 go_wp2_with (first
  |(go_at_call 88;refine(gR _ _ _ _ _ _ _ _ _).mono ?_;rintro e w' ⟨rfl,hb⟩;obtain⟨hc,hf,hs⟩:=az hb;(try have hz0:=zA hb w.heap.size);(try have hz1:=zA hb (w.heap.size+1));(try have hz2:=zA hb (w.heap.size+2))))
 refine bodyPost_ret (v:= .agg #[.int .i64 (bo n 1 n 1 (wrap64 (n+1))),.int .i64 (bo n 1 s v (wrap64 (s+v))),.int .i64 (bo n 1 l v (ft l v)),.int .i64 (bo n 1 m v (fp m v))]) (by simp[results,Tryz.results86,go_sem,hc]) rfl ⟨rfl,?_⟩
 exact(aW)
/-- A row of 2 numbers. -/
structure dp where
 a:Int
 b:Int
/-- A row lies in its cells; rows lie one behind the other; a slice's value holds rows. -/
def dB(W:World)(g o:Nat)(x:dp):Prop:=W.cell? ⟨g,o,none⟩=some (.int .i64 x.a)∧W.cell? ⟨g,o+1,none⟩=some (.int .i64 x.b)
def WnRsAt(W:World)(g o:Nat)(xs:List dp):Prop:=∀i x,xs[i]? =some x→dB W g (o+i*2) x
def WnRs(W:World)(a:Option Addr)(len:Nat)(xs:List dp):Prop:=xs.length=len∧len≤maxLen∧(len=0∨∃g o,a=some ⟨g,o,none⟩∧WnRsAt W g o xs)
theorem dB.lt{W:World}{g o:Nat}{x:dp}(h:dB W g o x):g<W.heap.size:=by
 obtain⟨h0,_⟩:=h
 rcases Nat.lt_or_ge g W.heap.size with hl|hg
 ·exact hl
 ·simp[World.cell?,Array.getElem?_eq_none hg]at h0
theorem dB.below{W W':World}{B g o:Nat}{x:dp}(h:dB W g o x)(hb:Below B W W')(hg:g<B):dB W' g o x:=by
 obtain⟨h0,h1⟩:=h
 exact⟨(hb.cell (p:=⟨g,_,none⟩) hg).trans h0,(hb.cell (p:=⟨g,_,none⟩) hg).trans h1⟩
theorem dB.grown{W W':World}{row:Option Nat}{g o:Nat}{x:dp}(h:dB W g o x)(hg:W.grownBy W' row)(hne:some g≠row):dB W' g o x:=by
 have hbk:=hg.block g h.lt hne
 obtain⟨h0,h1⟩:=h
 exact⟨(World.cell?_of_block (w:=W) hbk).trans h0,(World.cell?_of_block (w:=W) hbk).trans h1⟩
def BlkWn(W:World)(g ty len:Nat):Prop:=∃cur,W.heap[g]? =some (.cells cur ty (0,0))∧cur.size=len*2
/-- The cells of rows; a slice of the call's own that holds rows. -/
def dp.cells(x:dp):List Value:=[.int .i64 x.a,.int .i64 x.b]
def fe(xs:List dp):List Value:=xs.flatMap dp.cells
theorem flatWn_snoc(xs:List dp)(x:dp):fe (xs++[x])=fe xs++x.cells:=by simp[fe]
theorem flatWn_get{xs:List dp}{i:Nat}{x:dp}(h:xs[i]? =some x):(fe xs)[i*2]? =some (.int .i64 x.a)∧(fe xs)[i*2+1]? =some (.int .i64 x.b):=by
 induction xs generalizing i with
 |nil=>simp at h
 |cons y r ih=>
  have hf:fe (y :: r)=y.cells++fe r:=rfl
  cases i with
  |zero=>
   simp at h
   subst h
   rw[hf]
   exact⟨rfl,rfl⟩
  |succ i=>
   simp at h
   obtain⟨h0,h1⟩:=ih h
   have hl:y.cells.length=2:=rfl
   rw[hf]
   refine⟨?_,?_⟩
   ·rw[List.getElem?_append_right (by omega),hl,show(i+1)*2 - 2=i*2 by omega];exact h0
   ·rw[List.getElem?_append_right (by omega),hl,show(i+1)*2+1 - 2=i*2+1 by omega];exact h1
def db(W:World)(B:Nat)(v:Value)(ys:List dp):Prop:=W.ownsRow B 48 2 v ys.length (fe ys)
theorem ownWn_ge{W:World}{B:Nat}{v:Value}{ys:List dp}(h:db W B v ys):∀k,v.ownBlock=some k→B≤k:=by
 intro k hk
 rcases h.2 with⟨rfl,_⟩|⟨g,cap,cur,rfl,hg,_⟩
 ·cases hk
 ·simp[Value.ownBlock]at hk;omega
theorem jm{w1:World}{B:Nat}{v':Value}{ys:List dp}{x:dp}(ho:w1.ownsRow B 48 2 v' (ys.length+1) (fe ys++x.cells)):db w1 B v' (ys++[x]):=by
 unfold db
 rw[flatWn_snoc]
 simpa using ho
theorem iN(w:World)(a b:Int)(ty:Nat):∀j u,([.int .i64 a,.int .i64 b]:List Value)[j]? =some u→(w.alloc (.cells #[.int .i64 a,.int .i64 b] ty)).cell? ((⟨w.heap.size,0,none⟩:Addr).add j)=some u:=by
 intro j u hj
 have e:((⟨w.heap.size,0,none⟩:Addr).add j)=⟨w.heap.size,j,none⟩:=by
  unfold Addr.add
  split
  ·rename_i h0;rw[h0]
  ·simp
 rw[e]
 simpa[go_sem]using hj
theorem cells_atWn(w:World)(a b:Int)(ty:Nat){g:Nat}(hg:g=w.heap.size):∀j u,([.int .i64 a,.int .i64 b]:List Value)[j]? =some u→(w.alloc (.cells #[.int .i64 a,.int .i64 b] ty)).cell? ((⟨g,0,none⟩:Addr).add j)=some u:=by
 subst hg
 exact iN w a b ty
def WrWn(W:World)(a:Option Addr)(n cap:Nat):Prop:=n=0∨∃g,a=some ⟨g,0,none⟩∧BlkWn W g 48 cap∧n≤cap
theorem grown0Wn{W W':World}(h:Below W.heap.size W W'):W.grownBy W' none:=⟨h.os,h.tape,h.output,h.size,fun k hk _=>h.block k hk⟩
theorem holdWn{W:World}{B:Nat}{v:Value}{ys:List dp}(h:db W B v ys)(hl:ys.length≤1048576):
  ∃a cap,v= .slice a ys.length cap∧WnRs W a ys.length ys∧WrWn W a ys.length cap∧∀g o,0<ys.length→a=some ⟨g,o,none⟩→B≤g:=by
 have hm:ys.length≤maxLen:=by unfold maxLen;omega
 obtain⟨hlen,h|⟨g,cap,cur,rfl,hB,hblk,hnc,hcm,hsz,htk⟩⟩:=h
 ·obtain⟨rfl,h0⟩:=h
  rw[h0]
  exact⟨none,0,rfl,⟨h0,Nat.zero_le _,Or.inl rfl⟩,Or.inl rfl,fun _ _ hp=>by omega⟩
 ·refine⟨_,cap,rfl,⟨rfl,hm,Or.inr ⟨g,0,rfl,?_⟩⟩,Or.inr ⟨g,rfl,⟨cur,hblk,hsz⟩,hnc⟩,fun g' o' _ e=>by simp at e;omega⟩
  intro i x hx
  have hi:i<ys.length:=(List.getElem?_eq_some_iff.1 hx).1
  have hcell:∀j u,j<ys.length*2→(fe ys)[j]? =some u→W.cell? ⟨g,j,none⟩=some u:=by
   intro j u hj hu
   rw[cA hblk j,←Array.getElem?_toList]
   rw[←htk,List.getElem?_take_of_lt hj]at hu
   exact hu
  obtain⟨f0,f1⟩:=flatWn_get hx
  rw[Nat.zero_add]
  exact⟨hcell _ _ (by omega) f0,hcell _ _ (by omega) f1⟩
set_option linter.unusedSimpArgs false
abbrev A4:=Int×Int×Int×Int
def dU(g:A4)(v:Int):A4:=(bo g.1 1 g.1 1 (wrap64 (g.1+1)),bo g.1 1 g.2.1 v (wrap64 (g.2.1+v)),bo g.1 1 g.2.2.1 v (ft g.2.2.1 v),bo g.1 1 g.2.2.2 v (fp g.2.2.2 v))
def eN(g h:A4):A4:=(bo g.1 h.1 g.1 h.1 (wrap64 (g.1+h.1)),bo g.1 h.1 g.2.1 h.2.1 (wrap64 (g.2.1+h.2.1)),bo g.1 h.1 g.2.2.1 h.2.2.1 (ft g.2.2.1 h.2.2.1),bo g.1 h.1 g.2.2.2 h.2.2.2 (fp g.2.2.2 h.2.2.2))
def gl(x:aC):A4:=(x.an,x.asu,x.ale,x.amo)
def frA(x:aC):A4:=(x.fn,x.fsu,x.fle,x.fmo)
/-- A row that knows of one value more; a new row; the row of no window. -/
def eO(x:aC)(v:Int):aC:=⟨x.ky,x.st,x.en,(dU (gl x) v).1,(dU (gl x) v).2.1,(dU (gl x) v).2.2.1,(dU (gl x) v).2.2.2,(dU (frA x) v).1,(dU (frA x) v).2.1,(dU (frA x) v).2.2.1,(dU (frA x) v).2.2.2,x.td,x.tm⟩
def ff(q:P3)(g:A4):aC:=⟨q.1,q.2.1,q.2.2,g.1,g.2.1,g.2.2.1,g.2.2.2,g.1,g.2.1,g.2.2.1,g.2.2.2,0,false⟩
def zerO(q:P3):aC:=⟨q.1,q.2.1,q.2.2,0,0,0,0,0,0,0,0,0,false⟩
theorem knowX_zero(q:P3)(v:Int):eO (zerO q) v=ff q (dU (0,0,0,0) v):=rfl
instance decPl (a b:P3):Decidable (bQ a b):=by unfold bQ;infer_instance
abbrev cH(xs:List aC):Prop:=xs.Pairwise (fun x y=>bQ (aU x) (aU y))
def dP(r:aC):List aC→List aC
 | []=>[r]
 |x :: xs=>if bQ (aU r) (aU x)then r :: x :: xs else x :: dP r xs
def dQ(q:P3)(xs:List aC):List aC:=xs.filter (fun x=> !decide (aU x=q))
def ci(r:aC)(xs:List aC):List aC:=dP r (dQ (aU r) xs)
def dw(q:P3)(xs:List aC):Option aC:=xs.find? (fun x=>decide (aU x=q))
/-- The row of a place that knows of one value more. -/
def di(q:P3)(v:Int)(xs:List aC):aC:=eO ((dw q xs).getD (zerO q)) v
def gTx(m:Int)(x:aC):aC:=if cy m x=true then cT x else x
def eC(pc:Bool)(m:Int)(xs:List aC)(r:aC):List aC×List cY:=if m<r.en then(ci r xs,[])else(ci (cT r) xs,[dJ pc r])
theorem jn(m:Int)(x:aC):aU (gTx m x)=aU x:=by unfold gTx;split<;>rfl
theorem er{q:P3}{xs:List aC}{x:aC}(h:dw q xs=some x):aU x=q∧x ∈ xs:=⟨by simpa using List.find?_some h,List.mem_of_find?_eq_some h⟩
theorem nexO_pl(q:P3)(v:Int)(xs:List aC):aU (di q v xs)=q:=by
 unfold di
 cases h:dw q xs with
 |none=>rfl
 |some x=>exact(er h).1
theorem insO_map{f:aC→aC}(hf:∀x,aU (f x)=aU x)(r:aC):∀xs:List aC,(dP r xs).map f=dP (f r) (xs.map f)
 | []=>rfl
 |x :: xs=>by
  simp only[dP,List.map_cons,hf]
  by_cases h:bQ (aU r) (aU x)
  ·rw[if_pos h,if_pos h];rfl
  ·rw[if_neg h,if_neg h,List.map_cons,insO_map hf r xs]
theorem offO_map{f:aC→aC}(hf:∀x,aU (f x)=aU x)(q:P3)(xs:List aC):(dQ q xs).map f=dQ q (xs.map f):=by
 unfold dQ
 rw[List.filter_map]
 congr 1
 refine List.filter_congr (fun x _=>?_)
 simp only[Function.comp,hf]
theorem putO_map{f:aC→aC}(hf:∀x,aU (f x)=aU x)(r:aC)(xs:List aC):(ci r xs).map f=ci (f r) (xs.map f):=by
 unfold ci
 rw[insO_map hf,offO_map hf,hf]
theorem jo{r:aC}:∀ {xs:List aC} {y:aC},y ∈ dP r xs↔y=r∨y ∈ xs
 | [],y=>by simp[dP]
 |x :: xs,y=>by
  unfold dP
  split
  ·simp
  ·rw[List.mem_cons,jo,List.mem_cons]
   constructor
   ·rintro (h|h|h)<;>simp[h]
   ·rintro (h|h|h)<;>simp[h]
theorem jp{q:P3}{xs:List aC}{y:aC}:y ∈ dQ q xs↔y ∈ xs∧¬ aU y=q:=by
 unfold dQ
 rw[List.mem_filter]
 simp
theorem eD{r:aC}{xs:List aC}{y:aC}:y ∈ ci r xs↔y=r∨(y ∈ xs∧¬ aU y=aU r):=by
 unfold ci
 rw[jo,jp]
theorem kt{r:aC}:∀ {xs:List aC},cH xs→(∀x ∈ xs,¬ aU x=aU r)→cH (dP r xs)
 | [],_,_=>by simp[dP,cH]
 |x :: xs,h,hn=>by
  have hc:=List.pairwise_cons.1 h
  unfold dP
  split
  ·rename_i hl
   refine List.pairwise_cons.2 ⟨fun y hy=>?_,h⟩
   rcases List.mem_cons.1 hy with rfl|hy
   ·exact hl
   ·exact dC hl (hc.1 y hy)
  ·rename_i hl
   refine List.pairwise_cons.2 ⟨fun y hy=>?_,kt hc.2 (fun z hz=>hn z (List.mem_cons_of_mem _ hz))⟩
   rcases jo.1 hy with rfl|hy
   ·rcases gN (aU x) (aU y)with h9|h9|h9
    ·exact h9
    ·exact absurd h9 (hn x (by simp))
    ·exact absurd h9 hl
   ·exact hc.1 y hy
theorem fk{r:aC}{xs:List aC}(h:cH xs):cH (ci r xs):=kt (h.sublist List.filter_sublist) (fun x hx=>(jp.1 hx).2)
theorem jq(r:aC)(xs:List aC):(ci r xs).length≤xs.length+1:=by
 have h1:∀ys:List aC,(dP r ys).length=ys.length+1:=by
  intro ys
  induction ys with
  |nil=>rfl
  |cons y ys ih=>unfold dP;split<;>simp[ih]
 unfold ci
 rw[h1]
 have:=List.length_filter_le (fun x:aC=> !decide (aU x=aU r)) xs
 unfold dQ
 omega
/-- What is picked behind a put row, where all that was picked lies ahead of it. -/
theorem eQ{p:aC→Bool}{r:aC}(hr:p r=true):∀ {xs:List aC},cH xs→(∀x ∈ xs,p x=true→bQ (aU x) (aU r))→(dP r xs).filter p=xs.filter p++[r]
 | [],_,_=>by simp[dP,hr]
 |x :: xs,h,hp=>by
  have hc:=List.pairwise_cons.1 h
  unfold dP
  split
  ·rename_i hl
   have hno:∀y ∈ x :: xs,p y=false:=by
    intro y hy
    cases hy9:p y with
    |false=>rfl
    |true=>
     have h1:=hp y hy hy9
     have h2:bQ (aU r) (aU y):=by
      rcases List.mem_cons.1 hy with rfl|hy
      ·exact hl
      ·exact dC hl (hc.1 y hy)
     exact absurd (dC h1 h2) (bL _)
   have h0:(x :: xs).filter p=[]:=List.filter_eq_nil_iff.2 (fun y hy=>by rw[hno y hy];simp)
   rw[List.filter_cons,if_pos hr,h0]
   rfl
  ·rw[List.filter_cons,List.filter_cons,eQ hr hc.2 (fun y hy=>hp y (List.mem_cons_of_mem _ hy))]
   split<;>rfl
theorem fN{p:aC→Bool}{r:aC}(hr:p r=false):∀ {xs:List aC},(dP r xs).filter p=xs.filter p
 | []=>by simp[dP,hr]
 |x :: xs=>by
  unfold dP
  split
  ·rw[List.filter_cons (x:=r),if_neg (by rw[hr];simp)]
  ·rw[List.filter_cons,List.filter_cons,fN hr]
theorem jr{p:aC→Bool}{q:P3}{xs:List aC}(h:∀x ∈ xs,aU x=q→p x=false):(dQ q xs).filter p=xs.filter p:=by
 unfold dQ
 rw[List.filter_filter]
 refine List.filter_congr (fun x hx=>?_)
 by_cases h9:aU x=q
 ·simp[h x hx h9]
 ·simp[h9]
/-- How a row is told behind one value more. -/
theorem know_fn{x:aC}{v:Int}(h:0≤x.fn∧x.fn≤1000000):0<(eO x v).fn:=by
 show 0<bo x.fn 1 x.fn 1 (wrap64 (x.fn+1))
 unfold bo
 split
 ·decide
 ·have:wrap64 (x.fn+1)=x.fn+1:=by unfold wrap64;omega
  simp[this]
  omega
theorem tel_know{m:Int}{x:aC}{v:Int}(h:0≤x.fn∧x.fn≤1000000):cy m (eO x v)=decide (x.en≤m):=by
 unfold cy
 have:=know_fn (v:=v) h
 simp[this]
 rfl
structure jT(pc:Bool)(m:Int)(xs ys:List aC)(ps:List cY)(q:P3):Prop where
 rows:xs=ys.map (gTx m)
 pans:ps=(ys.filter (cy m)).map (dJ pc)
 rise:cH ys
 ahead:∀y ∈ ys,cy m y=true→bQ (aU y) q
 fresh:∀y ∈ ys,¬ bQ (aU y) q→0≤y.fn∧y.fn≤1000000
theorem jT.same{pc:Bool}{m:Int}{xs ys:List aC}{ps:List cY}{q:P3}(h:jT pc m xs ys ps q):dw q xs=dw q ys:=by
 rw[h.rows]
 unfold dw
 rw[List.find?_map]
 have e1:((fun x:aC=>decide (aU x=q))∘gTx m)=fun x=>decide (aU x=q):=by funext x;simp only[Function.comp,jn]
 rw[e1]
 cases hf:ys.find? (fun x=>decide (aU x=q))with
 |none=>rfl
 |some y=>
  have hy:aU y=q:=by simpa using List.find?_some hf
  have hm:y ∈ ys:=List.mem_of_find?_eq_some hf
  show some (gTx m y)=some y
  congr 1
  unfold gTx
  rw[if_neg]
  intro h9
  have:=h.ahead y hm h9
  rw[hy]at this
  exact bL _ this
/-- A row more: the specification tells of it at once, the program behind all of them. -/
theorem jT.put{pc:Bool}{m:Int}{xs ys:List aC}{ps:List cY}{q:P3}(h:jT pc m xs ys ps q){r:aC}(hp:aU r=q)(htel:cy m r=decide (r.en≤m)){q':P3}(hq:bQ q q'):
  jT pc m (eC pc m xs r).1 (ci r ys) (ps++(eC pc m xs r).2) q':=by
 have hno:∀y ∈ ys,aU y=q→cy m y=false:=by
  intro y hy h9
  cases h8:cy m y with
  |false=>rfl
  |true=>
   have:=h.ahead y hy h8
   rw[h9]at this
   exact absurd this (bL _)
 have hrise:cH (dQ q ys):=h.rise.sublist List.filter_sublist
 have hah:∀y ∈ dQ q ys,cy m y=true→bQ (aU y) (aU r):=fun y hy h9=>by rw[hp];exact h.ahead y (jp.1 hy).1 h9
 have hfr:∀y ∈ ci r ys,¬ bQ (aU y) q'→0≤y.fn∧y.fn≤1000000:=by
  intro y hy h9
  rcases eD.1 hy with rfl|⟨hy,_⟩
  ·rw[hp]at h9
   exact absurd hq h9
  ·exact h.fresh y hy (fun h8=>h9 (dC h8 hq))
 have hah2:∀y ∈ ci r ys,cy m y=true→bQ (aU y) q':=by
  intro y hy h9
  rcases eD.1 hy with rfl|⟨hy,_⟩
  ·rw[hp];exact hq
  ·exact dC (h.ahead y hy h9) hq
 by_cases hm:m<r.en
 ·have ht:cy m r=false:=by rw[htel];simp;omega
  have e1:eC pc m xs r=(ci r xs,[]):=by unfold eC;rw[if_pos hm]
  rw[e1]
  refine⟨?_,?_,fk h.rise,hah2,hfr⟩
  ·rw[putO_map (jn m),←h.rows]
   have:gTx m r=r:=by unfold gTx;rw[if_neg (by rw[ht];simp)]
   rw[this]
  ·show ps++[]=_
   rw[List.append_nil,h.pans]
   unfold ci
   rw[fN ht,hp,jr hno]
 ·have ht:cy m r=true:=by rw[htel];simp;omega
  have e1:eC pc m xs r=(ci (cT r) xs,[dJ pc r]):=by unfold eC;rw[if_neg hm]
  rw[e1]
  refine⟨?_,?_,fk h.rise,hah2,hfr⟩
  ·rw[putO_map (jn m),←h.rows]
   have:gTx m r=cT r:=by unfold gTx;rw[if_pos ht]
   rw[this]
  ·show ps++[dJ pc r]=_
   rw[h.pans]
   unfold ci
   rw[hp,eQ ht hrise hah,jr hno,List.map_append]
   rfl
theorem jT.step{pc:Bool}{m:Int}{xs ys:List aC}{ps:List cY}{q:P3}(h:jT pc m xs ys ps q)(v:Int){q':P3}(hq:bQ q q'):
  jT pc m (eC pc m xs (di q v xs)).1 (ci (di q v ys) ys) (ps++(eC pc m xs (di q v xs)).2) q':=by
 have hs:di q v xs=di q v ys:=by unfold di;rw[h.same]
 rw[hs]
 refine h.put (nexO_pl q v ys) ?_ hq
 unfold di
 cases hf:dw q ys with
 |none=>exact tel_know ⟨(show(0:Int)≤0 by decide),(show(0:Int)≤1000000 by decide)⟩
 |some y=>
  have:=er hf
  exact tel_know (h.fresh y this.2 (by rw[this.1];exact bL _))
theorem jT.next{pc:Bool}{m:Int}{xs ys:List aC}{ps:List cY}{q q':P3}(h:jT pc m xs ys ps q)(hq:bQ q q'):jT pc m xs ys ps q':=⟨h.rows,h.pans,h.rise,fun y hy h9=>dC (h.ahead y hy h9) hq,fun y hy h9=>h.fresh y hy (fun h8=>h9 (dC h8 hq))⟩
theorem jT.start{pc:Bool}{l m:Int}{xs:List aC}(h:cH xs)(hok:∀x ∈ xs,x.okB l m=true)(hf:∀x ∈ xs,x.fn≤1000000)(q:P3):jT pc m xs xs [] q:=by
 have hno:∀x ∈ xs,cy m x=false:=fun x hx=>tel_no (hok x hx)
 refine⟨?_,?_,h,(fun y hy h9=>by rw[hno y hy]at h9;cases h9),fun y hy _=>⟨(dY (hok y hy)).2.2.1,hf y hy⟩⟩
 ·have:xs.map (gTx m)=xs.map id:=List.map_congr_left (fun x hx=>by unfold gTx;rw[if_neg (by rw[hno x hx];simp)];rfl)
  rw[this,List.map_id]
 ·rw[List.filter_eq_nil_iff.2 (fun y hy=>by rw[hno y hy];simp)]
  rfl
/-- The specification: into a window that does not grow; into a session; all windows of a record, one behind the other. -/
def gb(pc:Bool)(l m:Int)(xs:List aC)(ky v st en:Int):List aC×List cY×Bool:=if en+l≤m then(xs,[],false)else((eC pc m xs (di (ky,st,en) v xs)).1,(eC pc m xs (di (ky,st,en) v xs)).2,true)
def bw(ky st en:Int)(x:aC):Bool:=decide (x.ky=ky)&&bg x.st x.en st en
def dq(st en:Int)(old:List aC):Int×Int:=old.foldl (fun p x=>(ft p.1 x.st,fp p.2 x.en)) (st,en)
def dK(v:Int)(old:List aC):A4:=old.foldl (fun g x=>eN g (gl x)) (dU (0,0,0,0) v)
def gonX(x:aC):cY:=⟨x.ky,x.st,x.en,x.td,3,0,0,0,0⟩
def dj(old:List aC):List cY:=(old.filter (fun x=>decide (0<x.td))).map gonX
/-- One row alone that is as wide as all of it. -/
def dV(sp:Int×Int)(old:List aC):Bool:=match old with
 | [x]=>decide (x.st=sp.1)&&decide (x.en=sp.2)
 |_=>false
def ku(pc:Bool)(l m:Int)(xs:List aC)(ky v st en:Int):List aC×List cY×Bool:=
 let old:=xs.filter (bw ky st en)
 let sp:=dq st en old
 if sp.2+l≤m then(xs,[],false)
 else if dV sp old=true then gb pc l m xs ky v sp.1 sp.2
 else((eC pc m (xs.filter (fun x=> !bw ky st en x)) (ff (ky,sp.1,sp.2) (dK v old))).1,dj old++(eC pc m (xs.filter (fun x=> !bw ky st en x)) (ff (ky,sp.1,sp.2) (dK v old))).2,true)
def b5(ses pc:Bool)(l m ky v:Int)(a:List aC×List cY×List dp)(w:dp):List aC×List cY×List dp:=
 let r:=if ses=true then ku pc l m a.1 ky v w.a w.b else gb pc l m a.1 ky v w.a w.b
 (r.1,a.2.1++r.2.1,if r.2.2=true then a.2.2 else a.2.2++[w])
def cm(ses pc:Bool)(l m ky v:Int)(xs:List aC)(ws:List dp):List aC×List cY×List dp:=ws.foldl (b5 ses pc l m ky v) (xs,[],[])
/-- The program, ahead of what is gathered: the rows that a window meets. -/
def gF(ses:Bool)(ky st en:Int)(xs:List aC):List aC:=if ses=true then xs.filter (bw ky st en)else(dw (ky,st,en) xs).toList
def bE(ses:Bool)(l m ky v:Int)(a:List aC×List cY×List dp)(w:dp):List aC×List cY×List dp:=
 let met:=gF ses ky w.a w.b a.1
 let sp:=dq w.a w.b met
 if sp.2+l≤m then(a.1,a.2.1,a.2.2++[w])
 else if dV sp met=true then(ci (di (ky,sp.1,sp.2) v a.1) a.1,a.2.1,a.2.2)
 else(ci (ff (ky,sp.1,sp.2) (dK v met)) (a.1.filter (fun x=> !met.any (fun y=>decide (aU y=aU x)))),a.2.1++dj met,a.2.2)
def eE(ses:Bool)(l m ky v:Int)(xs:List aC)(ws:List dp):List aC×List cY×List dp:=ws.foldl (bE ses l m ky v) (xs,[],[])
def li(q:P3):P3:=(q.1,q.2.1,q.2.2+1)
theorem lj(q:P3):bQ q (li q):= .inr ⟨rfl,.inr ⟨rfl,by show q.2.2<q.2.2+1;omega⟩⟩
theorem suc_le{q p:P3}(h:bQ q p):li q=p∨bQ (li q) p:=by
 rcases gN (li q) p with h9|h9|h9
 ·exact .inr h9
 ·exact .inl h9
 ·exfalso
  unfold bQ li at*
  simp only at*
  omega
/-- Where windows do not grow the program puts the very row that the specification puts. -/
theorem loI_same(a:Int):ft a a=a:=by unfold ft;simp
theorem hiI_same(a:Int):fp a a=a:=by unfold fp;simp
theorem jt{l m ky v:Int}{a:List aC×List cY×List dp}{w:dp}:bE false l m ky v a w=if w.b+l≤m then(a.1,a.2.1,a.2.2++[w])else(ci (di (ky,w.a,w.b) v a.1) a.1,a.2.1,a.2.2):=by
 unfold bE gF
 cases hf:dw (ky,w.a,w.b) a.1 with
 |none=>
  simp only[Bool.false_eq_true,if_false,Option.toList,dq,List.foldl_nil,dV,dK,dj,List.filter_nil,List.map_nil,List.append_nil,List.any_nil,Bool.not_false]
  have e1:di (ky,w.a,w.b) v a.1=ff (ky,w.a,w.b) (dU (0,0,0,0) v):=by unfold di;rw[hf];exact knowX_zero _ _
  rw[e1,List.filter_eq_self.2 (fun _ _=>rfl)]
 |some y=>
  have hy:=er hf
  have h1:y.ky=ky∧y.st=w.a∧y.en=w.b:=by have:=hy.1;unfold aU at this;simp only[Prod.mk.injEq]at this;exact this
  simp only[Bool.false_eq_true,if_false,Option.toList,dq,List.foldl_cons,List.foldl_nil,dV,h1.2.1,h1.2.2,loI_same,hiI_same,decide_true,Bool.and_self,if_true]
theorem ju{pc:Bool}{l m ky v:Int}:∀(ws:List dp) (a:List aC×List cY×List dp) (ys:List aC) (q:P3),jT pc m a.1 ys a.2.1 q→(∀w ∈ ws,q=(ky,w.a,w.b)∨bQ q (ky,w.a,w.b))→ws.Pairwise (fun x y=>bQ (ky,x.a,x.b) (ky,y.a,y.b))→
  ∃q',jT pc m (ws.foldl (b5 false pc l m ky v) a).1 (ws.foldl (bE false l m ky v) (ys,[],a.2.2)).1 (ws.foldl (b5 false pc l m ky v) a).2.1 q'∧(ws.foldl (bE false l m ky v) (ys,[],a.2.2)).2.1=[]∧(ws.foldl (b5 false pc l m ky v) a).2.2=(ws.foldl (bE false l m ky v) (ys,[],a.2.2)).2.2
 | [],a,ys,q,h,_,_=>⟨q,h,rfl,rfl⟩
 |w :: ws,a,ys,q,h,hq,hw=>by
  have hc:=List.pairwise_cons.1 hw
  have h1:jT pc m a.1 ys a.2.1 (ky,w.a,w.b):=by
   rcases hq w (by simp)with h9|h9
   ·rw[←h9];exact h
   ·exact h.next h9
  have hq2:∀w' ∈ ws,li (ky,w.a,w.b)=(ky,w'.a,w'.b)∨bQ (li (ky,w.a,w.b)) (ky,w'.a,w'.b):=fun w' hw'=>suc_le (hc.1 w' hw')
  rw[List.foldl_cons,List.foldl_cons,jt]
  by_cases hs:w.b+l≤m
  ·have e1:b5 false pc l m ky v a w=(a.1,a.2.1,a.2.2++[w]):=by
    unfold b5 gb
    simp[hs]
   rw[e1,if_pos hs]
   exact ju ws (a.1,a.2.1,a.2.2++[w]) ys (li (ky,w.a,w.b)) (h1.next (lj _)) hq2 hc.2
  ·have e1:b5 false pc l m ky v a w=((eC pc m a.1 (di (ky,w.a,w.b) v a.1)).1,a.2.1++(eC pc m a.1 (di (ky,w.a,w.b) v a.1)).2,a.2.2):=by
    unfold b5 gb
    simp[hs]
   rw[e1,if_neg hs]
   exact ju ws (_,_,a.2.2) (ci (di (ky,w.a,w.b) v ys) ys) (li (ky,w.a,w.b)) (h1.step v (lj _)) hq2 hc.2
theorem i8:∀(l:List Bool) (i:Nat),l[i]? =some false→(l.set i true).count false+1=l.count false
 | [],i,h=>by simp at h
 |b :: l,0,h=>by
  simp at h
  subst h
  simp
 |b :: l,i+1,h=>by
  have h1:=i8 l i (by simpa using h)
  simp only[List.set_cons_succ,List.count_cons]
  omega
theorem cnt_zero{l:List Bool}(h:l.count false=0){i:Nat}(hi:l[i]? =some false):False:=by
 have:=i8 l i hi
 omega
/-- All that a region's operations wait for stands ahead of them. -/
def fF:Nat→List Oper→Bool
 |_,[]=>true
 |k,o :: os=>o.after.all (fun e=> !Region.binds .any e||decide (e.on<k))&&fF (k+1) os
theorem fO:∀(l:List Oper) (k:Nat),fF k l=true→∀(i:Nat) (o:Oper),l[i]? =some o→∀e ∈ o.after,Region.binds .any e=true→e.on<k+i
 | [],k,_,i,o,h=>by simp at h
 |x :: l,k,hw,0,o,h=>by
  simp only[fF,Bool.and_eq_true]at hw
  simp at h
  subst h
  intro e he hb
  have:=Array.all_eq_true_iff_forall_mem.1 hw.1 e he
  rw[hb]at this
  simpa using this
 |x :: l,k,hw,i+1,o,h=>by
  simp only[fF,Bool.and_eq_true]at hw
  intro e he hb
  have:=fO l (k+1) hw.2 i o (by simpa using h) e he hb
  omega
/-- For each operation, with its number. -/
def lk(F:Nat→Oper→Prop):Nat→List Oper→Prop
 |_,[]=>True
 |k,o :: os=>F k o∧lk F (k+1) os
theorem ix{F:Nat→Oper→Prop}:∀(l:List Oper) (k:Nat),lk F k l→∀(i:Nat) (o:Oper),l[i]? =some o→F (k+i) o
 | [],k,_,i,o,h=>by simp at h
 |x :: l,k,hF,0,o,h=>by
  simp at h
  subst h
  exact hF.1
 |x :: l,k,hF,i+1,o,h=>by
  have:=ix l (k+1) hF.2 i o (by simpa using h)
  rw[Nat.add_assoc,Nat.add_comm 1 i]at this
  exact this
/-- What is done, and one more. -/
def more(L:Nat→Bool)(i:Nat):Nat→Bool:=fun j=>if j=i then true else L j
theorem mO{L:Nat→Bool}{i j:Nat}{v:Bool}{p:Prop}(h:L j=v→p)(hn:decide (j=i)=false:=by decide):more L i j=v→p:=fun h9=>h (by unfold more at h9;rw[if_neg (of_decide_eq_false hn)]at h9;exact h9)
theorem mP{L:Nat→Bool}{i j:Nat}{v:Bool}(h9:more L i j=v)(hn:decide (j=i)=false:=by decide):L j=v:=by unfold more at h9;rw[if_neg (of_decide_eq_false hn)]at h9;exact h9
theorem ey(L:Nat→Bool)(i:Nat):more L i i=true:=by simp[more]
theorem et{L:Nat→Bool}{i j:Nat}(h:j≠i):more L i j=L j:=by simp[more,h]
section
variable {P : Program} {ops : List Oper} {Q : Exit → Act → World → Prop}
/-- One operation keeps the invariant, whenever it comes. -/
def Keeps1(P:Program)(ops:List Oper)(Q:Exit→Act→World→Prop)(I:(Nat→Bool)→Act→World→Prop)(i:Nat)(o:Oper):Prop:=∀(L:Nat→Bool) (a:Act) (w:World),I L a w→L i=false→(∀e ∈ o.after,Region.binds .any e=true→L e.on=true)→∀K':Act→World→Prop,Shut (∀a' w',I (more L i) a' w'→K' a' w')→if Region.wanted o (yielded ops.toArray a.tmps)=true then Oper.wp P o a w K' Q else K' (a.put o.dst undef) w
theorem kz(I:(Nat→Bool)→Act→World→Prop)(step:∀i o,ops[i]? =some o→Keeps1 P ops Q I i o)(fin:∀L a w,I L a w→(∀i,i<ops.length→L i=true)→Q .normal a w)(hw:fF 0 ops=true):
  ∀(fuel:Nat) (l:Array Bool) (L:Nat→Bool) (a:Act) (w:World),l.size=ops.length→(∀i,i<ops.length→l[i]? =some (L i))→l.toList.count false≤fuel→I L a w→wpAny P .any ops.toArray Q fuel l a w:=by
 have key:∀(l:Array Bool) (L:Nat→Bool),l.size=ops.length→(∀i,i<ops.length→l[i]? =some (L i))→Region.ready .any ops.toArray l=[]→∀i,i<ops.length→L i=true:=by
  intro l L hs hL hr i
  induction i using Nat.strongRecOn with
  |_ i ih=>
   intro hi
   cases hb:L i with
   |true=>rfl
   |false=>
    have hm:i ∈ Region.ready .any ops.toArray l:=by
     refine mem_ready.2 ⟨?_,ops[i],?_,fun e he hb'=>?_⟩
     ·rw[Array.getD_eq_getD_getElem?,hL i hi,hb];rfl
     ·simp[hi]
     ·have hlt:=fO ops 0 hw i ops[i] (by simp[hi]) e he hb'
      rw[Nat.zero_add]at hlt
      rw[Array.getD_eq_getD_getElem?,hL e.on (by omega),ih e.on hlt (by omega)]
      rfl
    rw[hr]at hm
    cases hm
 intro fuel
 induction fuel with
 |zero=>
  intro l L a w hs hL hc hI
  have hr:Region.ready .any ops.toArray l=[]:=by
   cases hx:Region.ready .any ops.toArray l with
   |nil=>rfl
   |cons i rs=>
    have hm:i ∈ Region.ready .any ops.toArray l:=by rw[hx];exact List.mem_cons_self
    obtain⟨h1,o,ho,_⟩:=mem_ready.1 hm
    have hi:i<ops.length:=by simpa using(Array.getElem?_eq_some_iff.1 ho).1
    rw[Array.getD_eq_getD_getElem?,hL i hi]at h1
    exact absurd (cnt_zero (i:=i) (Nat.le_zero.1 hc) (by rw[Array.getElem?_toList,hL i hi];simpa using h1)) (fun h=>h)
  exact⟨hr,fin L a w hI (key l L hs hL hr)⟩
 |succ fuel ih=>
  intro l L a w hs hL hc hI
  refine⟨fun hr=>fin L a w hI (key l L hs hL hr),fun i hi=>?_⟩
  obtain⟨h1,o,ho,hall⟩:=mem_ready.1 hi
  have hlt:i<ops.length:=by simpa using(Array.getElem?_eq_some_iff.1 ho).1
  rw[Array.getD_eq_getD_getElem?,hL i hlt]at h1
  have hLi:L i=false:=by simpa using h1
  refine wpOp_step ho (fun K' hK=>?_)
  have hst:=step i o (by simpa using ho)
  refine hst L a w hI hLi (fun e he hb=>?_) K' (fun a' w' hI'=>hK a' w' ?_)
  ·have:=hall e he hb
   have hlt2:=fO ops 0 hw i o (by simpa using ho) e he hb
   rw[Nat.zero_add]at hlt2
   rw[Array.getD_eq_getD_getElem?,hL e.on (by omega)]at this
   simpa using this
  ·refine ih _ (more L i) a' w' (by simpa using hs) (fun j hj=>?_) ?_ hI'
   ·by_cases hji:j=i
    ·subst hji
     rw[ey,Array.getElem?_setIfInBounds]
     simp[hs,hlt]
    ·rw[et hji,Array.getElem?_setIfInBounds,if_neg (fun e=>hji e.symm)]
     exact hL j hj
   ·have h9:=i8 l.toList i (by rw[Array.getElem?_toList,hL i hlt,hLi])
    rw[Array.toList_setIfInBounds]
    omega
theorem wp_region_inv{id:Nat}{a:Act}{w:World}(hm:P.follows .mixedOrders=true)(hw:fF 0 ops=true)(I:(Nat→Bool)→Act→World→Prop)(h0:I (fun _=>false) a w.drew)(step:lk (Keeps1 P ops Q I) 0 ops)(fin:∀L a w,I L a w→(∀i,i<ops.length→L i=true)→Q .normal a w):(Code.region id ops.toArray true).wp P Q a w:=by
 refine wp_region_any hm (kz I (fun i o ho=>by have:=ix ops 0 step i o ho;rw[Nat.zero_add]at this;exact this) fin hw ops.toArray.size _ (fun _=>false) a _ (by simp) (fun i hi=>by simp[hi]) ?_ h0)
 simp
/-- For each operation but the last; and for the last one. -/
def i9(F G:Nat→Oper→Prop):Nat→List Oper→Prop
 |_,[]=>True
 |k,[o]=>G k o
 |k,o :: o' :: os=>F k o∧i9 F G (k+1) (o' :: os)
theorem gG{F G:Nat→Oper→Prop}:∀(l:List Oper) (k:Nat),i9 F G k l→∀(i:Nat) (o:Oper),l[i]? =some o→(i+1<l.length→F (k+i) o)∧(i+1=l.length→G (k+i) o)
 | [],k,_,i,o,h=>by simp at h
 | [x],k,hF,0,o,h=>by
  simp at h
  subst h
  exact⟨fun h=>by simp at h,fun _=>hF⟩
 | [x],k,hF,i+1,o,h=>by simp at h
 |x :: y :: l,k,hF,0,o,h=>by
  simp at h
  subst h
  exact⟨fun _=>hF.1,fun h=>by simp at h⟩
 |x :: y :: l,k,hF,i+1,o,h=>by
  have h9:=gG (y :: l) (k+1) hF.2 i o (by simpa using h)
  rw[Nat.add_assoc,Nat.add_comm 1 i]at h9
  refine⟨fun hl=>h9.1 ?_,fun hl=>h9.2 ?_⟩
  ·simp at hl ⊢;omega
  ·simp at hl ⊢;omega
/-- The last operation fF for all others. -/
def gc(ops:List Oper):Bool:=match ops.getLast? with
 |none=>false
 |some o=>(List.range (ops.length - 1)).all (fun j=>o.after.any (fun e=>e.on==j&&Region.binds .any e))
/-- The last operation, when all others are done. -/
def Ends1(P:Program)(ops:List Oper)(Q:Exit→Act→World→Prop)(I:(Nat→Bool)→Act→World→Prop)(i:Nat)(o:Oper):Prop:=∀(L:Nat→Bool) (a:Act) (w:World),I L a w→(∀j,j<i→L j=true)→∀K':Act→World→Prop,Shut (∀a' w',Q .normal a' w'→K' a' w')→if Region.wanted o (yielded ops.toArray a.tmps)=true then Oper.wp P o a w K' Q else K' (a.put o.dst undef) w
theorem fP{id:Nat}{a:Act}{w:World}(hm:P.follows .mixedOrders=true)(hw:fF 0 ops=true)(hl:gc ops=true)(I:(Nat→Bool)→Act→World→Prop)(h0:I (fun _=>false) a w.drew)(step:i9 (Keeps1 P ops Q I) (Ends1 P ops Q I) 0 ops):(Code.region id ops.toArray true).wp P Q a w:=by
 have hne:ops≠ []:=by
  intro h
  rw[h]at hl
  cases hl
 have hlen:0<ops.length:=List.length_pos_iff.2 hne
 obtain⟨lo,hlo⟩:∃lo,ops.getLast? =some lo:=⟨_,List.getLast?_eq_some_getLast hne⟩
 have hat:ops[ops.length - 1]? =some lo:=by rw[←List.getLast?_eq_getElem?];exact hlo
 unfold gc at hl
 rw[hlo]at hl
 have hedge:∀j,j<ops.length - 1→∃e ∈ lo.after,e.on=j∧Region.binds .any e=true:=by
  intro j hj
  have h1:=List.all_eq_true.1 hl j (List.mem_range.2 hj)
  simp at h1
  obtain⟨i,hi,h2,h3⟩:=h1
  exact⟨lo.after[i],Array.getElem_mem hi,h2,h3⟩
 refine wp_region_any hm (kz (fun L a w=>(L (ops.length - 1)=false∧I L a w)∨((∀j,j<ops.length→L j=true)∧Q .normal a w)) ?_ ?_ hw ops.toArray.size _ (fun _=>false) a _ (by simp) (fun i hi=>by simp[hi]) ?_ (Or.inl ⟨rfl,h0⟩))
 ·intro i o ho L a w hI hL hA K' hK
  have hi:i<ops.length:=(List.getElem?_eq_some_iff.1 ho).1
  rcases hI with⟨h1,hI⟩|⟨h1,_⟩
  ·have h9:=gG ops 0 step i o ho
   rw[Nat.zero_add]at h9
   by_cases hil:i+1=ops.length
   ·obtain rfl:o=lo:=by
     have:i=ops.length - 1:=by omega
     rw[this,hat]at ho
     exact(Option.some.inj ho).symm
    have hall:∀j,j<i→L j=true:=by
     intro j hj
     obtain⟨e,he,rfl,hb⟩:=hedge j (by omega)
     exact hA e he hb
    refine h9.2 hil L a w hI hall K' (fun a' w' hQ=>hK.out a' w' (Or.inr ⟨fun j hj=>?_,hQ⟩))
    by_cases hji:j=i
    ·subst hji;exact ey L j
    ·rw[et hji];exact hall j (by omega)
   ·refine h9.1 (by omega) L a w hI hL hA K' (fun a' w' hI'=>hK.out a' w' (Or.inl ⟨?_,hI'⟩))
    rw[et (by omega)]
    exact h1
  ·rw[h1 i hi]at hL
   cases hL
 ·intro L a w hI hall
  rcases hI with⟨h1,_⟩|⟨_,hQ⟩
  ·rw[hall (ops.length - 1) (by omega)]at h1
   cases h1
  ·exact hQ
 ·simp
theorem ll{Pd:Nat→Value→World→Prop}{V:Nat→Value}{L:Nat→Bool}{w w':World}{i:Nat}{v:Value}(h:∀j,L j=true→Pd j (V j) w)(hst:∀j u,Pd j u w→Pd j u w')(hv:Pd i v w'):∀j,more L i j=true→Pd j (if j=i then v else V j) w':=by
 intro j hj
 by_cases hji:j=i
 ·subst hji;rw[if_pos rfl];exact hv
 ·rw[if_neg hji];rw[et hji]at hj;exact hst j _ (h j hj)
end
section
variable {F : Fence} {n : Nat} {P : Program} {ops : List Oper} {Q : Exit → Act → World → Prop}
/-- One operation keeps the invariant, whenever it comes. -/
def lm(F:Fence)(n:Nat)(P:Program)(ops:List Oper)(Q:Exit→Act→World→Prop)(I:(Nat→Bool)→Act→World→Prop)(i:Nat)(o:Oper):Prop:=∀(L:Nat→Bool) (a:Act) (w:World),I L a w→L i=false→(∀e ∈ o.after,Region.binds .any e=true→L e.on=true)→∀K':Act→World→Prop,Shut (∀a' w',I (more L i) a' w'→K' a' w')→if Region.wanted o (yielded ops.toArray a.tmps)=true then Oper.wpIn F n P o a w K' Q else(∀f,o.about P w a.eval=some f→F.fn f)∧K' (a.put o.dst undef) w
theorem jv(I:(Nat→Bool)→Act→World→Prop)(step:∀i o,ops[i]? =some o→lm F n P ops Q I i o)(fin:∀L a w,I L a w→(∀i,i<ops.length→L i=true)→Q .normal a w)(hw:fF 0 ops=true):
  ∀(fuel:Nat) (l:Array Bool) (L:Nat→Bool) (a:Act) (w:World),l.size=ops.length→(∀i,i<ops.length→l[i]? =some (L i))→l.toList.count false≤fuel→I L a w→wpAnyIn F n P .any ops.toArray Q fuel l a w:=by
 have key:∀(l:Array Bool) (L:Nat→Bool),l.size=ops.length→(∀i,i<ops.length→l[i]? =some (L i))→Region.ready .any ops.toArray l=[]→∀i,i<ops.length→L i=true:=by
  intro l L hs hL hr i
  induction i using Nat.strongRecOn with
  |_ i ih=>
   intro hi
   cases hb:L i with
   |true=>rfl
   |false=>
    have hm:i ∈ Region.ready .any ops.toArray l:=by
     refine mem_ready.2 ⟨?_,ops[i],?_,fun e he hb'=>?_⟩
     ·rw[Array.getD_eq_getD_getElem?,hL i hi,hb];rfl
     ·simp[hi]
     ·have hlt:=fO ops 0 hw i ops[i] (by simp[hi]) e he hb'
      rw[Nat.zero_add]at hlt
      rw[Array.getD_eq_getD_getElem?,hL e.on (by omega),ih e.on hlt (by omega)]
      rfl
    rw[hr]at hm
    cases hm
 intro fuel
 induction fuel with
 |zero=>
  intro l L a w hs hL hc hI
  have hr:Region.ready .any ops.toArray l=[]:=by
   cases hx:Region.ready .any ops.toArray l with
   |nil=>rfl
   |cons i rs=>
    have hm:i ∈ Region.ready .any ops.toArray l:=by rw[hx];exact List.mem_cons_self
    obtain⟨h1,o,ho,_⟩:=mem_ready.1 hm
    have hi:i<ops.length:=by simpa using(Array.getElem?_eq_some_iff.1 ho).1
    rw[Array.getD_eq_getD_getElem?,hL i hi]at h1
    exact absurd (cnt_zero (i:=i) (Nat.le_zero.1 hc) (by rw[Array.getElem?_toList,hL i hi];simpa using h1)) (fun h=>h)
  exact⟨hr,fin L a w hI (key l L hs hL hr)⟩
 |succ fuel ih=>
  intro l L a w hs hL hc hI
  refine⟨fun hr=>fin L a w hI (key l L hs hL hr),fun i hi=>?_⟩
  obtain⟨h1,o,ho,hall⟩:=mem_ready.1 hi
  have hlt:i<ops.length:=by simpa using(Array.getElem?_eq_some_iff.1 ho).1
  rw[Array.getD_eq_getD_getElem?,hL i hlt]at h1
  have hLi:L i=false:=by simpa using h1
  refine wpOpIn_step ho (fun K' hK=>?_)
  have hst:=step i o (by simpa using ho)
  refine hst L a w hI hLi (fun e he hb=>?_) K' (fun a' w' hI'=>hK a' w' ?_)
  ·have:=hall e he hb
   have hlt2:=fO ops 0 hw i o (by simpa using ho) e he hb
   rw[Nat.zero_add]at hlt2
   rw[Array.getD_eq_getD_getElem?,hL e.on (by omega)]at this
   simpa using this
  ·refine ih _ (more L i) a' w' (by simpa using hs) (fun j hj=>?_) ?_ hI'
   ·by_cases hji:j=i
    ·subst hji
     rw[ey,Array.getElem?_setIfInBounds]
     simp[hs,hlt]
    ·rw[et hji,Array.getElem?_setIfInBounds,if_neg (fun e=>hji e.symm)]
     exact hL j hj
   ·have h9:=i8 l.toList i (by rw[Array.getElem?_toList,hL i hlt,hLi])
    rw[Array.toList_setIfInBounds]
    omega
theorem bM{id:Nat}{a:Act}{w:World}(hm:P.follows .mixedOrders=true)(hw:fF 0 ops=true)(I:(Nat→Bool)→Act→World→Prop)(h0:I (fun _=>false) a w.drew)(step:lk (lm F n P ops Q I) 0 ops)(fin:∀L a w,I L a w→(∀i,i<ops.length→L i=true)→Q .normal a w):(Code.region id ops.toArray true).wpIn F n P Q a w:=by
 refine wpIn_region_any hm (jv I (fun i o ho=>by have:=ix ops 0 step i o ho;rw[Nat.zero_add]at this;exact this) fin hw ops.toArray.size _ (fun _=>false) a _ (by simp) (fun i hi=>by simp[hi]) ?_ h0)
 simp
/-- The last operation, when all others are done. -/
def Ends1F(F:Fence)(n:Nat)(P:Program)(ops:List Oper)(Q:Exit→Act→World→Prop)(I:(Nat→Bool)→Act→World→Prop)(i:Nat)(o:Oper):Prop:=∀(L:Nat→Bool) (a:Act) (w:World),I L a w→(∀j,j<i→L j=true)→∀K':Act→World→Prop,Shut (∀a' w',Q .normal a' w'→K' a' w')→if Region.wanted o (yielded ops.toArray a.tmps)=true then Oper.wpIn F n P o a w K' Q else(∀f,o.about P w a.eval=some f→F.fn f)∧K' (a.put o.dst undef) w
theorem iy{id:Nat}{a:Act}{w:World}(hm:P.follows .mixedOrders=true)(hw:fF 0 ops=true)(hl:gc ops=true)(I:(Nat→Bool)→Act→World→Prop)(h0:I (fun _=>false) a w.drew)(step:i9 (lm F n P ops Q I) (Ends1F F n P ops Q I) 0 ops):(Code.region id ops.toArray true).wpIn F n P Q a w:=by
 have hne:ops≠ []:=by
  intro h
  rw[h]at hl
  cases hl
 have hlen:0<ops.length:=List.length_pos_iff.2 hne
 obtain⟨lo,hlo⟩:∃lo,ops.getLast? =some lo:=⟨_,List.getLast?_eq_some_getLast hne⟩
 have hat:ops[ops.length - 1]? =some lo:=by rw[←List.getLast?_eq_getElem?];exact hlo
 unfold gc at hl
 rw[hlo]at hl
 have hedge:∀j,j<ops.length - 1→∃e ∈ lo.after,e.on=j∧Region.binds .any e=true:=by
  intro j hj
  have h1:=List.all_eq_true.1 hl j (List.mem_range.2 hj)
  simp at h1
  obtain⟨i,hi,h2,h3⟩:=h1
  exact⟨lo.after[i],Array.getElem_mem hi,h2,h3⟩
 refine wpIn_region_any hm (jv (fun L a w=>(L (ops.length - 1)=false∧I L a w)∨((∀j,j<ops.length→L j=true)∧Q .normal a w)) ?_ ?_ hw ops.toArray.size _ (fun _=>false) a _ (by simp) (fun i hi=>by simp[hi]) ?_ (Or.inl ⟨rfl,h0⟩))
 ·intro i o ho L a w hI hL hA K' hK
  have hi:i<ops.length:=(List.getElem?_eq_some_iff.1 ho).1
  rcases hI with⟨h1,hI⟩|⟨h1,_⟩
  ·have h9:=gG ops 0 step i o ho
   rw[Nat.zero_add]at h9
   by_cases hil:i+1=ops.length
   ·obtain rfl:o=lo:=by
     have:i=ops.length - 1:=by omega
     rw[this,hat]at ho
     exact(Option.some.inj ho).symm
    have hall:∀j,j<i→L j=true:=by
     intro j hj
     obtain⟨e,he,rfl,hb⟩:=hedge j (by omega)
     exact hA e he hb
    refine h9.2 hil L a w hI hall K' (fun a' w' hQ=>hK.out a' w' (Or.inr ⟨fun j hj=>?_,hQ⟩))
    by_cases hji:j=i
    ·subst hji;exact ey L j
    ·rw[et hji];exact hall j (by omega)
   ·refine h9.1 (by omega) L a w hI hL hA K' (fun a' w' hI'=>hK.out a' w' (Or.inl ⟨?_,hI'⟩))
    rw[et (by omega)]
    exact h1
  ·rw[h1 i hi]at hL
   cases hL
 ·intro L a w hI hall
  rcases hI with⟨h1,_⟩|⟨_,hQ⟩
  ·rw[hall (ops.length - 1) (by omega)]at h1
   cases h1
  ·exact hQ
 ·simp
end
theorem ct{P:Program}{ops:Array Oper}{o:Oper}{a:Act}{w:World}{K:Act→World→Prop}{Q:Exit→Act→World→Prop}{E:Prop}
  (hg:o.guard=none) (s x:Operand) (t:TypeId) (hop:o.op=Op.call {callee:=Callee.builtin Builtin.append,args:=#[s,x],argTypes:=#[t,t]}) (base:Nat)
  (e:TypeId) (i:TypeInfo) (z:Value) (size bytes:Nat) (h1:P.underlying t=some (.slice e)) (h2:P.info? e=some i) (h3:i.zero=some z) (h4:i.size=size) (h5:i.bytes=bytes) (h6:z.cells.size=size) (h7:0<size)
  (v:Value) (n:Nat) (xs:List Value) (hs:a.eval s=v) (hown:w.ownsRow base e size v n xs)
  (ad:Addr) (m c:Nat) (news:List Value) (hx:a.eval x= .slice (some ad) m c) (hn:news.length=m*size) (hc:∀j u,news[j]? =some u→w.cell? (ad.add j)=some u) (h1c:∀u ∈ news,u.oneCell'=true)
  (b1:n+m≤maxLen) (b2:(n+m)*bytes≤140737488355328) (hbase:base≤w.heap.size)
  (hK:∀v' w',w'.ownsRow base e size v' (n+m) (xs++news)→w.grownBy w' v.ownBlock→(v'.ownBlock=v.ownBlock∨v'.ownBlock=some w.heap.size)→K (a.put o.dst v') w'):
  if Region.wanted o (yielded ops a.tmps)=true then Oper.wp P o a w K Q else E:=by
 have hw:Region.wanted o (yielded ops a.tmps)=true:=by simp[Region.wanted,hg]
 rw[if_pos hw]
 obtain⟨v',w',hrun,r1,r2,_,r3⟩:=run_append_own_at (P:=P) (w:=w) base t o.type e i z size bytes h1 h2 h3 h4 h5 h6 h7 v n xs hown ad m c news hn hc h1c b1 b2 hbase
 unfold Oper.wp
 simp[execOp,hop,resolve,invoke,builtin,hs,hx,hrun,Result.andThen]
 exact hK v' w' r1 r2 r3
theorem lp{W:World}{B:Nat}{e:TypeId}{size n:Nat}{v:Value}{xs:List Value}(h:W.ownsRow B e size v n xs):∀k,v.ownBlock=some k→k<W.heap.size:=by
 intro k hk
 rcases h.2 with⟨rfl,_⟩|⟨g,cap,cur,rfl,hg,hblk,_⟩
 ·cases hk
 ·simp[Value.ownBlock]at hk
  subst hk
  exact(Array.getElem?_eq_some_iff.1 hblk).1
theorem gp{F:Fence}{nn:Nat}{P:Program}{ops:Array Oper}{o:Oper}{a:Act}{w:World}{K:Act→World→Prop}{Q:Exit→Act→World→Prop}{E:Prop}
  (hg:o.guard=none) (s x:Operand) (t:TypeId) (hop:o.op=Op.call {callee:=Callee.builtin Builtin.append,args:=#[s,x],argTypes:=#[t,t]}) (base:Nat)
  (e:TypeId) (i:TypeInfo) (z:Value) (size bytes:Nat) (h1:P.underlying t=some (.slice e)) (h2:P.info? e=some i) (h3:i.zero=some z) (h4:i.size=size) (h5:i.bytes=bytes) (h6:z.cells.size=size) (h7:0<size)
  (v:Value) (n:Nat) (xs:List Value) (hs:a.eval s=v) (hown:w.ownsRow base e size v n xs)
  (ad:Addr) (m c:Nat) (news:List Value) (hx:a.eval x= .slice (some ad) m c) (hn:news.length=m*size) (hc:∀j u,news[j]? =some u→w.cell? (ad.add j)=some u) (h1c:∀u ∈ news,u.oneCell'=true)
  (b1:n+m≤maxLen) (b2:(n+m)*bytes≤140737488355328) (hbase:base≤w.heap.size)
  (hK:∀v' w',w'.ownsRow base e size v' (n+m) (xs++news)→w.grownBy w' v.ownBlock→(v'.ownBlock=v.ownBlock∨v'.ownBlock=some w.heap.size)→K (a.put o.dst v') w'):
  if Region.wanted o (yielded ops a.tmps)=true then Oper.wpIn F nn P o a w K Q else E:=by
 have hw:Region.wanted o (yielded ops a.tmps)=true:=by simp[Region.wanted,hg]
 rw[if_pos hw]
 obtain⟨v',w',hrun,r1,r2,_,r3⟩:=run_append_own_at (P:=P) (w:=w) base t o.type e i z size bytes h1 h2 h3 h4 h5 h6 h7 v n xs hown ad m c news hn hc h1c b1 b2 hbase
 unfold Oper.wpIn
 refine⟨?_,?_⟩
 ·simp[Oper.about,hop,resolve,Target.leads,Sem.run_pure]
 ·rw[Oper.semAt_plain F _ _ (by rw[hop];intro c hc';cases hc')]
  simp[execOp,hop,resolve,invoke,builtin,hs,hx,hrun,Result.andThen]
  exact hK v' w' r1 r2 r3
end Go.Proofs.YtdmhihcipkhecaaGreat
