/- Laid together: what the claim needs of the texts that were built one by one. -/
import Derived.Test.YtdmhihcipkhecaaR0
import Derived.Test.YtdmhihcipkhecaaRows
import Derived.Deep.Slices
import Derived.Lib.SmallJoins
import Derived.OwnWalk
import Derived.WalkSpells
import Derived.Deep.RegionHeld3
import Derived.Deep.DeepCutAuto
import Derived.Test.YtdmhihcipkhecaaR1
set_option linter.unusedVariables false
namespace Go.Proofs.Ytdmhihcipkhecaa
open Go.ChangeShapes Go.WideShapes Go.ChangeAt Go.RowKit
/-- A row of 9 numbers. -/
structure cN where
 ky:Int
 st:Int
 en:Int
 no:Int
 kd:Int
 n:Int
 su:Int
 le:Int
 mo:Int
/-- A row lies in its cells; rows lie one behind the other; a slice's value holds rows. -/
def ef(W:World)(g o:Nat)(x:cN):Prop:=W.cell? ⟨g,o,none⟩=some (.int .i64 x.ky)∧W.cell? ⟨g,o+1,none⟩=some (.int .i64 x.st)∧W.cell? ⟨g,o+2,none⟩=some (.int .i64 x.en)∧W.cell? ⟨g,o+3,none⟩=some (.int .i64 x.no)∧W.cell? ⟨g,o+4,none⟩=some (.int .i64 x.kd)∧W.cell? ⟨g,o+5,none⟩=some (.int .i64 x.n)∧W.cell? ⟨g,o+6,none⟩=some (.int .i64 x.su)∧W.cell? ⟨g,o+7,none⟩=some (.int .i64 x.le)∧W.cell? ⟨g,o+8,none⟩=some (.int .i64 x.mo)
def gg(W:World)(g o:Nat)(xs:List cN):Prop:=∀i x,xs[i]? =some x→ef W g (o+i*9) x
def eQ(W:World)(a:Option Addr)(len:Nat)(xs:List cN):Prop:=xs.length=len∧len≤maxLen∧(len=0∨∃g o,a=some ⟨g,o,none⟩∧gg W g o xs)
theorem ef.lt{W:World}{g o:Nat}{x:cN}(h:ef W g o x):g<W.heap.size:=by
 obtain⟨h0,_⟩:=h
 rcases Nat.lt_or_ge g W.heap.size with hl|hg
 ·exact hl
 ·simp[World.cell?,Array.getElem?_eq_none hg]at h0
theorem gg.lt{W:World}{g o:Nat}{xs:List cN}(h:gg W g o xs)(hp:0<xs.length):g<W.heap.size:=(h 0 xs[0] (List.getElem?_eq_getElem hp)).lt
theorem ef.below{W W':World}{B g o:Nat}{x:cN}(h:ef W g o x)(hb:Below B W W')(hg:g<B):ef W' g o x:=by
 obtain⟨h0,h1,h2,h3,h4,h5,h6,h7,h8⟩:=h
 exact⟨(hb.cell (p:=⟨g,_,none⟩) hg).trans h0,(hb.cell (p:=⟨g,_,none⟩) hg).trans h1,(hb.cell (p:=⟨g,_,none⟩) hg).trans h2,(hb.cell (p:=⟨g,_,none⟩) hg).trans h3,(hb.cell (p:=⟨g,_,none⟩) hg).trans h4,(hb.cell (p:=⟨g,_,none⟩) hg).trans h5,(hb.cell (p:=⟨g,_,none⟩) hg).trans h6,(hb.cell (p:=⟨g,_,none⟩) hg).trans h7,(hb.cell (p:=⟨g,_,none⟩) hg).trans h8⟩
theorem gg.below{W W':World}{B g o:Nat}{xs:List cN}(h:gg W g o xs)(hb:Below B W W')(hg:0<xs.length→g<B):gg W' g o xs:=by
 intro i x hx
 have hlt:i<xs.length:=(List.getElem?_eq_some_iff.1 hx).1
 exact(h i x hx).below hb (hg (by omega))
theorem eQ.below{W W':World}{a:Option Addr}{len:Nat}{xs:List cN}(h:eQ W a len xs)(hb:Below W.heap.size W W'):eQ W' a len xs:=by
 obtain⟨h1,h2,h3⟩:=h
 refine⟨h1,h2,?_⟩
 rcases h3 with h3|⟨g,o,ha,hr⟩
 ·exact Or.inl h3
 ·exact Or.inr ⟨g,o,ha,hr.below hb (fun hp=>hr.lt hp)⟩
theorem ef.grown{W W':World}{row:Option Nat}{g o:Nat}{x:cN}(h:ef W g o x)(hg:W.grownBy W' row)(hne:some g≠row):ef W' g o x:=by
 have hbk:=hg.block g h.lt hne
 obtain⟨h0,h1,h2,h3,h4,h5,h6,h7,h8⟩:=h
 exact⟨(World.cell?_of_block (w:=W) hbk).trans h0,(World.cell?_of_block (w:=W) hbk).trans h1,(World.cell?_of_block (w:=W) hbk).trans h2,(World.cell?_of_block (w:=W) hbk).trans h3,(World.cell?_of_block (w:=W) hbk).trans h4,(World.cell?_of_block (w:=W) hbk).trans h5,(World.cell?_of_block (w:=W) hbk).trans h6,(World.cell?_of_block (w:=W) hbk).trans h7,(World.cell?_of_block (w:=W) hbk).trans h8⟩
theorem eQ.grown{W W':World}{row:Option Nat}{a:Option Addr}{n:Nat}{xs:List cN}(h:eQ W a n xs)(hg:W.grownBy W' row)(hne:∀g o,0<n→a=some ⟨g,o,none⟩→some g≠row):eQ W' a n xs:=by
 obtain⟨h1,h2,h3⟩:=h
 refine⟨h1,h2,?_⟩
 rcases h3 with h3|⟨g,o,ha,hr⟩
 ·exact Or.inl h3
 ·refine Or.inr ⟨g,o,ha,fun i x hx=>(hr i x hx).grown hg (hne g o ?_ ha)⟩
  have hlt:i<xs.length:=(List.getElem?_eq_some_iff.1 hx).1
  omega
theorem eQ.lt{W:World}{g o n:Nat}{xs:List cN}(h:eQ W (some ⟨g,o,none⟩) n xs)(hp:0<n):g<W.heap.size:=by
 obtain⟨h1,h2,h3⟩:=h
 obtain⟨g',o',ha,hr⟩:=h3.resolve_left (by omega)
 simp at ha
 have:=hr.lt (by omega)
 omega
/-- A row is stored; a block of rows, known whole. -/
def jK(W:World)(g o:Nat)(x:cN):World:=(((((((((W.setCell ⟨g,o,none⟩ (.int .i64 x.ky)).setCell ⟨g,o+1,none⟩ (.int .i64 x.st)).setCell ⟨g,o+2,none⟩ (.int .i64 x.en)).setCell ⟨g,o+3,none⟩ (.int .i64 x.no)).setCell ⟨g,o+4,none⟩ (.int .i64 x.kd)).setCell ⟨g,o+5,none⟩ (.int .i64 x.n)).setCell ⟨g,o+6,none⟩ (.int .i64 x.su)).setCell ⟨g,o+7,none⟩ (.int .i64 x.le)).setCell ⟨g,o+8,none⟩ (.int .i64 x.mo))
def de(W:World)(g ty len:Nat):Prop:=∃cur,W.heap[g]? =some (.cells cur ty (0,0))∧cur.size=len*9
theorem de.set{W:World}{g ty len i:Nat}(h:de W g ty len)(v:Value):de (W.setCell ⟨g,i,none⟩ v) g ty len:=by
 obtain⟨cur,h1,h2⟩:=h
 exact⟨_,Joins.block_setCell h1 v,by simp[h2]⟩
theorem de.below{W W':World}{g ty len B:Nat}(h:de W g ty len)(hb:Below B W W')(hg:g<B):de W' g ty len:=by
 obtain⟨cur,h1,h2⟩:=h
 exact⟨cur,(hb.block g hg).trans h1,h2⟩
theorem de.lt{W:World}{g ty len:Nat}(h:de W g ty len):g<W.heap.size:=by
 obtain⟨cur,h1,h2⟩:=h
 exact(Array.getElem?_eq_some_iff.1 h1).1
theorem de.cell{W:World}{g ty len i:Nat}(h:de W g ty len)(hi:i<len*9):∃u,W.cell? ⟨g,i,none⟩=some u:=by
 obtain⟨cur,h1,h2⟩:=h
 exact⟨_,(cA h1 i).trans (Array.getElem?_eq_getElem (by omega))⟩
theorem de.frozen{W:World}{g ty len i:Nat}(h:de W g ty len):W.frozen? ⟨g,i,none⟩=false:=by
 obtain⟨cur,h1,h2⟩:=h
 exact Joins.unfrozen_of_block h1 i
theorem de.cells{W:World}{g ty len k:Nat}(h:de W g ty len)(hk:k<len):(∃u,W.cell? ⟨g,k*9,none⟩=some u)∧(∃u,W.cell? ⟨g,k*9+1,none⟩=some u)∧(∃u,W.cell? ⟨g,k*9+2,none⟩=some u)∧(∃u,W.cell? ⟨g,k*9+3,none⟩=some u)∧(∃u,W.cell? ⟨g,k*9+4,none⟩=some u)∧(∃u,W.cell? ⟨g,k*9+5,none⟩=some u)∧(∃u,W.cell? ⟨g,k*9+6,none⟩=some u)∧(∃u,W.cell? ⟨g,k*9+7,none⟩=some u)∧(∃u,W.cell? ⟨g,k*9+8,none⟩=some u):=⟨h.cell (by omega),h.cell (by omega),h.cell (by omega),h.cell (by omega),h.cell (by omega),h.cell (by omega),h.cell (by omega),h.cell (by omega),h.cell (by omega)⟩
theorem de.sets{W:World}{g ty len o:Nat}(h:de W g ty len)(x:cN):de (jK W g o x) g ty len:=(((((((((h.set _).set _).set _).set _).set _).set _).set _).set _).set _)
theorem aA{W:World}{g i j:Nat}{v:Value}(h:i≠j):(W.setCell ⟨g,i,none⟩ v).cell? ⟨g,j,none⟩=W.cell? ⟨g,j,none⟩:=World.cell?_setCell_other _ _ _ _ (by intro e;injection e with e1 e2;exact h e2)
theorem dW{W:World}{g ty len i:Nat}{v:Value}(h:de W g ty len)(hi:i<len*9):(W.setCell ⟨g,i,none⟩ v).cell? ⟨g,i,none⟩=some v:=by
 obtain⟨u,hu⟩:=h.cell hi
 exact World.cell?_setCell_same _ _ _ hu
theorem setPn_this{W:World}{g ty len k:Nat}(h:de W g ty len)(hk:k<len)(x:cN):ef (jK W g (k*9) x) g (k*9) x:=by
 unfold jK
 refine⟨?_,?_,?_,?_,?_,?_,?_,?_,?_⟩
 ·(repeat rw[aA (by omega)]);rw[dW h (by omega)]
 ·(repeat rw[aA (by omega)]);rw[dW (h.set _) (by omega)]
 ·(repeat rw[aA (by omega)]);rw[dW ((h.set _).set _) (by omega)]
 ·(repeat rw[aA (by omega)]);rw[dW (((h.set _).set _).set _) (by omega)]
 ·(repeat rw[aA (by omega)]);rw[dW ((((h.set _).set _).set _).set _) (by omega)]
 ·(repeat rw[aA (by omega)]);rw[dW (((((h.set _).set _).set _).set _).set _) (by omega)]
 ·rw[aA (by omega),aA (by omega),dW ((((((h.set _).set _).set _).set _).set _).set _) (by omega)]
 ·rw[aA (by omega),dW (((((((h.set _).set _).set _).set _).set _).set _).set _) (by omega)]
 ·rw[dW ((((((((h.set _).set _).set _).set _).set _).set _).set _).set _) (by omega)]
theorem setPn_ne{W:World}{g i k:Nat}{x y:cN}(h:ef W g (i*9) y)(hk:i≠k):ef (jK W g (k*9) x) g (i*9) y:=by
 unfold jK
 obtain⟨h0,h1,h2,h3,h4,h5,h6,h7,h8⟩:=h
 refine⟨?_,?_,?_,?_,?_,?_,?_,?_,?_⟩
 ·rw[aA (by omega),aA (by omega),aA (by omega),aA (by omega),aA (by omega),aA (by omega),aA (by omega),aA (by omega),aA (by omega)];exact h0
 ·rw[aA (by omega),aA (by omega),aA (by omega),aA (by omega),aA (by omega),aA (by omega),aA (by omega),aA (by omega),aA (by omega)];exact h1
 ·rw[aA (by omega),aA (by omega),aA (by omega),aA (by omega),aA (by omega),aA (by omega),aA (by omega),aA (by omega),aA (by omega)];exact h2
 ·rw[aA (by omega),aA (by omega),aA (by omega),aA (by omega),aA (by omega),aA (by omega),aA (by omega),aA (by omega),aA (by omega)];exact h3
 ·rw[aA (by omega),aA (by omega),aA (by omega),aA (by omega),aA (by omega),aA (by omega),aA (by omega),aA (by omega),aA (by omega)];exact h4
 ·rw[aA (by omega),aA (by omega),aA (by omega),aA (by omega),aA (by omega),aA (by omega),aA (by omega),aA (by omega),aA (by omega)];exact h5
 ·rw[aA (by omega),aA (by omega),aA (by omega),aA (by omega),aA (by omega),aA (by omega),aA (by omega),aA (by omega),aA (by omega)];exact h6
 ·rw[aA (by omega),aA (by omega),aA (by omega),aA (by omega),aA (by omega),aA (by omega),aA (by omega),aA (by omega),aA (by omega)];exact h7
 ·rw[aA (by omega),aA (by omega),aA (by omega),aA (by omega),aA (by omega),aA (by omega),aA (by omega),aA (by omega),aA (by omega)];exact h8
/-- The cells of rows; a slice of the call's own that holds rows. -/
def cN.cells(x:cN):List Value:=[.int .i64 x.ky,.int .i64 x.st,.int .i64 x.en,.int .i64 x.no,.int .i64 x.kd,.int .i64 x.n,.int .i64 x.su,.int .i64 x.le,.int .i64 x.mo]
def br(xs:List cN):List Value:=xs.flatMap cN.cells
theorem flatPn_snoc(xs:List cN)(x:cN):br (xs++[x])=br xs++x.cells:=by simp[br]
theorem gh(xs:List cN):(br xs).length=xs.length*9:=by
 induction xs with
 |nil=>rfl
 |cons x r ih=>show(x.cells++br r).length=_;rw[List.length_append,ih];simp[cN.cells];omega
theorem flatPn_get{xs:List cN}{i:Nat}{x:cN}(h:xs[i]? =some x):(br xs)[i*9]? =some (.int .i64 x.ky)∧(br xs)[i*9+1]? =some (.int .i64 x.st)∧(br xs)[i*9+2]? =some (.int .i64 x.en)∧(br xs)[i*9+3]? =some (.int .i64 x.no)∧(br xs)[i*9+4]? =some (.int .i64 x.kd)∧(br xs)[i*9+5]? =some (.int .i64 x.n)∧(br xs)[i*9+6]? =some (.int .i64 x.su)∧(br xs)[i*9+7]? =some (.int .i64 x.le)∧(br xs)[i*9+8]? =some (.int .i64 x.mo):=by
 induction xs generalizing i with
 |nil=>simp at h
 |cons y r ih=>
  have hf:br (y :: r)=y.cells++br r:=rfl
  cases i with
  |zero=>
   simp at h
   subst h
   rw[hf]
   exact⟨rfl,rfl,rfl,rfl,rfl,rfl,rfl,rfl,rfl⟩
  |succ i=>
   simp at h
   obtain⟨h0,h1,h2,h3,h4,h5,h6,h7,h8⟩:=ih h
   have hl:y.cells.length=9:=rfl
   rw[hf]
   refine⟨?_,?_,?_,?_,?_,?_,?_,?_,?_⟩
   ·rw[List.getElem?_append_right (by omega),hl,show(i+1)*9 - 9=i*9 by omega];exact h0
   ·rw[List.getElem?_append_right (by omega),hl,show(i+1)*9+1 - 9=i*9+1 by omega];exact h1
   ·rw[List.getElem?_append_right (by omega),hl,show(i+1)*9+2 - 9=i*9+2 by omega];exact h2
   ·rw[List.getElem?_append_right (by omega),hl,show(i+1)*9+3 - 9=i*9+3 by omega];exact h3
   ·rw[List.getElem?_append_right (by omega),hl,show(i+1)*9+4 - 9=i*9+4 by omega];exact h4
   ·rw[List.getElem?_append_right (by omega),hl,show(i+1)*9+5 - 9=i*9+5 by omega];exact h5
   ·rw[List.getElem?_append_right (by omega),hl,show(i+1)*9+6 - 9=i*9+6 by omega];exact h6
   ·rw[List.getElem?_append_right (by omega),hl,show(i+1)*9+7 - 9=i*9+7 by omega];exact h7
   ·rw[List.getElem?_append_right (by omega),hl,show(i+1)*9+8 - 9=i*9+8 by omega];exact h8
def aS(W:World)(B:Nat)(v:Value)(ys:List cN):Prop:=W.ownsRow B 44 9 v ys.length (br ys)
theorem gi{w1:World}{B:Nat}{v':Value}{ys:List cN}{x:cN}(ho:w1.ownsRow B 44 9 v' (ys.length+1) (br ys++x.cells)):aS w1 B v' (ys++[x]):=by
 unfold aS
 rw[flatPn_snoc]
 simpa using ho
theorem fD(w:World)(ky st en no kd n su le mo:Int)(ty:Nat):∀j u,([.int .i64 ky,.int .i64 st,.int .i64 en,.int .i64 no,.int .i64 kd,.int .i64 n,.int .i64 su,.int .i64 le,.int .i64 mo]:List Value)[j]? =some u→(w.alloc (.cells #[.int .i64 ky,.int .i64 st,.int .i64 en,.int .i64 no,.int .i64 kd,.int .i64 n,.int .i64 su,.int .i64 le,.int .i64 mo] ty)).cell? ((⟨w.heap.size,0,none⟩:Addr).add j)=some u:=by
 intro j u hj
 have e:((⟨w.heap.size,0,none⟩:Addr).add j)=⟨w.heap.size,j,none⟩:=by
  unfold Addr.add
  split
  ·rename_i h0;rw[h0]
  ·simp
 rw[e]
 simpa[go_sem]using hj
def markPn(i:Nat):cN:=⟨1+9*(i:Int),1+9*(i:Int)+1,1+9*(i:Int)+1+1,1+9*(i:Int)+1+1+1,1+9*(i:Int)+1+1+1+1,1+9*(i:Int)+1+1+1+1+1,1+9*(i:Int)+1+1+1+1+1+1,1+9*(i:Int)+1+1+1+1+1+1+1,1+9*(i:Int)+1+1+1+1+1+1+1+1⟩
def WrPn(W:World)(a:Option Addr)(n cap:Nat):Prop:=n=0∨∃g,a=some ⟨g,0,none⟩∧de W g 44 cap∧n≤cap
def iU(W:World)(a:Option Addr)(n:Nat):Prop:=n=0∨∃g,a=some ⟨g,0,none⟩∧∀i,i<n→ef W g (i*9) (markPn i)
theorem iU.below{W W':World}{a:Option Addr}{n:Nat}(h:iU W a n)(hb:Below W.heap.size W W'):iU W' a n:=by
 rcases h with h|⟨g,ha,hM⟩
 ·exact Or.inl h
 ·exact Or.inr ⟨g,ha,fun i hi=>(hM i hi).below hb (hM i hi).lt⟩
theorem kj{W:World}{B:Nat}{v:Value}{ys:List cN}(h:aS W B v ys)(hl:ys.length≤1048576):
  ∃a cap,v= .slice a ys.length cap∧eQ W a ys.length ys∧WrPn W a ys.length cap∧∀g o,0<ys.length→a=some ⟨g,o,none⟩→B≤g:=by
 have hm:ys.length≤maxLen:=by unfold maxLen;omega
 obtain⟨hlen,h|⟨g,cap,cur,rfl,hB,hblk,hnc,hcm,hsz,htk⟩⟩:=h
 ·obtain⟨rfl,h0⟩:=h
  rw[h0]
  exact⟨none,0,rfl,⟨h0,Nat.zero_le _,Or.inl rfl⟩,Or.inl rfl,fun _ _ hp=>by omega⟩
 ·refine⟨_,cap,rfl,⟨rfl,hm,Or.inr ⟨g,0,rfl,?_⟩⟩,Or.inr ⟨g,rfl,⟨cur,hblk,hsz⟩,hnc⟩,fun g' o' _ e=>by simp at e;omega⟩
  intro i x hx
  have hi:i<ys.length:=(List.getElem?_eq_some_iff.1 hx).1
  have hcell:∀j u,j<ys.length*9→(br ys)[j]? =some u→W.cell? ⟨g,j,none⟩=some u:=by
   intro j u hj hu
   rw[cA hblk j,←Array.getElem?_toList]
   rw[←htk,List.getElem?_take_of_lt hj]at hu
   exact hu
  obtain⟨f0,f1,f2,f3,f4,f5,f6,f7,f8⟩:=flatPn_get hx
  rw[Nat.zero_add]
  exact⟨hcell _ _ (by omega) f0,hcell _ _ (by omega) f1,hcell _ _ (by omega) f2,hcell _ _ (by omega) f3,hcell _ _ (by omega) f4,hcell _ _ (by omega) f5,hcell _ _ (by omega) f6,hcell _ _ (by omega) f7,hcell _ _ (by omega) f8⟩
theorem WrPn.below{W W':World}{a:Option Addr}{n cap:Nat}(h:WrPn W a n cap)(hb:Below W.heap.size W W'):WrPn W' a n cap:=by
 rcases h with h|⟨g,ha,hB,hc⟩
 ·exact Or.inl h
 ·exact Or.inr ⟨g,ha,hB.below hb hB.lt,hc⟩
theorem WrPn.grown{W W':World}{row:Option Nat}{a:Option Addr}{n cap:Nat}(h:WrPn W a n cap)(hg:W.grownBy W' row)(hne:∀g o,0<n→a=some ⟨g,o,none⟩→some g≠row):WrPn W' a n cap:=by
 rcases h with h|⟨g,ha,hB,hc⟩
 ·exact Or.inl h
 ·by_cases h0:n=0
  ·exact Or.inl h0
  ·obtain⟨cur,c1,c2⟩:=hB
   exact Or.inr ⟨g,ha,⟨cur,(hg.block g (Array.getElem?_eq_some_iff.1 c1).1 (hne g 0 (by omega) ha)).trans c1,c2⟩,hc⟩
theorem aI(n a b:Int)(w:World):Calls Try.prog 17 #[.int .i64 n,.int .i64 a,.int .i64 b] w fun e w'=>e= .returned (.bool (bz n a b))∧w'=w:=by
 by_cases h1:a≤n
 ·by_cases h2:n≤b
  ·have h3:=ae (jZ h1 h2)
   go_enter Try.func17,Try.ntmps17
   go_wp2
   go_ret
   exact⟨aG (ab h3).symm,rfl⟩
  ·have h3:=ae (gR (n:=n) (a:=a) (b:=b) (by omega))
   go_enter Try.func17,Try.ntmps17
   go_wp2
   go_ret
   exact⟨aG (ab h3).symm,rfl⟩
 ·have h3:=ae (gR (n:=n) (a:=a) (b:=b) (by omega))
  go_enter Try.func17,Try.ntmps17
  go_wp2
  go_ret
  exact⟨aG (ab h3).symm,rfl⟩
theorem aF(n a b:Int)(w:World):Calls Try.prog 21 #[.int .i64 n,.int .i64 a,.int .i64 b] w fun e w'=>e= .returned (.bool (bz n a b))∧w'=w:=by
 by_cases h1:a≤n
 ·by_cases h2:n≤b
  ·have h3:=ae (jZ h1 h2)
   go_enter Try.func21,Try.ntmps21
   go_wp2
   go_ret
   exact⟨aG (ab h3).symm,rfl⟩
  ·have h3:=ae (gR (n:=n) (a:=a) (b:=b) (by omega))
   go_enter Try.func21,Try.ntmps21
   go_wp2
   go_ret
   exact⟨aG (ab h3).symm,rfl⟩
 ·have h3:=ae (gR (n:=n) (a:=a) (b:=b) (by omega))
  go_enter Try.func21,Try.ntmps21
  go_wp2
  go_ret
  exact⟨aG (ab h3).symm,rfl⟩
/-- When a window is ok. -/
def dz(a b:Int):Bool:=bz a 0 60&&bz b (a+1) 120
theorem gW(a b:Int)(w:World):Calls Try.prog 44 #[.agg #[.int .i64 a,.int .i64 b]] w fun e w'=>e= .returned (.bool (dz a b))∧Below w.heap.size w w':=by
 by_cases h1:0≤a∧a≤60
 ·obtain⟨h1,h2⟩:=h1
  have h3:=jZ h1 h2
  have h4:Hid (dz a b=bz b (a+1) 120):=ae (by simp[dz,h3])
  go_enter Try.func44,Try.ntmps44
  go_wp2_with (go_at_call 17;refine(aI _ _ _ _).mono ?_;rintro e w' ⟨rfl,rfl⟩)
  go_ret
  exact⟨aG (ab h4).symm,ax _ _⟩
 ·have h3:=gR (n:=a) (a:=0) (b:=60) (by omega)
  have h4:Hid (dz a b=false):=ae (by simp[dz,h3])
  go_enter Try.func44,Try.ntmps44
  go_wp2_with (go_at_call 17;refine(aI _ _ _ _).mono ?_;rintro e w' ⟨rfl,rfl⟩)
  go_ret
  exact⟨aG (ab h4).symm,ax _ _⟩
theorem ba(a b:Int)(w:World):Calls Try.prog 41 #[.agg #[.int .i64 a,.int .i64 b]] w fun e w'=>e= .returned (.bool (dz a b))∧Below w.heap.size w w':=by
 by_cases h1:0≤a∧a≤60
 ·obtain⟨h1,h2⟩:=h1
  have h3:=jZ h1 h2
  have h4:Hid (dz a b=bz b (a+1) 120):=ae (by simp[dz,h3])
  go_enter Try.func41,Try.ntmps41
  go_wp2_with (go_at_call 21;refine(aF _ _ _ _).mono ?_;rintro e w' ⟨rfl,rfl⟩)
  go_ret
  exact⟨aG (ab h4).symm,ax _ _⟩
 ·have h3:=gR (n:=a) (a:=0) (b:=60) (by omega)
  have h4:Hid (dz a b=false):=ae (by simp[dz,h3])
  go_enter Try.func41,Try.ntmps41
  go_wp2_with (go_at_call 21;refine(aF _ _ _ _).mono ?_;rintro e w' ⟨rfl,rfl⟩)
  go_ret
  exact⟨aG (ab h4).symm,ax _ _⟩
theorem jw(a b:Int)(w:World):Calls Try.prog 28 #[.agg #[.int .i64 a,.int .i64 b]] w fun e w'=>e= .returned (.bool (dz a b))∧Below w.heap.size w w':=by
 go_enter Try.func28,Try.ntmps28
 go_wp2_with (go_at_call 44;refine(gW _ _ _).mono ?_;rintro e w' ⟨rfl,hb⟩)
 go_ret
 exact⟨rfl,ap (ax _ _) hb⟩
/-- When what is known is ok. -/
def eB(n s l m:Int):Bool:=if n=0 then(s==0)&&(l==0)&&(m==0)else bz n 1 1000&&bz l (-9) 9&&bz m l 9&&bz s (n*l) (n*m)
theorem okAgg_0(s l m:Int):eB 0 s l m=((s==0)&&(l==0)&&(m==0)):=rfl
theorem okAgg_n{n:Int}(h:n≠0)(s l m:Int):eB n s l m=(bz n 1 1000&&bz l (-9) 9&&bz m l 9&&bz s (n*l) (n*m)):=if_neg h
theorem kk{n l:Int}(h1:bz n 1 1000=true)(h2:bz l (-9) 9=true): -9000≤n*l∧n*l≤9000:=by
 rw[bB]at h1 h2
 have a:=Int.mul_le_mul_of_nonneg_left h2.2 (show(0:Int)≤n by omega)
 have b:=Int.mul_le_mul_of_nonneg_left h2.1 (show(0:Int)≤n by omega)
 omega
theorem inB_up{m l:Int}(h1:bz l (-9) 9=true)(h2:bz m l 9=true):bz m (-9) 9=true:=by
 rw[bB]at*
 omega
theorem bc(n s l m:Int)(w:World):Calls Try.prog 42 #[.agg #[.int .i64 n,.int .i64 s,.int .i64 l,.int .i64 m]] w fun e w'=>e= .returned (.bool (eB n s l m))∧Below w.heap.size w w':=by
 by_cases h0:n=0
 ·subst h0
  rw[okAgg_0]
  cases c0:(s==0)<;>cases c1:(l==0)<;>cases c2:(m==0)
  all_goals
   have hq:Hid (true=true):=ae rfl
   go_enter Try.func42,Try.ntmps42
   go_wp2_with (go_at_call 21;refine(aF _ _ _ _).mono ?_;rintro e w' ⟨rfl,rfl⟩)
   go_ret
   exact⟨rfl,(bu)⟩
 rw[okAgg_n h0]
 have g0:(n==0)=false:=by simpa using h0
 clear h0
 cases c0:bz n 1 1000
 ·have hq:Hid ((false&&bz l (-9) 9&&bz m l 9&&bz s (n*l) (n*m))=false):=ae (by simp)
  go_enter Try.func42,Try.ntmps42
  go_wp2_with (go_at_call 21;refine(aF _ _ _ _).mono ?_;rintro e w' ⟨rfl,rfl⟩)
  go_ret
  exact⟨aG (ab hq).symm,(bu)⟩
 cases c1:bz l (-9) 9
 ·have hq:Hid ((true&&false&&bz m l 9&&bz s (n*l) (n*m))=false):=ae (by simp)
  go_enter Try.func42,Try.ntmps42
  go_wp2_with (go_at_call 21;refine(aF _ _ _ _).mono ?_;rintro e w' ⟨rfl,rfl⟩)
  go_ret
  exact⟨aG (ab hq).symm,(bu)⟩
 cases c2:bz m l 9
 ·have hq:Hid ((true&&true&&false&&bz s (n*l) (n*m))=false):=ae (by simp)
  go_enter Try.func42,Try.ntmps42
  go_wp2_with (go_at_call 21;refine(aF _ _ _ _).mono ?_;rintro e w' ⟨rfl,rfl⟩)
  go_ret
  exact⟨aG (ab hq).symm,(bu)⟩
 have m1:=kk c0 c1
 have m2:=kk c0 (inB_up c1 c2)
 have hq:Hid ((true&&true&&true&&bz s (n*l) (n*m))=bz s (n*l) (n*m)):=ae (by simp)
 go_enter Try.func42,Try.ntmps42
 go_wp2_with (go_at_call 21;refine(aF _ _ _ _).mono ?_;rintro e w' ⟨rfl,rfl⟩)
 go_ret
 exact⟨aG (ab hq).symm,(bu)⟩
theorem bD(n s l m:Int)(w:World):Calls Try.prog 51 #[.agg #[.int .i64 n,.int .i64 s,.int .i64 l,.int .i64 m]] w fun e w'=>e= .returned (.bool (eB n s l m))∧Below w.heap.size w w':=by
 by_cases h0:n=0
 ·subst h0
  rw[okAgg_0]
  cases c0:(s==0)<;>cases c1:(l==0)<;>cases c2:(m==0)
  all_goals
   have hq:Hid (true=true):=ae rfl
   go_enter Try.func51,Try.ntmps51
   go_wp2_with (go_at_call 17;refine(aI _ _ _ _).mono ?_;rintro e w' ⟨rfl,rfl⟩)
   go_ret
   exact⟨rfl,(bu)⟩
 rw[okAgg_n h0]
 have g0:(n==0)=false:=by simpa using h0
 clear h0
 cases c0:bz n 1 1000
 ·have hq:Hid ((false&&bz l (-9) 9&&bz m l 9&&bz s (n*l) (n*m))=false):=ae (by simp)
  go_enter Try.func51,Try.ntmps51
  go_wp2_with (go_at_call 17;refine(aI _ _ _ _).mono ?_;rintro e w' ⟨rfl,rfl⟩)
  go_ret
  exact⟨aG (ab hq).symm,(bu)⟩
 cases c1:bz l (-9) 9
 ·have hq:Hid ((true&&false&&bz m l 9&&bz s (n*l) (n*m))=false):=ae (by simp)
  go_enter Try.func51,Try.ntmps51
  go_wp2_with (go_at_call 17;refine(aI _ _ _ _).mono ?_;rintro e w' ⟨rfl,rfl⟩)
  go_ret
  exact⟨aG (ab hq).symm,(bu)⟩
 cases c2:bz m l 9
 ·have hq:Hid ((true&&true&&false&&bz s (n*l) (n*m))=false):=ae (by simp)
  go_enter Try.func51,Try.ntmps51
  go_wp2_with (go_at_call 17;refine(aI _ _ _ _).mono ?_;rintro e w' ⟨rfl,rfl⟩)
  go_ret
  exact⟨aG (ab hq).symm,(bu)⟩
 have m1:=kk c0 c1
 have m2:=kk c0 (inB_up c1 c2)
 have hq:Hid ((true&&true&&true&&bz s (n*l) (n*m))=bz s (n*l) (n*m)):=ae (by simp)
 go_enter Try.func51,Try.ntmps51
 go_wp2_with (go_at_call 17;refine(aI _ _ _ _).mono ?_;rintro e w' ⟨rfl,rfl⟩)
 go_ret
 exact⟨aG (ab hq).symm,(bu)⟩
end Go.Proofs.Ytdmhihcipkhecaa
namespace Go.Proofs.Ytdmhihcipkhecaa
open Go.ChangeShapes Go.WideShapes Go.ChangeAt Go.RowKit Go.Deep
theorem Try.infoOr:(Try.prog.info? 42).map (fun i=>(i.zero,i.size,i.bytes))=some (some (.agg #[.int .i64 0,.int .i64 0,.int .i64 0,.int .i64 0,.int .i64 0,.int .i64 0,.int .i64 0,.int .i64 0,.int .i64 0,.int .i64 0,.int .i64 0,.int .i64 0,.bool false]),13,104):=by kernel_rfl
/-- The slice that is being filled. -/
def gj(W:World)(g ty len:Nat)(ys:List aD):Prop:=dd W g ty len∧∀i x,ys[i]? =some x→cf W g (i*13) x
theorem gj.step{wr w':World}{g ty len k:Nat}{xs:List aD}{x:aD}(h:gj wr g ty len (xs.take k))(hb:Below wr.heap.size wr w')(hk:k<len)(hx:xs[k]? =some x):gj (jH w' g (k*13) x) g ty len (xs.take (k+1)):=by
 have hB:=h.1.below hb h.1.lt
 refine⟨hB.sets x,fun i y hy=>?_⟩
 have hik:i<k+1:=by
  rcases Nat.lt_or_ge i (k+1)with h'|h'
  ·exact h'
  ·rw[List.getElem?_eq_none (nh)]at hy;cases hy
 rw[List.getElem?_take_of_lt hik]at hy
 by_cases he:i=k
 ·subst he
  rw[hx]at hy
  cases hy
  exact setOr_this hB hk x
 ·refine setOr_ne ?_ he
  exact(h.2 i y (by rw[List.getElem?_take_of_lt (by omega)];exact hy)).below hb h.1.lt
theorem gj.start{w:World}{ty len:Nat}{C:Array Value}(hC:C.size=len*13)(xs:List aD):gj (w.alloc (.cells C ty)) w.heap.size ty len (xs.take 0):=
 ⟨⟨C,by show(w.heap.push _)[w.heap.size]? =_;simp,hC⟩,fun i x h=>by simp at h⟩
theorem gj.done{W:World}{g ty len k:Nat}{xs:List aD}(h:gj W g ty len (xs.take k))(hk:xs.length≤k):gc W g 0 xs:=by
 intro i x hx
 rw[List.take_of_length_le hk]at h
 simpa using h.2 i x hx
end Go.Proofs.Ytdmhihcipkhecaa
namespace Go.Proofs.Ytdmhihcipkhecaa
open Go.ChangeShapes Go.WideShapes Go.ChangeAt Go.RowKit
theorem aO(ky st en an asu ale amo fn fsu fle fmo td:Int)(tm:Bool)(w:World):Calls Try.prog 29 #[.agg #[.int .i64 ky,.int .i64 st,.int .i64 en,.int .i64 an,.int .i64 asu,.int .i64 ale,.int .i64 amo,.int .i64 fn,.int .i64 fsu,.int .i64 fle,.int .i64 fmo,.int .i64 td,.bool tm]] w fun e' w'=>e'= .returned (.agg #[.int .i64 ky,.int .i64 st,.int .i64 en])∧Below w.heap.size w w':=by
 go_enter Try.func29,Try.ntmps29
 go_wp2
 refine bodyPost_ret (v:= .agg #[.int .i64 ky,.int .i64 st,.int .i64 en]) (by simp[results,Try.results29,go_sem]) rfl ⟨rfl,?_⟩
 exact(bx)
/-- When a window of a key is ok; when a pane is. -/
def dX(ky st en:Int):Bool:=bz ky 0 3&&dz st en
theorem bk(ky st en:Int)(w:World):Calls Try.prog 50 #[.agg #[.int .i64 ky,.int .i64 st,.int .i64 en]] w fun e' w'=>e'= .returned (.bool (dX ky st en))∧Below w.heap.size w w':=by
 cases c0:bz ky 0 3
 ·have hq:Hid (dX ky st en=false):=ae (by simp[dX,c0])
  go_enter Try.func50,Try.ntmps50
  go_wp2_with (first
   |(go_at_call 17;refine(aI _ _ _ _).mono ?_;rintro e' w' ⟨rfl,rfl⟩)
   |(go_at_call 44;refine(gW _ _ _).mono ?_;rintro e w' ⟨rfl,hb⟩;obtain⟨hc,hf,hs⟩:=aC hb;(try have hz0:=zA hb w.heap.size)))
  go_ret
  exact⟨aG (ab hq).symm,(bx)⟩
 ·have hq:Hid (dX ky st en=dz st en):=ae (by simp[dX,c0])
  go_enter Try.func50,Try.ntmps50
  go_wp2_with (first
   |(go_at_call 17;refine(aI _ _ _ _).mono ?_;rintro e' w' ⟨rfl,rfl⟩)
   |(go_at_call 44;refine(gW _ _ _).mono ?_;rintro e w' ⟨rfl,hb⟩;obtain⟨hc,hf,hs⟩:=aC hb;(try have hz0:=zA hb w.heap.size)))
  go_ret
  exact⟨aG (ab hq).symm,(bx)⟩
/-- When a job's step is ok; when a job is. -/
def fV(k z p:Int):Bool:=if k=2 then bz p 1 z&&decide (z≤4*p)else p==0
theorem km(z p:Int):fV 2 z p=(bz p 1 z&&decide (z≤4*p)):=rfl
theorem stepB_n{k:Int}(h:k≠2)(z p:Int):fV k z p=(p==0):=if_neg h
def aX(s t k z p l e v r:Int):Bool:=bz s 1 3&&bz t 1 2&&bz k 1 3&&bz z 1 20&&fV k z p&&bz l 0 20&&bz e 1 4&&bz v (-9) 9&&bz r 1 4
theorem cE(s t k z p l e:Int)(b:Bool)(v r:Int)(hz:1≤z∧z≤20)(w:World):Calls Try.prog 49 #[.agg #[.int .i64 s,.int .i64 t,.int .i64 k,.int .i64 z,.int .i64 p,.int .i64 l,.int .i64 e,.bool b,.int .i64 v,.int .i64 r]] w fun e' w'=>e'= .returned (.bool (fV k z p))∧Below w.heap.size w w':=by
 by_cases h2:k=2
 ·subst h2
  rw[km]
  cases d0:bz p 1 z
  ·have hq:Hid ((false&&decide (z≤4*p))=false):=ae (by simp)
   go_enter Try.func49,Try.ntmps49
   go_wp2_with (first
    |(go_at_call 17;refine(aI _ _ _ _).mono ?_;rintro e' w' ⟨rfl,rfl⟩))
   go_ret
   exact⟨aG (ab hq).symm,(bu)⟩
  have hp:=bB.1 d0
  have hq:Hid ((true&&decide (z≤4*p))=decide (z≤4*p)):=ae (by simp)
  go_enter Try.func49,Try.ntmps49
  go_wp2_with (first
   |(go_at_call 17;refine(aI _ _ _ _).mono ?_;rintro e' w' ⟨rfl,rfl⟩))
  go_ret
  exact⟨aG (ab hq).symm,(bu)⟩
 rw[stepB_n h2]
 have g2:(k==2)=false:=by simpa using h2
 clear h2
 go_enter Try.func49,Try.ntmps49
 go_wp2_with (first
  |(go_at_call 17;refine(aI _ _ _ _).mono ?_;rintro e' w' ⟨rfl,rfl⟩))
 go_ret
 exact⟨rfl,(bu)⟩
set_option maxHeartbeats 1000000 in
theorem df(s t k z p l e:Int)(b:Bool)(v r:Int)(w:World):Calls Try.prog 24 #[.agg #[.int .i64 s,.int .i64 t,.int .i64 k,.int .i64 z,.int .i64 p,.int .i64 l,.int .i64 e,.bool b,.int .i64 v,.int .i64 r]] w fun e' w'=>e'= .returned (.bool (aX s t k z p l e v r))∧Below w.heap.size w w':=by
 cases c0:bz s 1 3
 ·have hq:Hid (aX s t k z p l e v r=false):=ae (by simp[aX,c0])
  go_enter Try.func24,Try.ntmps24
  go_wp2_with (first
   |(go_at_call 21;refine(aF _ _ _ _).mono ?_;rintro e' w' ⟨rfl,rfl⟩))
  go_ret
  exact⟨aG (ab hq).symm,(bu)⟩
 cases c1:bz t 1 2
 ·have hq:Hid (aX s t k z p l e v r=false):=ae (by simp[aX,c0,c1])
  go_enter Try.func24,Try.ntmps24
  go_wp2_with (first
   |(go_at_call 21;refine(aF _ _ _ _).mono ?_;rintro e' w' ⟨rfl,rfl⟩))
  go_ret
  exact⟨aG (ab hq).symm,(bu)⟩
 cases c2:bz k 1 3
 ·have hq:Hid (aX s t k z p l e v r=false):=ae (by simp[aX,c0,c1,c2])
  go_enter Try.func24,Try.ntmps24
  go_wp2_with (first
   |(go_at_call 21;refine(aF _ _ _ _).mono ?_;rintro e' w' ⟨rfl,rfl⟩))
  go_ret
  exact⟨aG (ab hq).symm,(bu)⟩
 cases c3:bz z 1 20
 ·have hq:Hid (aX s t k z p l e v r=false):=ae (by simp[aX,c0,c1,c2,c3])
  go_enter Try.func24,Try.ntmps24
  go_wp2_with (first
   |(go_at_call 21;refine(aF _ _ _ _).mono ?_;rintro e' w' ⟨rfl,rfl⟩))
  go_ret
  exact⟨aG (ab hq).symm,(bu)⟩
 have hz:=bB.1 c3
 by_cases h2:k=2
 ·subst h2
  have hs:=km z p
  cases d0:bz p 1 z
  ·have hq:Hid (aX s t 2 z p l e v r=false):=ae (by simp[aX,hs,d0])
   clear hs
   go_enter Try.func24,Try.ntmps24
   go_wp2_with (first
    |(go_at_call 21;refine(aF _ _ _ _).mono ?_;rintro e' w' ⟨rfl,rfl⟩))
   go_ret
   exact⟨aG (ab hq).symm,(bu)⟩
  have hp:=bB.1 d0
  by_cases d1:z≤4*p
  ·have hs':fV 2 z p=true:=by rw[hs,d0];simp[d1]
   clear hs
   cases x0:bz l 0 20
   ·have hq:Hid (aX s t 2 z p l e v r=false):=ae (by simp[aX,c0,c1,c2,c3,hs',x0])
    clear hs'
    go_enter Try.func24,Try.ntmps24
    go_wp2_with (first
     |(go_at_call 21;refine(aF _ _ _ _).mono ?_;rintro e' w' ⟨rfl,rfl⟩))
    go_ret
    exact⟨aG (ab hq).symm,(bu)⟩
   cases x1:bz e 1 4
   ·have hq:Hid (aX s t 2 z p l e v r=false):=ae (by simp[aX,c0,c1,c2,c3,hs',x0,x1])
    clear hs'
    go_enter Try.func24,Try.ntmps24
    go_wp2_with (first
     |(go_at_call 21;refine(aF _ _ _ _).mono ?_;rintro e' w' ⟨rfl,rfl⟩))
    go_ret
    exact⟨aG (ab hq).symm,(bu)⟩
   cases x2:bz v (-9) 9
   ·have hq:Hid (aX s t 2 z p l e v r=false):=ae (by simp[aX,c0,c1,c2,c3,hs',x0,x1,x2])
    clear hs'
    go_enter Try.func24,Try.ntmps24
    go_wp2_with (first
     |(go_at_call 21;refine(aF _ _ _ _).mono ?_;rintro e' w' ⟨rfl,rfl⟩))
    go_ret
    exact⟨aG (ab hq).symm,(bu)⟩
   have hq:Hid (aX s t 2 z p l e v r=bz r 1 4):=ae (by simp[aX,c0,c1,c2,c3,hs',x0,x1,x2])
   clear hs'
   go_enter Try.func24,Try.ntmps24
   go_wp2_with (first
    |(go_at_call 21;refine(aF _ _ _ _).mono ?_;rintro e' w' ⟨rfl,rfl⟩))
   go_ret
   exact⟨aG (ab hq).symm,(bu)⟩
  ·have hs':fV 2 z p=false:=by rw[hs,d0];simp[d1]
   have hq:Hid (aX s t 2 z p l e v r=false):=ae (by simp[aX,hs'])
   clear hs hs'
   go_enter Try.func24,Try.ntmps24
   go_wp2_with (first
    |(go_at_call 21;refine(aF _ _ _ _).mono ?_;rintro e' w' ⟨rfl,rfl⟩))
   go_ret
   exact⟨aG (ab hq).symm,(bu)⟩
 have hs:=stepB_n h2 z p
 have g2:(k==2)=false:=by simpa using h2
 have g3:(k != 2)=true:=by simpa using h2
 clear h2
 cases d0:(p==0)
 ·have g4:(p != 0)=true:=by simpa using d0
  have hq:Hid (aX s t k z p l e v r=false):=ae (by simp[aX,hs,d0])
  clear hs
  go_enter Try.func24,Try.ntmps24
  go_wp2_with (first
   |(go_at_call 21;refine(aF _ _ _ _).mono ?_;rintro e' w' ⟨rfl,rfl⟩))
  go_ret
  exact⟨aG (ab hq).symm,(bu)⟩
 have g4:(p != 0)=false:=by simpa using d0
 cases x0:bz l 0 20
 ·have hq:Hid (aX s t k z p l e v r=false):=ae (by simp[aX,c0,c1,c2,c3,hs,d0,x0])
  clear hs
  go_enter Try.func24,Try.ntmps24
  go_wp2_with (first
   |(go_at_call 21;refine(aF _ _ _ _).mono ?_;rintro e' w' ⟨rfl,rfl⟩))
  go_ret
  exact⟨aG (ab hq).symm,(bu)⟩
 cases x1:bz e 1 4
 ·have hq:Hid (aX s t k z p l e v r=false):=ae (by simp[aX,c0,c1,c2,c3,hs,d0,x0,x1])
  clear hs
  go_enter Try.func24,Try.ntmps24
  go_wp2_with (first
   |(go_at_call 21;refine(aF _ _ _ _).mono ?_;rintro e' w' ⟨rfl,rfl⟩))
  go_ret
  exact⟨aG (ab hq).symm,(bu)⟩
 cases x2:bz v (-9) 9
 ·have hq:Hid (aX s t k z p l e v r=false):=ae (by simp[aX,c0,c1,c2,c3,hs,d0,x0,x1,x2])
  clear hs
  go_enter Try.func24,Try.ntmps24
  go_wp2_with (first
   |(go_at_call 21;refine(aF _ _ _ _).mono ?_;rintro e' w' ⟨rfl,rfl⟩))
  go_ret
  exact⟨aG (ab hq).symm,(bu)⟩
 have hq:Hid (aX s t k z p l e v r=bz r 1 4):=ae (by simp[aX,c0,c1,c2,c3,hs,d0,x0,x1,x2])
 clear hs
 go_enter Try.func24,Try.ntmps24
 go_wp2_with (first
  |(go_at_call 21;refine(aF _ _ _ _).mono ?_;rintro e' w' ⟨rfl,rfl⟩))
 go_ret
 exact⟨aG (ab hq).symm,(bu)⟩
set_option maxHeartbeats 1000000 in
theorem dM(s t k z p l e:Int)(b:Bool)(v r:Int)(w:World):Calls Try.prog 34 #[.agg #[.int .i64 s,.int .i64 t,.int .i64 k,.int .i64 z,.int .i64 p,.int .i64 l,.int .i64 e,.bool b,.int .i64 v,.int .i64 r]] w fun e' w'=>e'= .returned (.bool (aX s t k z p l e v r))∧Below w.heap.size w w':=by
 cases c0:bz s 1 3
 ·have hq:Hid (aX s t k z p l e v r=false):=ae (by simp[aX,c0])
  go_enter Try.func34,Try.ntmps34
  go_wp2_with (first
   |(go_at_call 17;refine(aI _ _ _ _).mono ?_;rintro e' w' ⟨rfl,rfl⟩)
   |(go_at_call 49;refine(cE _ _ _ _ _ _ _ _ _ _ (by omega) _).mono ?_;rintro e' w' ⟨rfl,hb⟩;obtain⟨hc,hf,hsz⟩:=aC hb;(try have hz0:=zA hb w.heap.size)))
  go_ret
  exact⟨aG (ab hq).symm,(bu)⟩
 cases c1:bz t 1 2
 ·have hq:Hid (aX s t k z p l e v r=false):=ae (by simp[aX,c0,c1])
  go_enter Try.func34,Try.ntmps34
  go_wp2_with (first
   |(go_at_call 17;refine(aI _ _ _ _).mono ?_;rintro e' w' ⟨rfl,rfl⟩)
   |(go_at_call 49;refine(cE _ _ _ _ _ _ _ _ _ _ (by omega) _).mono ?_;rintro e' w' ⟨rfl,hb⟩;obtain⟨hc,hf,hsz⟩:=aC hb;(try have hz0:=zA hb w.heap.size)))
  go_ret
  exact⟨aG (ab hq).symm,(bu)⟩
 cases c2:bz k 1 3
 ·have hq:Hid (aX s t k z p l e v r=false):=ae (by simp[aX,c0,c1,c2])
  go_enter Try.func34,Try.ntmps34
  go_wp2_with (first
   |(go_at_call 17;refine(aI _ _ _ _).mono ?_;rintro e' w' ⟨rfl,rfl⟩)
   |(go_at_call 49;refine(cE _ _ _ _ _ _ _ _ _ _ (by omega) _).mono ?_;rintro e' w' ⟨rfl,hb⟩;obtain⟨hc,hf,hsz⟩:=aC hb;(try have hz0:=zA hb w.heap.size)))
  go_ret
  exact⟨aG (ab hq).symm,(bu)⟩
 cases c3:bz z 1 20
 ·have hq:Hid (aX s t k z p l e v r=false):=ae (by simp[aX,c0,c1,c2,c3])
  go_enter Try.func34,Try.ntmps34
  go_wp2_with (first
   |(go_at_call 17;refine(aI _ _ _ _).mono ?_;rintro e' w' ⟨rfl,rfl⟩)
   |(go_at_call 49;refine(cE _ _ _ _ _ _ _ _ _ _ (by omega) _).mono ?_;rintro e' w' ⟨rfl,hb⟩;obtain⟨hc,hf,hsz⟩:=aC hb;(try have hz0:=zA hb w.heap.size)))
  go_ret
  exact⟨aG (ab hq).symm,(bu)⟩
 have hz:=bB.1 c3
 cases d0:fV k z p
 ·have hq:Hid (aX s t k z p l e v r=false):=ae (by simp[aX,c0,c1,c2,c3,d0])
  go_enter Try.func34,Try.ntmps34
  go_wp2_with (first
   |(go_at_call 17;refine(aI _ _ _ _).mono ?_;rintro e' w' ⟨rfl,rfl⟩)
   |(go_at_call 49;refine(cE _ _ _ _ _ _ _ _ _ _ (by omega) _).mono ?_;rintro e' w' ⟨rfl,hb⟩;obtain⟨hc,hf,hsz⟩:=aC hb;(try have hz0:=zA hb w.heap.size)))
  go_ret
  exact⟨aG (ab hq).symm,(bu)⟩
 cases d1:bz l 0 20
 ·have hq:Hid (aX s t k z p l e v r=false):=ae (by simp[aX,c0,c1,c2,c3,d0,d1])
  go_enter Try.func34,Try.ntmps34
  go_wp2_with (first
   |(go_at_call 17;refine(aI _ _ _ _).mono ?_;rintro e' w' ⟨rfl,rfl⟩)
   |(go_at_call 49;refine(cE _ _ _ _ _ _ _ _ _ _ (by omega) _).mono ?_;rintro e' w' ⟨rfl,hb⟩;obtain⟨hc,hf,hsz⟩:=aC hb;(try have hz0:=zA hb w.heap.size)))
  go_ret
  exact⟨aG (ab hq).symm,(bu)⟩
 cases d2:bz e 1 4
 ·have hq:Hid (aX s t k z p l e v r=false):=ae (by simp[aX,c0,c1,c2,c3,d0,d1,d2])
  go_enter Try.func34,Try.ntmps34
  go_wp2_with (first
   |(go_at_call 17;refine(aI _ _ _ _).mono ?_;rintro e' w' ⟨rfl,rfl⟩)
   |(go_at_call 49;refine(cE _ _ _ _ _ _ _ _ _ _ (by omega) _).mono ?_;rintro e' w' ⟨rfl,hb⟩;obtain⟨hc,hf,hsz⟩:=aC hb;(try have hz0:=zA hb w.heap.size)))
  go_ret
  exact⟨aG (ab hq).symm,(bu)⟩
 cases d3:bz v (-9) 9
 ·have hq:Hid (aX s t k z p l e v r=false):=ae (by simp[aX,c0,c1,c2,c3,d0,d1,d2,d3])
  go_enter Try.func34,Try.ntmps34
  go_wp2_with (first
   |(go_at_call 17;refine(aI _ _ _ _).mono ?_;rintro e' w' ⟨rfl,rfl⟩)
   |(go_at_call 49;refine(cE _ _ _ _ _ _ _ _ _ _ (by omega) _).mono ?_;rintro e' w' ⟨rfl,hb⟩;obtain⟨hc,hf,hsz⟩:=aC hb;(try have hz0:=zA hb w.heap.size)))
  go_ret
  exact⟨aG (ab hq).symm,(bu)⟩
 have hq:Hid (aX s t k z p l e v r=bz r 1 4):=ae (by simp[aX,c0,c1,c2,c3,d0,d1,d2,d3])
 go_enter Try.func34,Try.ntmps34
 go_wp2_with (first
  |(go_at_call 17;refine(aI _ _ _ _).mono ?_;rintro e' w' ⟨rfl,rfl⟩)
  |(go_at_call 49;refine(cE _ _ _ _ _ _ _ _ _ _ (by omega) _).mono ?_;rintro e' w' ⟨rfl,hb⟩;obtain⟨hc,hf,hsz⟩:=aC hb;(try have hz0:=zA hb w.heap.size)))
 go_ret
 exact⟨aG (ab hq).symm,(bu)⟩
end Go.Proofs.Ytdmhihcipkhecaa
