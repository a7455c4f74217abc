/- Laid together: what the claim needs of the texts that were built one by one. -/
import Derived.Test.YtealpjmannopeaaGreatV1
import Derived.Test.YtealpjmannopeaaGreatV0
import Derived.Deep.Slices
import Derived.Lib.SmallJoins
import Derived.OwnWalk
import Derived.WalkSpells
import Derived.Deep.RegionHeld3
set_option linter.unusedVariables false
namespace Go.Proofs.YtealpjmannopeaaGreat
open Go.ChangeShapes Go.WideShapes Go.ChangeAt Go.RowKit
/-- A row of 7 numbers. -/
structure bz where
 kd:Int
 tm:Int
 ke:Int
 va:Int
 nn:Int
 st:Int
 en:Int
/-- A row lies in its cells; rows lie one behind the other; a slice's value holds rows. -/
def cE(W:World)(g o:Nat)(x:bz):Prop:=W.cell? ⟨g,o,none⟩=some (.int .i64 x.kd)∧W.cell? ⟨g,o+1,none⟩=some (.int .i64 x.tm)∧W.cell? ⟨g,o+2,none⟩=some (.int .i64 x.ke)∧W.cell? ⟨g,o+3,none⟩=some (.int .i64 x.va)∧W.cell? ⟨g,o+4,none⟩=some (.int .i64 x.nn)∧W.cell? ⟨g,o+5,none⟩=some (.int .i64 x.st)∧W.cell? ⟨g,o+6,none⟩=some (.int .i64 x.en)
def em(W:World)(g o:Nat)(xs:List bz):Prop:=∀i x,xs[i]? =some x→cE W g (o+i*7) x
def dc(W:World)(a:Option Addr)(len:Nat)(xs:List bz):Prop:=xs.length=len∧len≤maxLen∧(len=0∨∃g o,a=some ⟨g,o,none⟩∧em W g o xs)
theorem cE.lt{W:World}{g o:Nat}{x:bz}(h:cE W g o x):g<W.heap.size:=by
 obtain⟨h0,_⟩:=h
 rcases Nat.lt_or_ge g W.heap.size with hl|hg
 ·exact hl
 ·simp[World.cell?,Array.getElem?_eq_none hg]at h0
theorem em.lt{W:World}{g o:Nat}{xs:List bz}(h:em W g o xs)(hp:0<xs.length):g<W.heap.size:=(h 0 xs[0] (List.getElem?_eq_getElem hp)).lt
theorem cE.below{W W':World}{B g o:Nat}{x:bz}(h:cE W g o x)(hb:Below B W W')(hg:g<B):cE W' g o x:=by
 obtain⟨h0,h1,h2,h3,h4,h5,h6⟩:=h
 exact⟨(hb.cell (p:=⟨g,_,none⟩) hg).trans h0,(hb.cell (p:=⟨g,_,none⟩) hg).trans h1,(hb.cell (p:=⟨g,_,none⟩) hg).trans h2,(hb.cell (p:=⟨g,_,none⟩) hg).trans h3,(hb.cell (p:=⟨g,_,none⟩) hg).trans h4,(hb.cell (p:=⟨g,_,none⟩) hg).trans h5,(hb.cell (p:=⟨g,_,none⟩) hg).trans h6⟩
theorem em.below{W W':World}{B g o:Nat}{xs:List bz}(h:em W g o xs)(hb:Below B W W')(hg:0<xs.length→g<B):em W' g o xs:=by
 intro i x hx
 have hlt:i<xs.length:=(List.getElem?_eq_some_iff.1 hx).1
 exact(h i x hx).below hb (hg (by omega))
theorem dc.below{W W':World}{a:Option Addr}{len:Nat}{xs:List bz}(h:dc W a len xs)(hb:Below W.heap.size W W'):dc W' a len xs:=by
 obtain⟨h1,h2,h3⟩:=h
 refine⟨h1,h2,?_⟩
 rcases h3 with h3|⟨g,o,ha,hr⟩
 ·exact Or.inl h3
 ·exact Or.inr ⟨g,o,ha,hr.below hb (fun hp=>hr.lt hp)⟩
theorem cE.grown{W W':World}{row:Option Nat}{g o:Nat}{x:bz}(h:cE W g o x)(hg:W.grownBy W' row)(hne:some g≠row):cE W' g o x:=by
 have hbk:=hg.block g h.lt hne
 obtain⟨h0,h1,h2,h3,h4,h5,h6⟩:=h
 exact⟨(World.cell?_of_block (w:=W) hbk).trans h0,(World.cell?_of_block (w:=W) hbk).trans h1,(World.cell?_of_block (w:=W) hbk).trans h2,(World.cell?_of_block (w:=W) hbk).trans h3,(World.cell?_of_block (w:=W) hbk).trans h4,(World.cell?_of_block (w:=W) hbk).trans h5,(World.cell?_of_block (w:=W) hbk).trans h6⟩
theorem dc.grown{W W':World}{row:Option Nat}{a:Option Addr}{n:Nat}{xs:List bz}(h:dc W a n xs)(hg:W.grownBy W' row)(hne:∀g o,0<n→a=some ⟨g,o,none⟩→some g≠row):dc W' a n xs:=by
 obtain⟨h1,h2,h3⟩:=h
 refine⟨h1,h2,?_⟩
 rcases h3 with h3|⟨g,o,ha,hr⟩
 ·exact Or.inl h3
 ·refine Or.inr ⟨g,o,ha,fun i x hx=>(hr i x hx).grown hg (hne g o ?_ ha)⟩
  have hlt:i<xs.length:=(List.getElem?_eq_some_iff.1 hx).1
  omega
theorem dc.lt{W:World}{g o n:Nat}{xs:List bz}(h:dc W (some ⟨g,o,none⟩) n xs)(hp:0<n):g<W.heap.size:=by
 obtain⟨h1,h2,h3⟩:=h
 obtain⟨g',o',ha,hr⟩:=h3.resolve_left (by omega)
 simp at ha
 have:=hr.lt (by omega)
 omega
/-- A row is stored; a block of rows, known whole. -/
def eV(W:World)(g o:Nat)(x:bz):World:=(((((((W.setCell ⟨g,o,none⟩ (.int .i64 x.kd)).setCell ⟨g,o+1,none⟩ (.int .i64 x.tm)).setCell ⟨g,o+2,none⟩ (.int .i64 x.ke)).setCell ⟨g,o+3,none⟩ (.int .i64 x.va)).setCell ⟨g,o+4,none⟩ (.int .i64 x.nn)).setCell ⟨g,o+5,none⟩ (.int .i64 x.st)).setCell ⟨g,o+6,none⟩ (.int .i64 x.en))
def bS(W:World)(g ty len:Nat):Prop:=∃cur,W.heap[g]? =some (.cells cur ty (0,0))∧cur.size=len*7
theorem bS.set{W:World}{g ty len i:Nat}(h:bS W g ty len)(v:Value):bS (W.setCell ⟨g,i,none⟩ v) g ty len:=by
 obtain⟨cur,h1,h2⟩:=h
 exact⟨_,Joins.block_setCell h1 v,by simp[h2]⟩
theorem bS.below{W W':World}{g ty len B:Nat}(h:bS W g ty len)(hb:Below B W W')(hg:g<B):bS W' g ty len:=by
 obtain⟨cur,h1,h2⟩:=h
 exact⟨cur,(hb.block g hg).trans h1,h2⟩
theorem bS.lt{W:World}{g ty len:Nat}(h:bS W g ty len):g<W.heap.size:=by
 obtain⟨cur,h1,h2⟩:=h
 exact(Array.getElem?_eq_some_iff.1 h1).1
theorem bS.cell{W:World}{g ty len i:Nat}(h:bS W g ty len)(hi:i<len*7):∃u,W.cell? ⟨g,i,none⟩=some u:=by
 obtain⟨cur,h1,h2⟩:=h
 exact⟨_,(cA h1 i).trans (Array.getElem?_eq_getElem (by omega))⟩
theorem bS.frozen{W:World}{g ty len i:Nat}(h:bS W g ty len):W.frozen? ⟨g,i,none⟩=false:=by
 obtain⟨cur,h1,h2⟩:=h
 exact Joins.unfrozen_of_block h1 i
theorem bS.cells{W:World}{g ty len k:Nat}(h:bS W g ty len)(hk:k<len):(∃u,W.cell? ⟨g,k*7,none⟩=some u)∧(∃u,W.cell? ⟨g,k*7+1,none⟩=some u)∧(∃u,W.cell? ⟨g,k*7+2,none⟩=some u)∧(∃u,W.cell? ⟨g,k*7+3,none⟩=some u)∧(∃u,W.cell? ⟨g,k*7+4,none⟩=some u)∧(∃u,W.cell? ⟨g,k*7+5,none⟩=some u)∧(∃u,W.cell? ⟨g,k*7+6,none⟩=some u):=⟨h.cell (by omega),h.cell (by omega),h.cell (by omega),h.cell (by omega),h.cell (by omega),h.cell (by omega),h.cell (by omega)⟩
theorem bS.sets{W:World}{g ty len o:Nat}(h:bS W g ty len)(x:bz):bS (eV W g o x) g ty len:=(((((((h.set _).set _).set _).set _).set _).set _).set _)
theorem aw{W:World}{g i j:Nat}{v:Value}(h:i≠j):(W.setCell ⟨g,i,none⟩ v).cell? ⟨g,j,none⟩=W.cell? ⟨g,j,none⟩:=World.cell?_setCell_other _ _ _ _ (by intro e;injection e with e1 e2;exact h e2)
theorem eo{W:World}{g ty len i:Nat}{v:Value}(h:bS W g ty len)(hi:i<len*7):(W.setCell ⟨g,i,none⟩ v).cell? ⟨g,i,none⟩=some v:=by
 obtain⟨u,hu⟩:=h.cell hi
 exact World.cell?_setCell_same _ _ _ hu
theorem gB{W:World}{g ty len k:Nat}(h:bS W g ty len)(hk:k<len)(x:bz):cE (eV W g (k*7) x) g (k*7) x:=by
 unfold eV
 refine⟨?_,?_,?_,?_,?_,?_,?_⟩
 ·(repeat rw[aw (by omega)]);rw[eo h (by omega)]
 ·(repeat rw[aw (by omega)]);rw[eo (h.set _) (by omega)]
 ·(repeat rw[aw (by omega)]);rw[eo ((h.set _).set _) (by omega)]
 ·(repeat rw[aw (by omega)]);rw[eo (((h.set _).set _).set _) (by omega)]
 ·rw[aw (by omega),aw (by omega),eo ((((h.set _).set _).set _).set _) (by omega)]
 ·rw[aw (by omega),eo (((((h.set _).set _).set _).set _).set _) (by omega)]
 ·rw[eo ((((((h.set _).set _).set _).set _).set _).set _) (by omega)]
theorem setLp_ne{W:World}{g i k:Nat}{x y:bz}(h:cE W g (i*7) y)(hk:i≠k):cE (eV W g (k*7) x) g (i*7) y:=by
 unfold eV
 obtain⟨h0,h1,h2,h3,h4,h5,h6⟩:=h
 refine⟨?_,?_,?_,?_,?_,?_,?_⟩
 ·rw[aw (by omega),aw (by omega),aw (by omega),aw (by omega),aw (by omega),aw (by omega),aw (by omega)];exact h0
 ·rw[aw (by omega),aw (by omega),aw (by omega),aw (by omega),aw (by omega),aw (by omega),aw (by omega)];exact h1
 ·rw[aw (by omega),aw (by omega),aw (by omega),aw (by omega),aw (by omega),aw (by omega),aw (by omega)];exact h2
 ·rw[aw (by omega),aw (by omega),aw (by omega),aw (by omega),aw (by omega),aw (by omega),aw (by omega)];exact h3
 ·rw[aw (by omega),aw (by omega),aw (by omega),aw (by omega),aw (by omega),aw (by omega),aw (by omega)];exact h4
 ·rw[aw (by omega),aw (by omega),aw (by omega),aw (by omega),aw (by omega),aw (by omega),aw (by omega)];exact h5
 ·rw[aw (by omega),aw (by omega),aw (by omega),aw (by omega),aw (by omega),aw (by omega),aw (by omega)];exact h6
theorem grown_setLp{W W':World}{g o:Nat}{x:bz}(h:W.grownBy W' (some g)):W.grownBy (eV W' g o x) (some g):=by
 have hs:∀(X:World) (i:Nat) (v:Value),W.grownBy X (some g)→W.grownBy (X.setCell ⟨g,i,none⟩ v) (some g):=by
  intro X i v hX
  exact⟨hX.os,hX.tape,hX.output,by simp[World.setCell];exact hX.size,fun k hk hne=>(Below.heap_setCell X _ v k (fun e=>hne (by rw[e]))).trans (hX.block k hk hne)⟩
 exact hs _ _ _ (hs _ _ _ (hs _ _ _ (hs _ _ _ (hs _ _ _ (hs _ _ _ (hs _ _ _ (h)))))))
/-- The cells of rows; a slice of the call's own that holds rows. -/
def bz.cells(x:bz):List Value:=[.int .i64 x.kd,.int .i64 x.tm,.int .i64 x.ke,.int .i64 x.va,.int .i64 x.nn,.int .i64 x.st,.int .i64 x.en]
def bk(xs:List bz):List Value:=xs.flatMap bz.cells
theorem fy(xs:List bz):(bk xs).length=xs.length*7:=by
 induction xs with
 |nil=>rfl
 |cons x r ih=>show(x.cells++bk r).length=_;rw[List.length_append,ih];simp[bz.cells];omega
theorem gC{xs:List bz}{i:Nat}{x:bz}(h:xs[i]? =some x):(bk xs)[i*7]? =some (.int .i64 x.kd)∧(bk xs)[i*7+1]? =some (.int .i64 x.tm)∧(bk xs)[i*7+2]? =some (.int .i64 x.ke)∧(bk xs)[i*7+3]? =some (.int .i64 x.va)∧(bk xs)[i*7+4]? =some (.int .i64 x.nn)∧(bk xs)[i*7+5]? =some (.int .i64 x.st)∧(bk xs)[i*7+6]? =some (.int .i64 x.en):=by
 induction xs generalizing i with
 |nil=>simp at h
 |cons y r ih=>
  have hf:bk (y :: r)=y.cells++bk r:=rfl
  cases i with
  |zero=>
   simp at h
   subst h
   rw[hf]
   exact⟨rfl,rfl,rfl,rfl,rfl,rfl,rfl⟩
  |succ i=>
   simp at h
   obtain⟨h0,h1,h2,h3,h4,h5,h6⟩:=ih h
   have hl:y.cells.length=7:=rfl
   rw[hf]
   refine⟨?_,?_,?_,?_,?_,?_,?_⟩
   ·rw[List.getElem?_append_right (by omega),hl,show(i+1)*7 - 7=i*7 by omega];exact h0
   ·rw[List.getElem?_append_right (by omega),hl,show(i+1)*7+1 - 7=i*7+1 by omega];exact h1
   ·rw[List.getElem?_append_right (by omega),hl,show(i+1)*7+2 - 7=i*7+2 by omega];exact h2
   ·rw[List.getElem?_append_right (by omega),hl,show(i+1)*7+3 - 7=i*7+3 by omega];exact h3
   ·rw[List.getElem?_append_right (by omega),hl,show(i+1)*7+4 - 7=i*7+4 by omega];exact h4
   ·rw[List.getElem?_append_right (by omega),hl,show(i+1)*7+5 - 7=i*7+5 by omega];exact h5
   ·rw[List.getElem?_append_right (by omega),hl,show(i+1)*7+6 - 7=i*7+6 by omega];exact h6
def eW(W:World)(B:Nat)(v:Value)(ys:List bz):Prop:=W.ownsRow B 103 7 v ys.length (bk ys)
/-- The block of a slice's rows, if there are any; what may be written; what has been marked. -/
def rowLp(a:Option Addr)(n:Nat):Option Nat:=if n=0 then none else a.map (·.block)
theorem gD(a:Option Addr):rowLp a 0=none:=rfl
theorem ij{n:Nat}(h:n≠0)(g o:Nat):rowLp (some ⟨g,o,none⟩) n=some g:=by unfold rowLp;rw[if_neg h];rfl
def eX(i:Nat):bz:=⟨1+7*(i:Int),1+7*(i:Int)+1,1+7*(i:Int)+1+1,1+7*(i:Int)+1+1+1,1+7*(i:Int)+1+1+1+1,1+7*(i:Int)+1+1+1+1+1,1+7*(i:Int)+1+1+1+1+1+1⟩
def gE(W:World)(a:Option Addr)(n cap:Nat):Prop:=n=0∨∃g,a=some ⟨g,0,none⟩∧bS W g 103 cap∧n≤cap
def eY(W:World)(a:Option Addr)(n:Nat):Prop:=n=0∨∃g,a=some ⟨g,0,none⟩∧∀i,i<n→cE W g (i*7) (eX i)
theorem grown0Lp{W W':World}(h:Below W.heap.size W W'):W.grownBy W' none:=⟨h.os,h.tape,h.output,h.size,fun k hk _=>h.block k hk⟩
theorem eY.below{W W':World}{a:Option Addr}{n:Nat}(h:eY W a n)(hb:Below W.heap.size W W'):eY W' a n:=by
 rcases h with h|⟨g,ha,hM⟩
 ·exact Or.inl h
 ·exact Or.inr ⟨g,ha,fun i hi=>(hM i hi).below hb (hM i hi).lt⟩
theorem holdLp{W:World}{B:Nat}{v:Value}{ys:List bz}(h:eW W B v ys)(hl:ys.length≤1048576):
  ∃a cap,v= .slice a ys.length cap∧dc W a ys.length ys∧gE W a ys.length cap∧∀g o,0<ys.length→a=some ⟨g,o,none⟩→B≤g:=by
 have hm:ys.length≤maxLen:=by unfold maxLen;omega
 obtain⟨hlen,h|⟨g,cap,cur,rfl,hB,hblk,hnc,hcm,hsz,htk⟩⟩:=h
 ·obtain⟨rfl,h0⟩:=h
  rw[h0]
  exact⟨none,0,rfl,⟨h0,Nat.zero_le _,Or.inl rfl⟩,Or.inl rfl,fun _ _ hp=>by omega⟩
 ·refine⟨_,cap,rfl,⟨rfl,hm,Or.inr ⟨g,0,rfl,?_⟩⟩,Or.inr ⟨g,rfl,⟨cur,hblk,hsz⟩,hnc⟩,fun g' o' _ e=>by simp at e;omega⟩
  intro i x hx
  have hi:i<ys.length:=(List.getElem?_eq_some_iff.1 hx).1
  have hcell:∀j u,j<ys.length*7→(bk ys)[j]? =some u→W.cell? ⟨g,j,none⟩=some u:=by
   intro j u hj hu
   rw[cA hblk j,←Array.getElem?_toList]
   rw[←htk,List.getElem?_take_of_lt hj]at hu
   exact hu
  obtain⟨f0,f1,f2,f3,f4,f5,f6⟩:=gC hx
  rw[Nat.zero_add]
  exact⟨hcell _ _ (by omega) f0,hcell _ _ (by omega) f1,hcell _ _ (by omega) f2,hcell _ _ (by omega) f3,hcell _ _ (by omega) f4,hcell _ _ (by omega) f5,hcell _ _ (by omega) f6⟩
theorem gE.below{W W':World}{a:Option Addr}{n cap:Nat}(h:gE W a n cap)(hb:Below W.heap.size W W'):gE W' a n cap:=by
 rcases h with h|⟨g,ha,hB,hc⟩
 ·exact Or.inl h
 ·exact Or.inr ⟨g,ha,hB.below hb hB.lt,hc⟩
theorem gE.shape{W:World}{a:Option Addr}{n cap:Nat}(h:gE W a n cap):n=0∨∃g',a=some ⟨g',0,none⟩:=by
 rcases h with h|⟨g,ha,_⟩
 ·exact Or.inl h
 ·exact Or.inr ⟨g,ha⟩
theorem rowLp_ne{a:Option Addr}{n g:Nat}(h:∀g' o',0<n→a=some ⟨g',o',none⟩→g≠g')(hs:n=0∨∃g',a=some ⟨g',0,none⟩):some g≠rowLp a n:=by
 rcases hs with rfl|⟨g',rfl⟩
 ·simp[gD]
 ·by_cases h0:n=0
  ·subst h0;simp[gD]
  ·rw[ij h0]
   have:=h g' 0 (by omega) rfl
   simpa using this
theorem markLp_step{w wr:World}{g ty cap j:Nat}(hB:bS wr g ty cap)(hj:j<cap)(hM:∀i,i<j→cE wr g (i*7) (eX i))(hG:w.grownBy wr (some g)):
  bS (eV wr g (j*7) (eX j)) g ty cap∧(∀i,i<j+1→cE (eV wr g (j*7) (eX j)) g (i*7) (eX i))∧w.grownBy (eV wr g (j*7) (eX j)) (some g):=by
 refine⟨hB.sets _,fun i hi=>?_,grown_setLp hG⟩
 by_cases he:i=j
 ·subst he
  exact gB hB hj (eX i)
 ·exact setLp_ne (hM i (by omega)) he
set_option maxHeartbeats 1000000 in
theorem eqLp_one(x:bz)(w:World):Calls Tryz.prog 50 #[.agg #[.int .i64 x.kd,.int .i64 x.tm,.int .i64 x.ke,.int .i64 x.va,.int .i64 x.nn,.int .i64 x.st,.int .i64 x.en],.agg #[.int .i64 x.kd,.int .i64 x.tm,.int .i64 x.ke,.int .i64 x.va,.int .i64 x.nn,.int .i64 x.st,.int .i64 x.en]] w fun e w'=>e= .returned (.bool true)∧Below w.heap.size w w':=by
 go_enter Tryz.func50,Tryz.ntmps50
 go_wp2_with (first
  |(go_at_call 53;refine(eqItmT _ _ _ _ _ _).mono ?_;rintro e w' ⟨rfl,hb⟩;obtain⟨hc,hf,hs⟩:=ac hb;(try have hz0:=zA hb w.heap.size);(try have hz1:=zA hb (w.heap.size+1)))
  |(go_at_call 79;refine(eqWinT _ _ _).mono ?_;rintro e w' ⟨rfl,hb⟩;obtain⟨hc,hf,hs⟩:=ac hb;(try have hz0:=zA hb w.heap.size);(try have hz1:=zA hb (w.heap.size+1))))
 go_ret
 exact⟨rfl,(ar)⟩
set_option maxRecDepth 20000 in
set_option maxHeartbeats 1000000 in
theorem fJ(a1 a2:Option Addr)(len cap1 cap2:Nat)(xs:List bz)(w:World)(h1:dc w a1 len xs)(h2:dc w a2 len xs):Calls Tryz.prog 17 #[.slice a1 len cap1,.slice a2 len cap2] w fun e w'=>e= .returned (.bool true)∧Below w.heap.size w w':=by
 have hm:=h1.2.1
 unfold maxLen at hm
 go_enter Tryz.func17,Tryz.ntmps17
 go_wp2
 go_loopw [5] (fun i wr=>∃k:Nat,k≤len∧i= .int .i64 k∧Below w.heap.size w wr) (fun i _=>len - (intOf i).toNat)
 case atStart=>exact⟨0,Nat.zero_le _,rfl,Below.refl _ _⟩
 case round=>
  obtain⟨k,hk,rfl,hbw⟩:=hrel
  by_cases hlt:k<len
  ·obtain⟨hl1,_,hx1⟩:=h1
   obtain⟨hl2,_,hx2⟩:=h2
   obtain⟨g1,o1,rfl,hr1⟩:=hx1.resolve_left (by omega)
   obtain⟨g2,o2,rfl,hr2⟩:=hx2.resolve_left (by omega)
   obtain⟨x,hxk⟩:∃x,xs[k]? =some x:=⟨_,List.getElem?_eq_getElem (by omega)⟩
   have hg1:g1<w.heap.size:=hr1.lt (by omega)
   have hg2:g2<w.heap.size:=hr2.lt (by omega)
   have hs1:g1<wr.heap.size:=Nat.lt_of_lt_of_le hg1 hbw.size
   have hs2:g2<wr.heap.size:=Nat.lt_of_lt_of_le hg2 hbw.size
   have hS:((wr.cell? ⟨g1,o1+k*7,none⟩=some (.int .i64 x.kd)∧wr.cell? ⟨g1,o1+k*7+1,none⟩=some (.int .i64 x.tm)∧wr.cell? ⟨g1,o1+k*7+2,none⟩=some (.int .i64 x.ke)∧wr.cell? ⟨g1,o1+k*7+3,none⟩=some (.int .i64 x.va)∧wr.cell? ⟨g1,o1+k*7+4,none⟩=some (.int .i64 x.nn)∧wr.cell? ⟨g1,o1+k*7+5,none⟩=some (.int .i64 x.st)∧wr.cell? ⟨g1,o1+k*7+6,none⟩=some (.int .i64 x.en)∧wr.cell? ⟨g2,o2+k*7,none⟩=some (.int .i64 x.kd)∧wr.cell? ⟨g2,o2+k*7+1,none⟩=some (.int .i64 x.tm)∧wr.cell? ⟨g2,o2+k*7+2,none⟩=some (.int .i64 x.ke)∧wr.cell? ⟨g2,o2+k*7+3,none⟩=some (.int .i64 x.va)∧wr.cell? ⟨g2,o2+k*7+4,none⟩=some (.int .i64 x.nn)∧wr.cell? ⟨g2,o2+k*7+5,none⟩=some (.int .i64 x.st)∧wr.cell? ⟨g2,o2+k*7+6,none⟩=some (.int .i64 x.en))∧g1<wr.heap.size∧g2<wr.heap.size):=by
    obtain⟨c0,c1,c2,c3,c4,c5,c6⟩:=(hr1 k _ hxk).below hbw hg1
    obtain⟨d0,d1,d2,d3,d4,d5,d6⟩:=(hr2 k _ hxk).below hbw hg2
    exact⟨⟨c0,c1,c2,c3,c4,c5,c6,d0,d1,d2,d3,d4,d5,d6⟩,hs1,hs2⟩
   clear hx1 hx2 hxk hr1 hr2
   go_wp2
   go_region_held3 (fun W=>((W.cell? ⟨g1,o1+k*7,none⟩=some (.int .i64 x.kd)∧W.cell? ⟨g1,o1+k*7+1,none⟩=some (.int .i64 x.tm)∧W.cell? ⟨g1,o1+k*7+2,none⟩=some (.int .i64 x.ke)∧W.cell? ⟨g1,o1+k*7+3,none⟩=some (.int .i64 x.va)∧W.cell? ⟨g1,o1+k*7+4,none⟩=some (.int .i64 x.nn)∧W.cell? ⟨g1,o1+k*7+5,none⟩=some (.int .i64 x.st)∧W.cell? ⟨g1,o1+k*7+6,none⟩=some (.int .i64 x.en)∧W.cell? ⟨g2,o2+k*7,none⟩=some (.int .i64 x.kd)∧W.cell? ⟨g2,o2+k*7+1,none⟩=some (.int .i64 x.tm)∧W.cell? ⟨g2,o2+k*7+2,none⟩=some (.int .i64 x.ke)∧W.cell? ⟨g2,o2+k*7+3,none⟩=some (.int .i64 x.va)∧W.cell? ⟨g2,o2+k*7+4,none⟩=some (.int .i64 x.nn)∧W.cell? ⟨g2,o2+k*7+5,none⟩=some (.int .i64 x.st)∧W.cell? ⟨g2,o2+k*7+6,none⟩=some (.int .i64 x.en))∧g1<W.heap.size∧g2<W.heap.size)) ((first|((repeat(first|(with_reducible assumption)|(with_reducible refine fU ?_ (jg))|(with_reducible refine fU ?_ (aj (Below.refl _ _)))|(with_reducible refine fU ?_ (ai _ _))));done)|(refine⟨⟨?_,?_,?_,?_,?_,?_,?_,?_,?_,?_,?_,?_,?_,?_⟩,?_,?_⟩<;>first|(go_keep;done)|(simp;done)|(simp;omega)|omega)))
    (first
    |(go_at_call 50;refine(eqLp_one _ _).mono ?_;rintro e w' ⟨rfl,hb⟩;obtain⟨hc,hf,hs⟩:=ac hb))
   go_wp2
   go_roundw
   case rel=>exact⟨k+1,by omega,by go_num,(ar)⟩
   case measure=>simp[intOf];omega
  ·go_wp2
   go_ret
   exact⟨rfl,hbw⟩
set_option maxRecDepth 20000 in
set_option maxHeartbeats 1000000 in
theorem markLp_any(a:Option Addr)(n cap:Nat)(w:World)(h:gE w a n cap)(hn:n≤1048576):Calls Tryz.prog 18 #[.slice a n cap,.int .i64 1] w fun e w'=>e= .returned (.int .i64 (1+7*(n:Int)))∧eY w' a n∧w.grownBy w' (rowLp a n):=by
 by_cases h0:n=0
 ·subst h0
  go_enter Tryz.func18,Tryz.ntmps18
  go_wp2
  go_loopw [1,5] (fun kv i wr=>kv= .int .i64 1∧i= .int .i64 0∧wr=w) (fun _ _ _=>0)
  case atStart=>exact⟨rfl,rfl,rfl⟩
  case round=>
   obtain⟨rfl,rfl,rfl⟩:=hrel
   go_wp2
   go_ret
   exact⟨rfl,Or.inl rfl,grown0Lp (Below.refl _ _)⟩
 ·obtain⟨g,rfl,hB,hc⟩:=h.resolve_left h0
  rw[ij h0]
  go_enter Tryz.func18,Tryz.ntmps18
  go_wp2
  go_loopw [1,5] (fun kv i wr=>∃j:Nat,j≤n∧kv= .int .i64 (1+7*(j:Int))∧i= .int .i64 j∧bS wr g 103 cap∧(∀i,i<j→cE wr g (i*7) (eX i))∧w.grownBy wr (some g)) (fun _ i _=>n - (intOf i).toNat)
  case atStart=>exact⟨0,Nat.zero_le _,rfl,rfl,hB,fun i hi=>absurd hi (by omega),⟨rfl,rfl,rfl,Nat.le_refl _,fun _ _ _=>rfl⟩⟩
  case round=>
   obtain⟨j,hj,rfl,rfl,hBw,hM,hG⟩:=hrel
   have HM:=ab hM
   clear hM
   by_cases hlt:j<n
   ·obtain⟨⟨u0,d0⟩,⟨u1,d1⟩,⟨u2,d2⟩,⟨u3,d3⟩,⟨u4,d4⟩,⟨u5,d5⟩,⟨u6,d6⟩⟩:=hBw.cells (k:=j) (by omega)
    have f0:=hBw.frozen (i:=j*7)
    have f1:=hBw.frozen (i:=j*7+1)
    have f2:=hBw.frozen (i:=j*7+2)
    have f3:=hBw.frozen (i:=j*7+3)
    have f4:=hBw.frozen (i:=j*7+4)
    have f5:=hBw.frozen (i:=j*7+5)
    have f6:=hBw.frozen (i:=j*7+6)
    go_wp2
    go_roundw
    case rel=>
     obtain⟨s1,s2,s3⟩:=markLp_step hBw (by omega) (aa HM) hG
     exact⟨j+1,by omega,by go_num,by go_num,s1,s2,s3⟩
    case measure=>simp[intOf];omega
   ·obtain rfl:j=n:=by omega
    go_wp2
    go_ret
    exact⟨rfl,Or.inr ⟨g,rfl,aa HM⟩,hG⟩
set_option maxRecDepth 20000 in
set_option maxHeartbeats 1000000 in
theorem gF(a:Option Addr)(n cap:Nat)(w:World)(h:eY w a n)(hn:n≤1048576):Calls Tryz.prog 19 #[.slice a n cap,.int .i64 1] w fun e w'=>e= .returned (.int .i64 (1+7*(n:Int)))∧w'=w:=by
 go_enter Tryz.func19,Tryz.ntmps19
 go_wp2
 go_loop [1,5] (fun kv i=>∃j:Nat,j≤n∧kv= .int .i64 (1+7*(j:Int))∧i= .int .i64 j) (fun _ i=>n - (intOf i).toNat)
 case atStart=>exact⟨0,Nat.zero_le _,rfl,rfl⟩
 case round=>
  obtain⟨j,hj,rfl,rfl⟩:=hrel
  by_cases hlt:j<n
  ·obtain⟨g,rfl,hM⟩:=h.resolve_left (by omega)
   obtain⟨c0,c1,c2,c3,c4,c5,c6⟩:=(show w.cell? ⟨g,j*7,none⟩=some (.int .i64 (1+7*(j:Int)))∧w.cell? ⟨g,j*7+1,none⟩=some (.int .i64 (1+7*(j:Int)+1))∧w.cell? ⟨g,j*7+2,none⟩=some (.int .i64 (1+7*(j:Int)+1+1))∧w.cell? ⟨g,j*7+3,none⟩=some (.int .i64 (1+7*(j:Int)+1+1+1))∧w.cell? ⟨g,j*7+4,none⟩=some (.int .i64 (1+7*(j:Int)+1+1+1+1))∧w.cell? ⟨g,j*7+5,none⟩=some (.int .i64 (1+7*(j:Int)+1+1+1+1+1))∧w.cell? ⟨g,j*7+6,none⟩=some (.int .i64 (1+7*(j:Int)+1+1+1+1+1+1))from hM j hlt)
   clear hM
   go_wp2
   go_round
   case rel=>exact⟨j+1,by omega,by go_num,by go_num⟩
   case measure=>simp[intOf];omega
  ·obtain rfl:j=n:=by omega
   go_wp2
   go_ret
   exact⟨rfl,rfl⟩
end Go.Proofs.YtealpjmannopeaaGreat
namespace Go.Proofs.YtealpjmannopeaaGreat
open Go.ChangeShapes Go.WideShapes Go.ChangeAt Go.RowKit Go.Deep
/-- Each number is an int. -/
def bz.ok64(x:bz):Prop:=(-9223372036854775808≤x.kd∧x.kd≤9223372036854775807)∧(-9223372036854775808≤x.tm∧x.tm≤9223372036854775807)∧(-9223372036854775808≤x.ke∧x.ke≤9223372036854775807)∧(-9223372036854775808≤x.va∧x.va≤9223372036854775807)∧(-9223372036854775808≤x.nn∧x.nn≤9223372036854775807)∧(-9223372036854775808≤x.st∧x.st≤9223372036854775807)∧(-9223372036854775808≤x.en∧x.en≤9223372036854775807)
section
variable {H : Type} {enc : TypeId × Value → H} {P : Program} {w : World} {base : Nat} {spare : Nat → Bool} {held : Bool}
theorem cellsLp{a:Addr}{cs:List Value}(h:w.cells? base a 7=some cs)(f0:dY cs [false,false,false,false,false,false,false]):a.spot=none∧∃x:bz,cE w a.block a.off x∧x.ok64:=by
 obtain⟨z0,r0,rfl,y0,f1⟩:=aD f0
 clear f0
 obtain⟨z1,r1,rfl,y1,f2⟩:=aD f1
 clear f1
 obtain⟨z2,r2,rfl,y2,f3⟩:=aD f2
 clear f2
 obtain⟨z3,r3,rfl,y3,f4⟩:=aD f3
 clear f3
 obtain⟨z4,r4,rfl,y4,f5⟩:=aD f4
 clear f4
 obtain⟨z5,r5,rfl,y5,f6⟩:=aD f5
 clear f5
 obtain⟨z6,r6,rfl,y6,f7⟩:=aD f6
 clear f6
 obtain rfl:=eU f7
 obtain⟨_,hlen,hc⟩:=World.cells?_some h
 have c0:=hc 0 (by omega)
 have c1:=hc 1 (by omega)
 have c2:=hc 2 (by omega)
 have c3:=hc 3 (by omega)
 have c4:=hc 4 (by omega)
 have c5:=hc 5 (by omega)
 have c6:=hc 6 (by omega)
 obtain⟨g,o,sp⟩:=a
 have ha0:(⟨g,o,sp⟩:Addr).add 0=⟨g,o,sp⟩:=by simp[Addr.add]
 have hsp:sp=none:=World.cell?_spot (w:=w) (a:=⟨g,o,sp⟩) (v:= .int .i64 z0) (by rw[←ha0];simpa using c0)
 subst hsp
 exact⟨rfl,⟨z0,z1,z2,z3,z4,z5,z6⟩,⟨by simpa[Addr.add]using c0,by simpa[Addr.add]using c1,by simpa[Addr.add]using c2,by simpa[Addr.add]using c3,by simpa[Addr.add]using c4,by simpa[Addr.add]using c5,by simpa[Addr.add]using c6⟩,aW y0,aW y1,aW y2,aW y3,aW y4,aW y5,aW y6⟩
theorem openLp{t e:TypeId}{a:Option Addr}{len cap:Nat}{d:DataW H}{p:List MemPlace}(ht:P.underlying t=some (.slice e))(hk:bf P 5 e=some [false,false,false,false,false,false,false])(hC:P.cellsOf e=7)
  (h:DataW.Trod enc P w base spare held t (.slice a len cap) d p):∃xs:List bz,dc w a len xs∧∀x ∈ xs,x.ok64:=by
 obtain⟨fuel,hf⟩:=h
 rcases open_slice ht hf with⟨hcs,_⟩|⟨a',len',cap',m,n,D,Pl,hcs,_,hl,hm,hmm,_,hx⟩
 ·simp[Value.cells]at hcs
  obtain⟨rfl,rfl,rfl⟩:=hcs
  exact⟨[],⟨rfl,Nat.zero_le _,Or.inl rfl⟩,by simp⟩
 ·simp[Value.cells]at hcs
  obtain⟨rfl,rfl,rfl⟩:=hcs
  have hlm:len≤m:=by rw[hmm];split<;>omega
  have hall:∀i,i<len→∃x:bz,(i=0→a'.spot=none)∧cE w a'.block (a'.off+i*7) x∧x.ok64:=by
   intro i hi
   obtain⟨cs',h1,h2⟩:=hx i (by omega)
   rw[hC]at h1
   obtain⟨hsp,x,hxa,hxo⟩:=cellsLp h1 (dl 5 hk h2)
   have hb:(a'.add (i*7)).block=a'.block∧(a'.add (i*7)).off=a'.off+i*7:=by
    unfold Addr.add
    split
    ·exact⟨rfl,by omega⟩
    ·exact⟨rfl,rfl⟩
   rw[hb.1,hb.2]at hxa
   refine⟨x,fun h0=>?_,hxa,hxo⟩
   subst h0
   simpa[Addr.add]using hsp
  by_cases h0:len=0
  ·subst h0
   exact⟨[],⟨rfl,Nat.zero_le _,Or.inl rfl⟩,by simp⟩
  have hinh:Inhabited bz:=⟨⟨0,0,0,0,0,0,0⟩⟩
  obtain⟨f,hf'⟩:=choose_lt hall
  have hsp:=(hf' 0 (by omega)).1 rfl
  refine⟨(List.range len).map f,⟨by simp,by omega,Or.inr ⟨a'.block,a'.off,by cases a';simp_all,?_⟩⟩,?_⟩
  ·intro i x hix
   simp only[List.getElem?_map,Option.map_eq_some_iff]at hix
   obtain⟨j,hj,rfl⟩:=hix
   have hil:i<len:=by
    rcases Nat.lt_or_ge i len with h'|h'
    ·exact h'
    ·rw[List.getElem?_eq_none (by simpa using h')]at hj;cases hj
   rw[List.getElem?_eq_getElem (by simpa using hil)]at hj
   simp at hj
   subst hj
   exact(hf' i hil).2.1
  ·intro x hxm
   simp only[List.mem_map,List.mem_range]at hxm
   obtain⟨i,hi,rfl⟩:=hxm
   exact(hf' i hi).2.2
end
theorem Tryz.infoLp:(Tryz.prog.info? 103).map (fun i=>(i.zero,i.size,i.bytes))=some (some (.agg #[.int .i64 0,.int .i64 0,.int .i64 0,.int .i64 0,.int .i64 0,.int .i64 0,.int .i64 0]),7,56):=by kernel_rfl
theorem mkLp(len:Nat)(hl:len≤1048576):∃C:Array Value,C.size=len*7∧∀w:World,(Instr.makeSlice 58 (.int .i64 (len:Int)) (.int .i64 (len:Int))).run Tryz.prog w= .ok (.slice (some ⟨w.heap.size,0,none⟩) len len) (w.alloc (.cells C 103)):=by
 obtain⟨i0,hi,hz0,hz1,hz2⟩:=info_parts Tryz.infoLp
 refine⟨madeCells (Value.agg #[.int .i64 0,.int .i64 0,.int .i64 0,.int .i64 0,.int .i64 0,.int .i64 0,.int .i64 0]).cells (len*i0.size),by rw[size_madeCells,hz1],fun w=>?_⟩
 have h:=run_make (P:=Tryz.prog) w 58 103 i0 _ Tryz.underlying58 hi hz0 .i64 .i64 len len (by omega) (Int.le_refl _) (by rw[hz2];omega) (by omega)
 simpa using h
/-- The slice that is being filled. -/
def ep(W:World)(g ty len:Nat)(ys:List bz):Prop:=bS W g ty len∧∀i x,ys[i]? =some x→cE W g (i*7) x
theorem ep.step{wr w':World}{g ty len k:Nat}{xs:List bz}{x:bz}(h:ep wr g ty len (xs.take k))(hb:Below wr.heap.size wr w')(hk:k<len)(hx:xs[k]? =some x):ep (eV w' g (k*7) x) g ty len (xs.take (k+1)):=by
 have hB:=h.1.below hb h.1.lt
 refine⟨hB.sets x,fun i y hy=>?_⟩
 have hik:i<k+1:=by
  rcases Nat.lt_or_ge i (k+1)with h'|h'
  ·exact h'
  ·rw[List.getElem?_eq_none (jk)]at hy;cases hy
 rw[List.getElem?_take_of_lt hik]at hy
 by_cases he:i=k
 ·subst he
  rw[hx]at hy
  cases hy
  exact gB hB hk x
 ·refine setLp_ne ?_ he
  exact(h.2 i y (by rw[List.getElem?_take_of_lt (by omega)];exact hy)).below hb h.1.lt
theorem ep.start{w:World}{ty len:Nat}{C:Array Value}(hC:C.size=len*7)(xs:List bz):ep (w.alloc (.cells C ty)) w.heap.size ty len (xs.take 0):=
 ⟨⟨C,by show(w.heap.push _)[w.heap.size]? =_;simp,hC⟩,fun i x h=>by simp at h⟩
theorem ep.done{W:World}{g ty len k:Nat}{xs:List bz}(h:ep W g ty len (xs.take k))(hk:xs.length≤k):em W g 0 xs:=by
 intro i x hx
 rw[List.take_of_length_le hk]at h
 simpa using h.2 i x hx
theorem below_setLp{B g o:Nat}{W W':World}{x:bz}(h:Below B W W')(hg:B≤g):Below B W (eV W' g o x):=(((((((h.setCell hg _).setCell hg _).setCell hg _).setCell hg _).setCell hg _).setCell hg _).setCell hg _)
set_option maxRecDepth 20000 in
set_option maxHeartbeats 1000000 in
theorem toLp_one(kd tm ke va nn st en:Int)(w:World):Calls Tryz.prog 151 #[.agg #[.int .i64 kd,.int .i64 tm,.int .i64 ke,.int .i64 va,.int .i64 nn,.int .i64 st,.int .i64 en]] w fun e w'=>e= .returned (.agg #[.int .i64 kd,.int .i64 tm,.int .i64 ke,.int .i64 va,.int .i64 nn,.int .i64 st,.int .i64 en])∧Below w.heap.size w w':=by
 go_enter Tryz.func151,Tryz.ntmps151
 go_wp2_with (first
  |(go_at_call 115;refine(toItmT _ _ _ _ _ _).mono ?_;rintro e w' ⟨rfl,hb⟩;obtain⟨hc,hf,hs⟩:=ac hb;(try have hz0:=zA hb w.heap.size);(try have hz1:=zA hb (w.heap.size+1));(try have hz2:=zA hb (w.heap.size+1+1)))
  |(go_at_call 180;refine(fT _ _ _).mono ?_;rintro e w' ⟨rfl,hb⟩;obtain⟨hc,hf,hs⟩:=ac hb;(try have hz0:=zA hb w.heap.size);(try have hz1:=zA hb (w.heap.size+1));(try have hz2:=zA hb (w.heap.size+1+1))))
 refine bodyPost_ret (v:= .agg #[.int .i64 kd,.int .i64 tm,.int .i64 ke,.int .i64 va,.int .i64 nn,.int .i64 st,.int .i64 en]) (by simp(maxDischargeDepth:=9) [results,Tryz.results151,go_sem, *]) rfl ⟨rfl,?_⟩
 exact(ar)
set_option maxRecDepth 20000 in
set_option maxHeartbeats 1000000 in
theorem toLp_at(a:Option Addr)(len cap:Nat)(xs:List bz)(w:World)(h:dc w a len xs)(hl:len≤1048576):Calls Tryz.prog 121 #[.slice a len cap] w fun e w'=>e= .returned (.slice (some ⟨w.heap.size,0,none⟩) len len)∧em w' w.heap.size 0 xs∧bS w' w.heap.size 103 len∧Below w.heap.size w w':=by
 obtain⟨C,hC,hmk⟩:=mkLp len hl
 go_enter Tryz.func121,Tryz.ntmps121
 go_wp2
 go_loopw [4] (fun i wr=>∃k:Nat,k≤len∧i= .int .i64 k∧ep wr w.heap.size 103 len (xs.take k)∧Below w.heap.size w wr) (fun i _=>len - (intOf i).toNat)
 case atStart=>exact⟨0,Nat.zero_le _,rfl,ep.start hC xs,ai _ _⟩
 case round=>
  obtain⟨k,hk,rfl,hF,hbw⟩:=hrel
  by_cases hlt:k<len
  ·obtain⟨hxl,hml,hx⟩:=h
   obtain⟨g,o,rfl,hr⟩:=hx.resolve_left (by omega)
   obtain⟨x,hxk⟩:∃x,xs[k]? =some x:=⟨_,List.getElem?_eq_getElem (by omega)⟩
   have hg:g<w.heap.size:=hr.lt (by omega)
   have hX:=ab hxk
   obtain⟨c0,c1,c2,c3,c4,c5,c6⟩:=(hr k _ hxk).below hbw hg
   obtain⟨⟨u0,d0⟩,⟨u1,d1⟩,⟨u2,d2⟩,⟨u3,d3⟩,⟨u4,d4⟩,⟨u5,d5⟩,⟨u6,d6⟩⟩:=hF.1.cells hlt
   have f0:=hF.1.frozen (i:=k*7)
   have f1:=hF.1.frozen (i:=k*7+1)
   have f2:=hF.1.frozen (i:=k*7+2)
   have f3:=hF.1.frozen (i:=k*7+3)
   have f4:=hF.1.frozen (i:=k*7+4)
   have f5:=hF.1.frozen (i:=k*7+5)
   have f6:=hF.1.frozen (i:=k*7+6)
   have hz:=hF.1.lt
   clear hx hxk
   go_wp2_with (go_at_call 151;refine(toLp_one _ _ _ _ _ _ _ _).mono ?_;rintro e w' ⟨rfl,hb⟩;obtain⟨hc,hf,hs⟩:=ac hb)
   go_roundw
   case rel=>exact⟨k+1,by omega,by go_num,hF.step hb hlt (aa hX),below_setLp (ae hbw hb) (Nat.le_refl _)⟩
   case measure=>simp[intOf];omega
  ·go_wp2
   go_ret
   exact⟨rfl,hF.done (by have:=h.1;omega),hF.1,hbw⟩
theorem LpRs_of{W:World}{g len:Nat}{xs:List bz}(h1:xs.length=len)(h2:len≤maxLen)(h:em W g 0 xs):dc W (some ⟨g,0,none⟩) len xs:=⟨h1,h2,Or.inr ⟨g,0,rfl,h⟩⟩
theorem toLp_any(a:Option Addr)(len cap:Nat)(xs:List bz)(w:World)(h:dc w a len xs)(hl:len≤1048576):Calls Tryz.prog 121 #[.slice a len cap] w fun e w'=>∃a',e= .returned (.slice a' len len)∧dc w' a' len xs∧gE w' a' len len∧(∀g o,0<len→a'=some ⟨g,o,none⟩→w.heap.size≤g)∧Below w.heap.size w w':=
 (toLp_at a len cap xs w h hl).mono fun e w' ⟨h1,h2,h3,h4⟩=>⟨_,h1,LpRs_of h.1 h.2.1 h2,Or.inr ⟨_,rfl,h3,Nat.le_refl _⟩,fun g o _ e'=>by simp at e';omega,h4⟩
/-- A block that is not below B, and (but for B = 0) none of whose cells is frozen. -/
def BG(W:World)(B g:Nat):Prop:=B≤g∧(0<B→∃c t,W.heap[g]? =some (.cells c t (0,0)))
theorem BG.below{W W':World}{B g:Nat}(h:BG W B g)(hb:Below W.heap.size W W'):BG W' B g:=⟨h.1,fun h0=>by
 obtain⟨c,t,e⟩:=h.2 h0
 exact⟨c,t,(hb.block g (Array.getElem?_eq_some_iff.1 e).1).trans e⟩⟩
theorem BG.less{W:World}{B B' g:Nat}(h:BG W B g)(hB:B'≤B):BG W B' g:=⟨Nat.le_trans hB h.1,fun h0=>h.2 (by omega)⟩
theorem BG.set{W:World}{B g:Nat}{p:Addr}{v:Value}(h:BG W B g)(hp:p.block<B):BG (W.setCell p v) B g:=⟨h.1,fun h0=>by
 obtain⟨c,t,e⟩:=h.2 h0
 have h9:=h.1
 exact⟨c,t,(Below.heap_setCell _ _ _ _ (by omega)).trans e⟩⟩
theorem BG.zero(W:World)(g:Nat):BG W 0 g:=⟨Nat.zero_le _,fun h=>absurd h (Nat.lt_irrefl 0)⟩
theorem BG.of{W:World}{B g:Nat}{c:Array Value}{t:TypeId}(hB:B≤g)(e:W.heap[g]? =some (.cells c t (0,0))):BG W B g:=⟨hB,fun _=>⟨c,t,e⟩⟩
theorem BG.free{W:World}{B g i:Nat}(h:BG W B g)(h0:0<B):W.frozen? ⟨g,i,none⟩=false:=by
 obtain⟨c,t,e⟩:=h.2 h0
 exact Joins.unfrozen_of_block e i
/-- Such rows, in a block that is not below B. -/
def dG(W:World)(B:Nat)(a:Option Addr)(n:Nat)(xs:List bH):Prop:=di W a n xs∧∀g o,0<n→a=some ⟨g,o,none⟩→BG W B g
theorem dG.below{W W':World}{B:Nat}{a:Option Addr}{n:Nat}{xs:List bH}(h:dG W B a n xs)(hb:Below W.heap.size W W'):dG W' B a n xs:=⟨h.1.below hb,fun g o hn ha=>(h.2 g o hn ha).below hb⟩
theorem dG.less{W:World}{B B':Nat}{a:Option Addr}{n:Nat}{xs:List bH}(h:dG W B a n xs)(hB:B'≤B):dG W B' a n xs:=⟨h.1,fun g o hn ha=>(h.2 g o hn ha).less hB⟩
theorem dG.len{W:World}{B:Nat}{a:Option Addr}{n:Nat}{xs:List bH}(h:dG W B a n xs):xs.length=n∧n≤maxLen:=⟨h.1.1,h.1.2.1⟩
theorem dG.set{W:World}{B:Nat}{p:Addr}{v:Value}{a:Option Addr}{n:Nat}{xs:List bH}(h:dG W B a n xs)(hp:p.block<B):dG (W.setCell p v) B a n xs:=⟨h.1.grown (cf p v) (fun g o hn ha=>by have:=(h.2 g o hn ha).1;simp;omega),fun g o hn ha=>(h.2 g o hn ha).set hp⟩
/-- Such rows, in a block that is not below B. -/
def bn(W:World)(B:Nat)(a:Option Addr)(n:Nat)(xs:List Int):Prop:=fl W a n xs∧∀g o,0<n→a=some ⟨g,o,none⟩→BG W B g
theorem bn.below{W W':World}{B:Nat}{a:Option Addr}{n:Nat}{xs:List Int}(h:bn W B a n xs)(hb:Below W.heap.size W W'):bn W' B a n xs:=⟨h.1.below hb,fun g o hn ha=>(h.2 g o hn ha).below hb⟩
theorem bn.less{W:World}{B B':Nat}{a:Option Addr}{n:Nat}{xs:List Int}(h:bn W B a n xs)(hB:B'≤B):bn W B' a n xs:=⟨h.1,fun g o hn ha=>(h.2 g o hn ha).less hB⟩
theorem bn.len{W:World}{B:Nat}{a:Option Addr}{n:Nat}{xs:List Int}(h:bn W B a n xs):xs.length=n∧n≤maxLen:=⟨h.1.1,h.1.2.1⟩
theorem bn.set{W:World}{B:Nat}{p:Addr}{v:Value}{a:Option Addr}{n:Nat}{xs:List Int}(h:bn W B a n xs)(hp:p.block<B):bn (W.setCell p v) B a n xs:=⟨h.1.keepB (S:=fun b=>b=p.block) (fk.set (S:=fun b=>b=p.block) (p:=p) (fk.refl _ W) rfl v) (fun g o hn ha=>by have:=(h.2 g o hn ha).1;omega),fun g o hn ha=>(h.2 g o hn ha).set hp⟩
/-- Such rows, in a block that is not below B. -/
def dH(W:World)(B:Nat)(a:Option Addr)(n:Nat)(xs:List Bool):Prop:=go W a n xs∧∀g o,0<n→a=some ⟨g,o,none⟩→BG W B g
theorem dH.below{W W':World}{B:Nat}{a:Option Addr}{n:Nat}{xs:List Bool}(h:dH W B a n xs)(hb:Below W.heap.size W W'):dH W' B a n xs:=⟨h.1.below hb,fun g o hn ha=>(h.2 g o hn ha).below hb⟩
theorem dH.less{W:World}{B B':Nat}{a:Option Addr}{n:Nat}{xs:List Bool}(h:dH W B a n xs)(hB:B'≤B):dH W B' a n xs:=⟨h.1,fun g o hn ha=>(h.2 g o hn ha).less hB⟩
theorem dH.len{W:World}{B:Nat}{a:Option Addr}{n:Nat}{xs:List Bool}(h:dH W B a n xs):xs.length=n∧n≤maxLen:=⟨h.1.1,h.1.2.1⟩
theorem dH.set{W:World}{B:Nat}{p:Addr}{v:Value}{a:Option Addr}{n:Nat}{xs:List Bool}(h:dH W B a n xs)(hp:p.block<B):dH (W.setCell p v) B a n xs:=⟨h.1.keepB (S:=fun b=>b=p.block) (fk.set (S:=fun b=>b=p.block) (p:=p) (fk.refl _ W) rfl v) (fun g o hn ha=>by have:=(h.2 g o hn ha).1;omega),fun g o hn ha=>(h.2 g o hn ha).set hp⟩
/-- Such rows, in a block that is not below B. -/
def gp(W:World)(B:Nat)(a:Option Addr)(n:Nat)(xs:List cJ):Prop:=cD W a n xs∧∀g o,0<n→a=some ⟨g,o,none⟩→BG W B g
theorem gp.below{W W':World}{B:Nat}{a:Option Addr}{n:Nat}{xs:List cJ}(h:gp W B a n xs)(hb:Below W.heap.size W W'):gp W' B a n xs:=⟨h.1.below hb,fun g o hn ha=>(h.2 g o hn ha).below hb⟩
theorem gp.less{W:World}{B B':Nat}{a:Option Addr}{n:Nat}{xs:List cJ}(h:gp W B a n xs)(hB:B'≤B):gp W B' a n xs:=⟨h.1,fun g o hn ha=>(h.2 g o hn ha).less hB⟩
theorem gp.len{W:World}{B:Nat}{a:Option Addr}{n:Nat}{xs:List cJ}(h:gp W B a n xs):xs.length=n∧n≤maxLen:=⟨h.1.1,h.1.2.1⟩
theorem gp.set{W:World}{B:Nat}{p:Addr}{v:Value}{a:Option Addr}{n:Nat}{xs:List cJ}(h:gp W B a n xs)(hp:p.block<B):gp (W.setCell p v) B a n xs:=⟨h.1.grown (cf p v) (fun g o hn ha=>by have:=(h.2 g o hn ha).1;simp;omega),fun g o hn ha=>(h.2 g o hn ha).set hp⟩
/-- Such rows, in a block that is not below B. -/
def cK(W:World)(B:Nat)(a:Option Addr)(n:Nat)(xs:List co):Prop:=eJ W a n xs∧∀g o,0<n→a=some ⟨g,o,none⟩→BG W B g
theorem cK.below{W W':World}{B:Nat}{a:Option Addr}{n:Nat}{xs:List co}(h:cK W B a n xs)(hb:Below W.heap.size W W'):cK W' B a n xs:=⟨h.1.below hb,fun g o hn ha=>(h.2 g o hn ha).below hb⟩
theorem cK.less{W:World}{B B':Nat}{a:Option Addr}{n:Nat}{xs:List co}(h:cK W B a n xs)(hB:B'≤B):cK W B' a n xs:=⟨h.1,fun g o hn ha=>(h.2 g o hn ha).less hB⟩
theorem cK.len{W:World}{B:Nat}{a:Option Addr}{n:Nat}{xs:List co}(h:cK W B a n xs):xs.length=n∧n≤maxLen:=⟨h.1.1,h.1.2.1⟩
theorem cK.set{W:World}{B:Nat}{p:Addr}{v:Value}{a:Option Addr}{n:Nat}{xs:List co}(h:cK W B a n xs)(hp:p.block<B):cK (W.setCell p v) B a n xs:=⟨h.1.grown (cf p v) (fun g o hn ha=>by have:=(h.2 g o hn ha).1;simp;omega),fun g o hn ha=>(h.2 g o hn ha).set hp⟩
/-- Such rows, in a block that is not below B. -/
def cN(W:World)(B:Nat)(a:Option Addr)(n:Nat)(xs:List bz):Prop:=dc W a n xs∧∀g o,0<n→a=some ⟨g,o,none⟩→BG W B g
theorem cN.below{W W':World}{B:Nat}{a:Option Addr}{n:Nat}{xs:List bz}(h:cN W B a n xs)(hb:Below W.heap.size W W'):cN W' B a n xs:=⟨h.1.below hb,fun g o hn ha=>(h.2 g o hn ha).below hb⟩
theorem cN.less{W:World}{B B':Nat}{a:Option Addr}{n:Nat}{xs:List bz}(h:cN W B a n xs)(hB:B'≤B):cN W B' a n xs:=⟨h.1,fun g o hn ha=>(h.2 g o hn ha).less hB⟩
theorem cN.len{W:World}{B:Nat}{a:Option Addr}{n:Nat}{xs:List bz}(h:cN W B a n xs):xs.length=n∧n≤maxLen:=⟨h.1.1,h.1.2.1⟩
theorem cN.set{W:World}{B:Nat}{p:Addr}{v:Value}{a:Option Addr}{n:Nat}{xs:List bz}(h:cN W B a n xs)(hp:p.block<B):cN (W.setCell p v) B a n xs:=⟨h.1.grown (cf p v) (fun g o hn ha=>by have:=(h.2 g o hn ha).1;simp;omega),fun g o hn ha=>(h.2 g o hn ha).set hp⟩
theorem toIn_b(B:Nat)(a:Option Addr)(n c:Nat)(xs:List Int)(w:World)(h:bn w B a n xs)(hl:n≤1048576):Calls Tryz.prog 70 #[.slice a n c] w fun e w'=>∃a',e= .returned (.slice a' n n)∧bn w' w.heap.size a' n xs∧Below w.heap.size w w':=
 (toIn_any a n c xs w h.1 hl).mono fun e w' ⟨a',he,H,R,ge,hb⟩=>⟨a',he,⟨H,fun g o hn ha=>by
   have hg:=ge g o hn ha
   rcases R with h0|⟨g2,e2,⟨c2,h2,_⟩⟩
   ·omega
   ·rw[e2]at ha
    cases ha
    exact BG.of hg h2⟩,hb⟩
theorem eqIn_b(B1 B2:Nat)(a1 a2:Option Addr)(n c1 c2:Nat)(xs:List Int)(w:World)(h1:bn w B1 a1 n xs)(h2:bn w B2 a2 n xs):Calls Tryz.prog 84 #[.slice a1 n c1,.slice a2 n c2] w fun e w'=>e= .returned (.bool true)∧Below w.heap.size w w':=eqIn_any a1 a2 n c1 c2 xs w h1.1 h2.1
theorem toBo_b(B:Nat)(a:Option Addr)(n c:Nat)(xs:List Bool)(w:World)(h:dH w B a n xs)(hl:n≤1048576):Calls Tryz.prog 71 #[.slice a n c] w fun e w'=>∃a',e= .returned (.slice a' n n)∧dH w' w.heap.size a' n xs∧Below w.heap.size w w':=
 (toBo_any a n c xs w h.1 hl).mono fun e w' ⟨a',he,H,R,ge,hb⟩=>⟨a',he,⟨H,fun g o hn ha=>by
   have hg:=ge g o hn ha
   rcases R with h0|⟨g2,e2,⟨c2,h2,_⟩⟩
   ·omega
   ·rw[e2]at ha
    cases ha
    exact BG.of hg h2⟩,hb⟩
theorem eqBo_b(B1 B2:Nat)(a1 a2:Option Addr)(n c1 c2:Nat)(xs:List Bool)(w:World)(h1:dH w B1 a1 n xs)(h2:dH w B2 a2 n xs):Calls Tryz.prog 85 #[.slice a1 n c1,.slice a2 n c2] w fun e w'=>e= .returned (.bool true)∧Below w.heap.size w w':=eqBo_any a1 a2 n c1 c2 xs w h1.1 h2.1
theorem toIw_b(B:Nat)(a:Option Addr)(n c:Nat)(xs:List cJ)(w:World)(h:gp w B a n xs)(hl:n≤1048576):Calls Tryz.prog 66 #[.slice a n c] w fun e w'=>∃a',e= .returned (.slice a' n n)∧gp w' w.heap.size a' n xs∧Below w.heap.size w w':=
 (toIw_any a n c xs w h.1 hl).mono fun e w' ⟨a',he,H,R,ge,hb⟩=>⟨a',he,⟨H,fun g o hn ha=>by
   have hg:=ge g o hn ha
   rcases R with h0|⟨g2,e2,⟨c2,h2,_⟩,_⟩
   ·omega
   ·rw[e2]at ha
    cases ha
    exact BG.of hg h2⟩,hb⟩
theorem eqIw_b(B1 B2:Nat)(a1 a2:Option Addr)(n c1 c2:Nat)(xs:List cJ)(w:World)(h1:gp w B1 a1 n xs)(h2:gp w B2 a2 n xs):Calls Tryz.prog 22 #[.slice a1 n c1,.slice a2 n c2] w fun e w'=>e= .returned (.bool true)∧Below w.heap.size w w':=eqIw_any a1 a2 n c1 c2 xs w h1.1 h2.1
theorem toPn_b(B:Nat)(a:Option Addr)(n c:Nat)(xs:List co)(w:World)(h:cK w B a n xs)(hl:n≤1048576):Calls Tryz.prog 120 #[.slice a n c] w fun e w'=>∃a',e= .returned (.slice a' n n)∧cK w' w.heap.size a' n xs∧Below w.heap.size w w':=
 (toPn_any a n c xs w h.1 hl).mono fun e w' ⟨a',he,H,R,ge,hb⟩=>⟨a',he,⟨H,fun g o hn ha=>by
   have hg:=ge g o hn ha
   rcases R with h0|⟨g2,e2,⟨c2,h2,_⟩,_⟩
   ·omega
   ·rw[e2]at ha
    cases ha
    exact BG.of hg h2⟩,hb⟩
theorem eqPn_b(B1 B2:Nat)(a1 a2:Option Addr)(n c1 c2:Nat)(xs:List co)(w:World)(h1:cK w B1 a1 n xs)(h2:cK w B2 a2 n xs):Calls Tryz.prog 10 #[.slice a1 n c1,.slice a2 n c2] w fun e w'=>e= .returned (.bool true)∧Below w.heap.size w w':=eqPn_any a1 a2 n c1 c2 xs w h1.1 h2.1
theorem toLp_b(B:Nat)(a:Option Addr)(n c:Nat)(xs:List bz)(w:World)(h:cN w B a n xs)(hl:n≤1048576):Calls Tryz.prog 121 #[.slice a n c] w fun e w'=>∃a',e= .returned (.slice a' n n)∧cN w' w.heap.size a' n xs∧Below w.heap.size w w':=
 (toLp_any a n c xs w h.1 hl).mono fun e w' ⟨a',he,H,R,ge,hb⟩=>⟨a',he,⟨H,fun g o hn ha=>by
   have hg:=ge g o hn ha
   rcases R with h0|⟨g2,e2,⟨c2,h2,_⟩,_⟩
   ·omega
   ·rw[e2]at ha
    cases ha
    exact BG.of hg h2⟩,hb⟩
theorem eqLp_b(B1 B2:Nat)(a1 a2:Option Addr)(n c1 c2:Nat)(xs:List bz)(w:World)(h1:cN w B1 a1 n xs)(h2:cN w B2 a2 n xs):Calls Tryz.prog 17 #[.slice a1 n c1,.slice a2 n c2] w fun e w'=>e= .returned (.bool true)∧Below w.heap.size w w':=fJ a1 a2 n c1 c2 xs w h1.1 h2.1
theorem szIn_p(a:Option Addr)(len cap:Nat)(L:Int)(w:World)(h:len≤maxLen)(h0:0≤L)(hL:L≤1048576):Calls Tryz.prog 57 #[.slice a len cap,.int .i64 L] w fun e w'=>gn (L - (len:Int)) (len≤1048576) e∧w'=w:=by
 unfold maxLen at h
 by_cases h1:(len:Int)≤L
 ·go_enter Tryz.func57,Tryz.ntmps57
  go_wp2
  go_ret
  exact⟨⟨_,rfl,Or.inr ⟨by omega,by omega,by omega⟩⟩,rfl⟩
 ·go_enter Tryz.func57,Tryz.ntmps57
  go_wp2
  go_ret
  exact⟨⟨_,rfl,Or.inl rfl⟩,rfl⟩
theorem szBo_p(a:Option Addr)(len cap:Nat)(L:Int)(w:World)(h:len≤maxLen)(h0:0≤L)(hL:L≤1048576):Calls Tryz.prog 58 #[.slice a len cap,.int .i64 L] w fun e w'=>gn (L - (len:Int)) (len≤1048576) e∧w'=w:=by
 unfold maxLen at h
 by_cases h1:(len:Int)≤L
 ·go_enter Tryz.func58,Tryz.ntmps58
  go_wp2
  go_ret
  exact⟨⟨_,rfl,Or.inr ⟨by omega,by omega,by omega⟩⟩,rfl⟩
 ·go_enter Tryz.func58,Tryz.ntmps58
  go_wp2
  go_ret
  exact⟨⟨_,rfl,Or.inl rfl⟩,rfl⟩
theorem szIw_p(a:Option Addr)(len cap:Nat)(L:Int)(w:World)(h:len≤maxLen)(h0:0≤L)(hL:L≤1048576):Calls Tryz.prog 54 #[.slice a len cap,.int .i64 L] w fun e w'=>gn (L - (len:Int)) (len≤1048576) e∧w'=w:=by
 unfold maxLen at h
 by_cases h1:(len:Int)≤L
 ·go_enter Tryz.func54,Tryz.ntmps54
  go_wp2
  go_ret
  exact⟨⟨_,rfl,Or.inr ⟨by omega,by omega,by omega⟩⟩,rfl⟩
 ·go_enter Tryz.func54,Tryz.ntmps54
  go_wp2
  go_ret
  exact⟨⟨_,rfl,Or.inl rfl⟩,rfl⟩
theorem szPn_p(a:Option Addr)(len cap:Nat)(L:Int)(w:World)(h:len≤maxLen)(h0:0≤L)(hL:L≤1048576):Calls Tryz.prog 101 #[.slice a len cap,.int .i64 L] w fun e w'=>gn (L - (len:Int)) (len≤1048576) e∧w'=w:=by
 unfold maxLen at h
 by_cases h1:(len:Int)≤L
 ·go_enter Tryz.func101,Tryz.ntmps101
  go_wp2
  go_ret
  exact⟨⟨_,rfl,Or.inr ⟨by omega,by omega,by omega⟩⟩,rfl⟩
 ·go_enter Tryz.func101,Tryz.ntmps101
  go_wp2
  go_ret
  exact⟨⟨_,rfl,Or.inl rfl⟩,rfl⟩
theorem szLp_p(a:Option Addr)(len cap:Nat)(L:Int)(w:World)(h:len≤maxLen)(h0:0≤L)(hL:L≤1048576):Calls Tryz.prog 102 #[.slice a len cap,.int .i64 L] w fun e w'=>gn (L - (len:Int)) (len≤1048576) e∧w'=w:=by
 unfold maxLen at h
 by_cases h1:(len:Int)≤L
 ·go_enter Tryz.func102,Tryz.ntmps102
  go_wp2
  go_ret
  exact⟨⟨_,rfl,Or.inr ⟨by omega,by omega,by omega⟩⟩,rfl⟩
 ·go_enter Tryz.func102,Tryz.ntmps102
  go_wp2
  go_ret
  exact⟨⟨_,rfl,Or.inl rfl⟩,rfl⟩
theorem szOr_p(a:Option Addr)(len cap:Nat)(L:Int)(w:World)(h:len≤maxLen)(h0:0≤L)(hL:L≤1048576):Calls Tryz.prog 142 #[.slice a len cap,.int .i64 L] w fun e w'=>gn (L - (len:Int)) (len≤1048576) e∧w'=w:=by
 by_cases h1:(len:Int)≤L
 ·exact(szOr_le a len cap L w hL h1).mono fun e w' ⟨he,hw⟩=>⟨⟨_,he,Or.inr ⟨by omega,by omega,by omega⟩⟩,hw⟩
 ·exact(szOr_gt a len cap L w h h0 hL h1).mono fun e w' ⟨he,hw⟩=>⟨⟨_,he,Or.inl rfl⟩,hw⟩
theorem szSt_p(m:Int)(a:Option Addr)(len cap:Nat)(L:Int)(w:World)(h:len≤maxLen)(h0:0≤L)(hL:L≤1048576):Calls Tryz.prog 98 #[.agg #[.int .i64 m,.slice a len cap],.int .i64 L] w fun e w'=>gn (L - (len:Int)) (len≤1048576) e∧Below w.heap.size w w':=by
 go_enter Tryz.func98,Tryz.ntmps98
 go_wp2_with fail
 refine(szOr_p a len cap L _ h h0 hL).mono ?_
 rintro e w1 ⟨⟨r,rfl,hr⟩,hw⟩
 obtain rfl:=hw.symm
 clear hw
 rcases hr with rfl|⟨h2,h3,h4⟩
 ·go_wp2
  go_ret
  exact⟨⟨_,rfl,Or.inl rfl⟩,(ar)⟩
 ·go_wp2
  go_ret
  exact⟨⟨_,rfl,Or.inr ⟨h2,h3,h4⟩⟩,(ar)⟩
theorem toSt_b(B:Nat)(m:Int)(a:Option Addr)(n c:Nat)(xs:List bH)(w:World)(h:dG w B a n xs)(hl:n≤1048576):Calls Tryz.prog 117 #[.agg #[.int .i64 m,.slice a n c]] w fun e w'=>∃a',e= .returned (.agg #[.int .i64 m,.slice a' n n])∧dG w' w.heap.size a' n xs∧Below w.heap.size w w':=
 (toSt_any m a n c xs w h.1 hl).mono fun e w' ⟨a',he,H,R,ge,hb⟩=>⟨a',he,⟨H,fun g o hn ha=>by
   have hg:=ge g o hn ha
   rcases R with h0|⟨g2,e2,⟨c2,h2,_⟩,_⟩
   ·omega
   ·rw[e2]at ha
    cases ha
    exact BG.of hg h2⟩,hb⟩
theorem eqSt_b(B1 B2:Nat)(m:Int)(a1 a2:Option Addr)(n c1 c2:Nat)(xs:List bH)(w:World)(h1:dG w B1 a1 n xs)(h2:dG w B2 a2 n xs):Calls Tryz.prog 135 #[.agg #[.int .i64 m,.slice a1 n c1],.agg #[.int .i64 m,.slice a2 n c2]] w fun e w'=>e= .returned (.bool true)∧Below w.heap.size w w':=eqSt_any m a1 a2 n c1 c2 xs w h1.1 h2.1
theorem dd{b0 b1 a0 a1 a2 c0 c1 c2:Nat}{k0 k1 k2 l0 l1 l2:Value}{W W':World}(h:((W.cell? ⟨b0,a0,none⟩=some k0∧W.cell? ⟨b0,a1,none⟩=some k1∧W.cell? ⟨b0,a2,none⟩=some k2∧W.cell? ⟨b1,c0,none⟩=some l0∧W.cell? ⟨b1,c1,none⟩=some l1∧W.cell? ⟨b1,c2,none⟩=some l2)∧b0<W.heap.size∧b1<W.heap.size))(hb:Below W.heap.size W W'):((W'.cell? ⟨b0,a0,none⟩=some k0∧W'.cell? ⟨b0,a1,none⟩=some k1∧W'.cell? ⟨b0,a2,none⟩=some k2∧W'.cell? ⟨b1,c0,none⟩=some l0∧W'.cell? ⟨b1,c1,none⟩=some l1∧W'.cell? ⟨b1,c2,none⟩=some l2)∧b0<W'.heap.size∧b1<W'.heap.size):=by
 obtain⟨h99,s0,s1⟩:=h
 have e0:∀z,W'.cell? ⟨b0,z,none⟩=W.cell? ⟨b0,z,none⟩:=fun z=>hb.cell s0
 have e1:∀z,W'.cell? ⟨b1,z,none⟩=W.cell? ⟨b1,z,none⟩:=fun z=>hb.cell s1
 refine⟨?_,Nat.lt_of_lt_of_le s0 hb.size,Nat.lt_of_lt_of_le s1 hb.size⟩
 simp only[e0,e1]
 exact h99
end Go.Proofs.YtealpjmannopeaaGreat
