/- Laid together: what the claim needs of the texts that were built one by one. -/
import Derived.Test.YtealpjmannopeaaGreatX0
import Derived.Deep.Slices
import Derived.Lib.SmallJoins
import Derived.OwnWalk
import Derived.WalkSpells
import Derived.Deep.RegionHeld3
set_option linter.unusedVariables false
namespace Go.Proofs.YtealpjmannopeaaGreat
open Go.ChangeShapes Go.WideShapes Go.ChangeAt Go.RowKit
theorem hd_5_5{b0 b1 a0 a1 a2 a3 a4 c0 c1 c2 c3 c4:Nat}{k0 k1 k2 k3 k4 l0 l1 l2 l3 l4:Value}{W W':World}(h:((W.cell? ⟨b0,a0,none⟩=some k0∧W.cell? ⟨b0,a1,none⟩=some k1∧W.cell? ⟨b0,a2,none⟩=some k2∧W.cell? ⟨b0,a3,none⟩=some k3∧W.cell? ⟨b0,a4,none⟩=some k4∧W.cell? ⟨b1,c0,none⟩=some l0∧W.cell? ⟨b1,c1,none⟩=some l1∧W.cell? ⟨b1,c2,none⟩=some l2∧W.cell? ⟨b1,c3,none⟩=some l3∧W.cell? ⟨b1,c4,none⟩=some l4)∧b0<W.heap.size∧b1<W.heap.size))(hb:Below W.heap.size W W'):((W'.cell? ⟨b0,a0,none⟩=some k0∧W'.cell? ⟨b0,a1,none⟩=some k1∧W'.cell? ⟨b0,a2,none⟩=some k2∧W'.cell? ⟨b0,a3,none⟩=some k3∧W'.cell? ⟨b0,a4,none⟩=some k4∧W'.cell? ⟨b1,c0,none⟩=some l0∧W'.cell? ⟨b1,c1,none⟩=some l1∧W'.cell? ⟨b1,c2,none⟩=some l2∧W'.cell? ⟨b1,c3,none⟩=some l3∧W'.cell? ⟨b1,c4,none⟩=some l4)∧b0<W'.heap.size∧b1<W'.heap.size):=by
 obtain⟨h99,s0,s1⟩:=h
 have e0:∀z,W'.cell? ⟨b0,z,none⟩=W.cell? ⟨b0,z,none⟩:=fun z=>hb.cell s0
 have e1:∀z,W'.cell? ⟨b1,z,none⟩=W.cell? ⟨b1,z,none⟩:=fun z=>hb.cell s1
 refine⟨?_,Nat.lt_of_lt_of_le s0 hb.size,Nat.lt_of_lt_of_le s1 hb.size⟩
 simp only[e0,e1]
 exact h99
/-- A row of 5 numbers. -/
structure bF where
 kd:Int
 tm:Int
 ke:Int
 va:Int
 nn:Int
/-- A row lies in its cells; rows lie one behind the other; a slice's value holds rows. -/
def cL(W:World)(g o:Nat)(x:bF):Prop:=W.cell? ⟨g,o,none⟩=some (.int .i64 x.kd)∧W.cell? ⟨g,o+1,none⟩=some (.int .i64 x.tm)∧W.cell? ⟨g,o+2,none⟩=some (.int .i64 x.ke)∧W.cell? ⟨g,o+3,none⟩=some (.int .i64 x.va)∧W.cell? ⟨g,o+4,none⟩=some (.int .i64 x.nn)
def et(W:World)(g o:Nat)(xs:List bF):Prop:=∀i x,xs[i]? =some x→cL W g (o+i*5) x
def bG(W:World)(a:Option Addr)(len:Nat)(xs:List bF):Prop:=xs.length=len∧len≤maxLen∧(len=0∨∃g o,a=some ⟨g,o,none⟩∧et W g o xs)
theorem cL.lt{W:World}{g o:Nat}{x:bF}(h:cL W g o x):g<W.heap.size:=by
 obtain⟨h0,_⟩:=h
 rcases Nat.lt_or_ge g W.heap.size with hl|hg
 ·exact hl
 ·simp[World.cell?,Array.getElem?_eq_none hg]at h0
theorem et.lt{W:World}{g o:Nat}{xs:List bF}(h:et W g o xs)(hp:0<xs.length):g<W.heap.size:=(h 0 xs[0] (List.getElem?_eq_getElem hp)).lt
theorem cL.below{W W':World}{B g o:Nat}{x:bF}(h:cL W g o x)(hb:Below B W W')(hg:g<B):cL W' g o x:=by
 obtain⟨h0,h1,h2,h3,h4⟩:=h
 exact⟨(hb.cell (p:=⟨g,_,none⟩) hg).trans h0,(hb.cell (p:=⟨g,_,none⟩) hg).trans h1,(hb.cell (p:=⟨g,_,none⟩) hg).trans h2,(hb.cell (p:=⟨g,_,none⟩) hg).trans h3,(hb.cell (p:=⟨g,_,none⟩) hg).trans h4⟩
theorem et.below{W W':World}{B g o:Nat}{xs:List bF}(h:et W g o xs)(hb:Below B W W')(hg:0<xs.length→g<B):et W' g o xs:=by
 intro i x hx
 have hlt:i<xs.length:=(List.getElem?_eq_some_iff.1 hx).1
 exact(h i x hx).below hb (hg (by omega))
theorem bG.below{W W':World}{a:Option Addr}{len:Nat}{xs:List bF}(h:bG W a len xs)(hb:Below W.heap.size W W'):bG W' a len xs:=by
 obtain⟨h1,h2,h3⟩:=h
 refine⟨h1,h2,?_⟩
 rcases h3 with h3|⟨g,o,ha,hr⟩
 ·exact Or.inl h3
 ·exact Or.inr ⟨g,o,ha,hr.below hb (fun hp=>hr.lt hp)⟩
theorem cL.grown{W W':World}{row:Option Nat}{g o:Nat}{x:bF}(h:cL W g o x)(hg:W.grownBy W' row)(hne:some g≠row):cL W' g o x:=by
 have hbk:=hg.block g h.lt hne
 obtain⟨h0,h1,h2,h3,h4⟩:=h
 exact⟨(World.cell?_of_block (w:=W) hbk).trans h0,(World.cell?_of_block (w:=W) hbk).trans h1,(World.cell?_of_block (w:=W) hbk).trans h2,(World.cell?_of_block (w:=W) hbk).trans h3,(World.cell?_of_block (w:=W) hbk).trans h4⟩
theorem bG.grown{W W':World}{row:Option Nat}{a:Option Addr}{n:Nat}{xs:List bF}(h:bG W a n xs)(hg:W.grownBy W' row)(hne:∀g o,0<n→a=some ⟨g,o,none⟩→some g≠row):bG W' a n xs:=by
 obtain⟨h1,h2,h3⟩:=h
 refine⟨h1,h2,?_⟩
 rcases h3 with h3|⟨g,o,ha,hr⟩
 ·exact Or.inl h3
 ·refine Or.inr ⟨g,o,ha,fun i x hx=>(hr i x hx).grown hg (hne g o ?_ ha)⟩
  have hlt:i<xs.length:=(List.getElem?_eq_some_iff.1 hx).1
  omega
theorem bG.lt{W:World}{g o n:Nat}{xs:List bF}(h:bG W (some ⟨g,o,none⟩) n xs)(hp:0<n):g<W.heap.size:=by
 obtain⟨h1,h2,h3⟩:=h
 obtain⟨g',o',ha,hr⟩:=h3.resolve_left (by omega)
 simp at ha
 have:=hr.lt (by omega)
 omega
/-- A row is stored; a block of rows, known whole. -/
def ff(W:World)(g o:Nat)(x:bF):World:=(((((W.setCell ⟨g,o,none⟩ (.int .i64 x.kd)).setCell ⟨g,o+1,none⟩ (.int .i64 x.tm)).setCell ⟨g,o+2,none⟩ (.int .i64 x.ke)).setCell ⟨g,o+3,none⟩ (.int .i64 x.va)).setCell ⟨g,o+4,none⟩ (.int .i64 x.nn))
def bW(W:World)(g ty len:Nat):Prop:=∃cur,W.heap[g]? =some (.cells cur ty (0,0))∧cur.size=len*5
theorem bW.set{W:World}{g ty len i:Nat}(h:bW W g ty len)(v:Value):bW (W.setCell ⟨g,i,none⟩ v) g ty len:=by
 obtain⟨cur,h1,h2⟩:=h
 exact⟨_,Joins.block_setCell h1 v,by simp[h2]⟩
theorem bW.below{W W':World}{g ty len B:Nat}(h:bW W g ty len)(hb:Below B W W')(hg:g<B):bW W' g ty len:=by
 obtain⟨cur,h1,h2⟩:=h
 exact⟨cur,(hb.block g hg).trans h1,h2⟩
theorem bW.lt{W:World}{g ty len:Nat}(h:bW W g ty len):g<W.heap.size:=by
 obtain⟨cur,h1,h2⟩:=h
 exact(Array.getElem?_eq_some_iff.1 h1).1
theorem bW.cell{W:World}{g ty len i:Nat}(h:bW W g ty len)(hi:i<len*5):∃u,W.cell? ⟨g,i,none⟩=some u:=by
 obtain⟨cur,h1,h2⟩:=h
 exact⟨_,(cA h1 i).trans (Array.getElem?_eq_getElem (by omega))⟩
theorem bW.frozen{W:World}{g ty len i:Nat}(h:bW W g ty len):W.frozen? ⟨g,i,none⟩=false:=by
 obtain⟨cur,h1,h2⟩:=h
 exact Joins.unfrozen_of_block h1 i
theorem bW.cells{W:World}{g ty len k:Nat}(h:bW W g ty len)(hk:k<len):(∃u,W.cell? ⟨g,k*5,none⟩=some u)∧(∃u,W.cell? ⟨g,k*5+1,none⟩=some u)∧(∃u,W.cell? ⟨g,k*5+2,none⟩=some u)∧(∃u,W.cell? ⟨g,k*5+3,none⟩=some u)∧(∃u,W.cell? ⟨g,k*5+4,none⟩=some u):=⟨h.cell (by omega),h.cell (by omega),h.cell (by omega),h.cell (by omega),h.cell (by omega)⟩
theorem bW.sets{W:World}{g ty len o:Nat}(h:bW W g ty len)(x:bF):bW (ff W g o x) g ty len:=(((((h.set _).set _).set _).set _).set _)
theorem aM{W:World}{g i j:Nat}{v:Value}(h:i≠j):(W.setCell ⟨g,i,none⟩ v).cell? ⟨g,j,none⟩=W.cell? ⟨g,j,none⟩:=World.cell?_setCell_other _ _ _ _ (by intro e;injection e with e1 e2;exact h e2)
theorem fU{W:World}{g ty len i:Nat}{v:Value}(h:bW W g ty len)(hi:i<len*5):(W.setCell ⟨g,i,none⟩ v).cell? ⟨g,i,none⟩=some v:=by
 obtain⟨u,hu⟩:=h.cell hi
 exact World.cell?_setCell_same _ _ _ hu
theorem gQ{W:World}{g ty len k:Nat}(h:bW W g ty len)(hk:k<len)(x:bF):cL (ff W g (k*5) x) g (k*5) x:=by
 unfold ff
 refine⟨?_,?_,?_,?_,?_⟩
 ·(repeat rw[aM (by omega)]);rw[fU h (by omega)]
 ·(repeat rw[aM (by omega)]);rw[fU (h.set _) (by omega)]
 ·rw[aM (by omega),aM (by omega),fU ((h.set _).set _) (by omega)]
 ·rw[aM (by omega),fU (((h.set _).set _).set _) (by omega)]
 ·rw[fU ((((h.set _).set _).set _).set _) (by omega)]
theorem setIw_ne{W:World}{g i k:Nat}{x y:bF}(h:cL W g (i*5) y)(hk:i≠k):cL (ff W g (k*5) x) g (i*5) y:=by
 unfold ff
 obtain⟨h0,h1,h2,h3,h4⟩:=h
 refine⟨?_,?_,?_,?_,?_⟩
 ·rw[aM (by omega),aM (by omega),aM (by omega),aM (by omega),aM (by omega)];exact h0
 ·rw[aM (by omega),aM (by omega),aM (by omega),aM (by omega),aM (by omega)];exact h1
 ·rw[aM (by omega),aM (by omega),aM (by omega),aM (by omega),aM (by omega)];exact h2
 ·rw[aM (by omega),aM (by omega),aM (by omega),aM (by omega),aM (by omega)];exact h3
 ·rw[aM (by omega),aM (by omega),aM (by omega),aM (by omega),aM (by omega)];exact h4
theorem grown_setIw{W W':World}{g o:Nat}{x:bF}(h:W.grownBy W' (some g)):W.grownBy (ff W' g o x) (some g):=by
 have hs:∀(X:World) (i:Nat) (v:Value),W.grownBy X (some g)→W.grownBy (X.setCell ⟨g,i,none⟩ v) (some g):=by
  intro X i v hX
  exact⟨hX.os,hX.tape,hX.output,by simp[World.setCell];exact hX.size,fun k hk hne=>(Below.heap_setCell X _ v k (fun e=>hne (by rw[e]))).trans (hX.block k hk hne)⟩
 exact hs _ _ _ (hs _ _ _ (hs _ _ _ (hs _ _ _ (hs _ _ _ (h)))))
/-- The cells of rows; a slice of the call's own that holds rows. -/
def bF.cells(x:bF):List Value:=[.int .i64 x.kd,.int .i64 x.tm,.int .i64 x.ke,.int .i64 x.va,.int .i64 x.nn]
def bk(xs:List bF):List Value:=xs.flatMap bF.cells
theorem fL(xs:List bF):(bk xs).length=xs.length*5:=by
 induction xs with
 |nil=>rfl
 |cons x r ih=>show(x.cells++bk r).length=_;rw[List.length_append,ih];simp[bF.cells];omega
theorem gR{xs:List bF}{i:Nat}{x:bF}(h:xs[i]? =some x):(bk xs)[i*5]? =some (.int .i64 x.kd)∧(bk xs)[i*5+1]? =some (.int .i64 x.tm)∧(bk xs)[i*5+2]? =some (.int .i64 x.ke)∧(bk xs)[i*5+3]? =some (.int .i64 x.va)∧(bk xs)[i*5+4]? =some (.int .i64 x.nn):=by
 induction xs generalizing i with
 |nil=>simp at h
 |cons y r ih=>
  have hf:bk (y :: r)=y.cells++bk r:=rfl
  cases i with
  |zero=>
   simp at h
   subst h
   rw[hf]
   exact⟨rfl,rfl,rfl,rfl,rfl⟩
  |succ i=>
   simp at h
   obtain⟨h0,h1,h2,h3,h4⟩:=ih h
   have hl:y.cells.length=5:=rfl
   rw[hf]
   refine⟨?_,?_,?_,?_,?_⟩
   ·rw[List.getElem?_append_right (by omega),hl,show(i+1)*5 - 5=i*5 by omega];exact h0
   ·rw[List.getElem?_append_right (by omega),hl,show(i+1)*5+1 - 5=i*5+1 by omega];exact h1
   ·rw[List.getElem?_append_right (by omega),hl,show(i+1)*5+2 - 5=i*5+2 by omega];exact h2
   ·rw[List.getElem?_append_right (by omega),hl,show(i+1)*5+3 - 5=i*5+3 by omega];exact h3
   ·rw[List.getElem?_append_right (by omega),hl,show(i+1)*5+4 - 5=i*5+4 by omega];exact h4
def eh(W:World)(B:Nat)(v:Value)(ys:List bF):Prop:=W.ownsRow B 101 5 v ys.length (bk ys)
/-- The block of a slice's rows, if there are any; what may be written; what has been marked. -/
def rowIw(a:Option Addr)(n:Nat):Option Nat:=if n=0 then none else a.map (·.block)
theorem gT(a:Option Addr):rowIw a 0=none:=rfl
theorem iJ{n:Nat}(h:n≠0)(g o:Nat):rowIw (some ⟨g,o,none⟩) n=some g:=by unfold rowIw;rw[if_neg h];rfl
def fg(i:Nat):bF:=⟨1+5*(i:Int),1+5*(i:Int)+1,1+5*(i:Int)+1+1,1+5*(i:Int)+1+1+1,1+5*(i:Int)+1+1+1+1⟩
def gU(W:World)(a:Option Addr)(n cap:Nat):Prop:=n=0∨∃g,a=some ⟨g,0,none⟩∧bW W g 101 cap∧n≤cap
def fh(W:World)(a:Option Addr)(n:Nat):Prop:=n=0∨∃g,a=some ⟨g,0,none⟩∧∀i,i<n→cL W g (i*5) (fg i)
theorem grown0Iw{W W':World}(h:Below W.heap.size W W'):W.grownBy W' none:=⟨h.os,h.tape,h.output,h.size,fun k hk _=>h.block k hk⟩
theorem fh.below{W W':World}{a:Option Addr}{n:Nat}(h:fh W a n)(hb:Below W.heap.size W W'):fh W' a n:=by
 rcases h with h|⟨g,ha,hM⟩
 ·exact Or.inl h
 ·exact Or.inr ⟨g,ha,fun i hi=>(hM i hi).below hb (hM i hi).lt⟩
theorem gV{W:World}{B:Nat}{v:Value}{ys:List bF}(h:eh W B v ys)(hl:ys.length≤1048576):
  ∃a cap,v= .slice a ys.length cap∧bG W a ys.length ys∧gU W a ys.length cap∧∀g o,0<ys.length→a=some ⟨g,o,none⟩→B≤g:=by
 have hm:ys.length≤maxLen:=by unfold maxLen;omega
 obtain⟨hlen,h|⟨g,cap,cur,rfl,hB,hblk,hnc,hcm,hsz,htk⟩⟩:=h
 ·obtain⟨rfl,h0⟩:=h
  rw[h0]
  exact⟨none,0,rfl,⟨h0,Nat.zero_le _,Or.inl rfl⟩,Or.inl rfl,fun _ _ hp=>by omega⟩
 ·refine⟨_,cap,rfl,⟨rfl,hm,Or.inr ⟨g,0,rfl,?_⟩⟩,Or.inr ⟨g,rfl,⟨cur,hblk,hsz⟩,hnc⟩,fun g' o' _ e=>by simp at e;omega⟩
  intro i x hx
  have hi:i<ys.length:=(List.getElem?_eq_some_iff.1 hx).1
  have hcell:∀j u,j<ys.length*5→(bk ys)[j]? =some u→W.cell? ⟨g,j,none⟩=some u:=by
   intro j u hj hu
   rw[cA hblk j,←Array.getElem?_toList]
   rw[←htk,List.getElem?_take_of_lt hj]at hu
   exact hu
  obtain⟨f0,f1,f2,f3,f4⟩:=gR hx
  rw[Nat.zero_add]
  exact⟨hcell _ _ (by omega) f0,hcell _ _ (by omega) f1,hcell _ _ (by omega) f2,hcell _ _ (by omega) f3,hcell _ _ (by omega) f4⟩
theorem gU.below{W W':World}{a:Option Addr}{n cap:Nat}(h:gU W a n cap)(hb:Below W.heap.size W W'):gU W' a n cap:=by
 rcases h with h|⟨g,ha,hB,hc⟩
 ·exact Or.inl h
 ·exact Or.inr ⟨g,ha,hB.below hb hB.lt,hc⟩
theorem gU.shape{W:World}{a:Option Addr}{n cap:Nat}(h:gU W a n cap):n=0∨∃g',a=some ⟨g',0,none⟩:=by
 rcases h with h|⟨g,ha,_⟩
 ·exact Or.inl h
 ·exact Or.inr ⟨g,ha⟩
theorem rowIw_ne{a:Option Addr}{n g:Nat}(h:∀g' o',0<n→a=some ⟨g',o',none⟩→g≠g')(hs:n=0∨∃g',a=some ⟨g',0,none⟩):some g≠rowIw a n:=by
 rcases hs with rfl|⟨g',rfl⟩
 ·simp[gT]
 ·by_cases h0:n=0
  ·subst h0;simp[gT]
  ·rw[iJ h0]
   have:=h g' 0 (by omega) rfl
   simpa using this
theorem markIw_step{w wr:World}{g ty cap j:Nat}(hB:bW wr g ty cap)(hj:j<cap)(hM:∀i,i<j→cL wr g (i*5) (fg i))(hG:w.grownBy wr (some g)):
  bW (ff wr g (j*5) (fg j)) g ty cap∧(∀i,i<j+1→cL (ff wr g (j*5) (fg j)) g (i*5) (fg i))∧w.grownBy (ff wr g (j*5) (fg j)) (some g):=by
 refine⟨hB.sets _,fun i hi=>?_,grown_setIw hG⟩
 by_cases he:i=j
 ·subst he
  exact gQ hB hj (fg i)
 ·exact setIw_ne (hM i (by omega)) he
set_option maxHeartbeats 1000000 in
theorem eqIw_one(x:bF)(w:World):Calls Tryz.prog 53 #[.agg #[.int .i64 x.kd,.int .i64 x.tm,.int .i64 x.ke,.int .i64 x.va,.int .i64 x.nn],.agg #[.int .i64 x.kd,.int .i64 x.tm,.int .i64 x.ke,.int .i64 x.va,.int .i64 x.nn]] w fun e w'=>e= .returned (.bool true)∧Below w.heap.size w w':=by
 go_enter Tryz.func53,Tryz.ntmps53
 go_wp2
 go_ret
 exact⟨rfl,(ar)⟩
set_option maxRecDepth 20000 in
set_option maxHeartbeats 1000000 in
theorem fi(a1 a2:Option Addr)(len cap1 cap2:Nat)(xs:List bF)(w:World)(h1:bG w a1 len xs)(h2:bG w a2 len xs):Calls Tryz.prog 22 #[.slice a1 len cap1,.slice a2 len cap2] w fun e w'=>e= .returned (.bool true)∧Below w.heap.size w w':=by
 have hm:=h1.2.1
 unfold maxLen at hm
 go_enter Tryz.func22,Tryz.ntmps22
 go_wp2
 go_loopw [5] (fun i wr=>∃k:Nat,k≤len∧i= .int .i64 k∧Below w.heap.size w wr) (fun i _=>len - (intOf i).toNat)
 case atStart=>exact⟨0,Nat.zero_le _,rfl,Below.refl _ _⟩
 case round=>
  obtain⟨k,hk,rfl,hbw⟩:=hrel
  by_cases hlt:k<len
  ·obtain⟨hl1,_,hx1⟩:=h1
   obtain⟨hl2,_,hx2⟩:=h2
   obtain⟨g1,o1,rfl,hr1⟩:=hx1.resolve_left (by omega)
   obtain⟨g2,o2,rfl,hr2⟩:=hx2.resolve_left (by omega)
   obtain⟨x,hxk⟩:∃x,xs[k]? =some x:=⟨_,List.getElem?_eq_getElem (by omega)⟩
   have hg1:g1<w.heap.size:=hr1.lt (by omega)
   have hg2:g2<w.heap.size:=hr2.lt (by omega)
   have hs1:g1<wr.heap.size:=Nat.lt_of_lt_of_le hg1 hbw.size
   have hs2:g2<wr.heap.size:=Nat.lt_of_lt_of_le hg2 hbw.size
   have hS:((wr.cell? ⟨g1,o1+k*5,none⟩=some (.int .i64 x.kd)∧wr.cell? ⟨g1,o1+k*5+1,none⟩=some (.int .i64 x.tm)∧wr.cell? ⟨g1,o1+k*5+2,none⟩=some (.int .i64 x.ke)∧wr.cell? ⟨g1,o1+k*5+3,none⟩=some (.int .i64 x.va)∧wr.cell? ⟨g1,o1+k*5+4,none⟩=some (.int .i64 x.nn)∧wr.cell? ⟨g2,o2+k*5,none⟩=some (.int .i64 x.kd)∧wr.cell? ⟨g2,o2+k*5+1,none⟩=some (.int .i64 x.tm)∧wr.cell? ⟨g2,o2+k*5+2,none⟩=some (.int .i64 x.ke)∧wr.cell? ⟨g2,o2+k*5+3,none⟩=some (.int .i64 x.va)∧wr.cell? ⟨g2,o2+k*5+4,none⟩=some (.int .i64 x.nn))∧g1<wr.heap.size∧g2<wr.heap.size):=by
    obtain⟨c0,c1,c2,c3,c4⟩:=(hr1 k _ hxk).below hbw hg1
    obtain⟨d0,d1,d2,d3,d4⟩:=(hr2 k _ hxk).below hbw hg2
    exact⟨⟨c0,c1,c2,c3,c4,d0,d1,d2,d3,d4⟩,hs1,hs2⟩
   clear hx1 hx2 hxk hr1 hr2
   go_wp2
   go_region_held3 (fun W=>((W.cell? ⟨g1,o1+k*5,none⟩=some (.int .i64 x.kd)∧W.cell? ⟨g1,o1+k*5+1,none⟩=some (.int .i64 x.tm)∧W.cell? ⟨g1,o1+k*5+2,none⟩=some (.int .i64 x.ke)∧W.cell? ⟨g1,o1+k*5+3,none⟩=some (.int .i64 x.va)∧W.cell? ⟨g1,o1+k*5+4,none⟩=some (.int .i64 x.nn)∧W.cell? ⟨g2,o2+k*5,none⟩=some (.int .i64 x.kd)∧W.cell? ⟨g2,o2+k*5+1,none⟩=some (.int .i64 x.tm)∧W.cell? ⟨g2,o2+k*5+2,none⟩=some (.int .i64 x.ke)∧W.cell? ⟨g2,o2+k*5+3,none⟩=some (.int .i64 x.va)∧W.cell? ⟨g2,o2+k*5+4,none⟩=some (.int .i64 x.nn))∧g1<W.heap.size∧g2<W.heap.size)) ((first|((repeat(first|(with_reducible assumption)|(with_reducible refine hd_5_5 ?_ (jF))|(with_reducible refine hd_5_5 ?_ (aj (Below.refl _ _)))|(with_reducible refine hd_5_5 ?_ (ai _ _))));done)|(refine⟨⟨?_,?_,?_,?_,?_,?_,?_,?_,?_,?_⟩,?_,?_⟩<;>first|(go_keep;done)|(simp;done)|(simp;omega)|omega)))
    (first
    |(go_at_call 53;refine(eqIw_one _ _).mono ?_;rintro e w' ⟨rfl,hb⟩;obtain⟨hc,hf,hs⟩:=ac hb))
   go_wp2
   go_roundw
   case rel=>exact⟨k+1,by omega,by go_num,(ar)⟩
   case measure=>simp[intOf];omega
  ·go_wp2
   go_ret
   exact⟨rfl,hbw⟩
set_option maxRecDepth 20000 in
set_option maxHeartbeats 1000000 in
theorem markIw_any(a:Option Addr)(n cap:Nat)(w:World)(h:gU w a n cap)(hn:n≤1048576):Calls Tryz.prog 23 #[.slice a n cap,.int .i64 1] w fun e w'=>e= .returned (.int .i64 (1+5*(n:Int)))∧fh w' a n∧w.grownBy w' (rowIw a n):=by
 by_cases h0:n=0
 ·subst h0
  go_enter Tryz.func23,Tryz.ntmps23
  go_wp2
  go_loopw [1,5] (fun kv i wr=>kv= .int .i64 1∧i= .int .i64 0∧wr=w) (fun _ _ _=>0)
  case atStart=>exact⟨rfl,rfl,rfl⟩
  case round=>
   obtain⟨rfl,rfl,rfl⟩:=hrel
   go_wp2
   go_ret
   exact⟨rfl,Or.inl rfl,grown0Iw (Below.refl _ _)⟩
 ·obtain⟨g,rfl,hB,hc⟩:=h.resolve_left h0
  rw[iJ h0]
  go_enter Tryz.func23,Tryz.ntmps23
  go_wp2
  go_loopw [1,5] (fun kv i wr=>∃j:Nat,j≤n∧kv= .int .i64 (1+5*(j:Int))∧i= .int .i64 j∧bW wr g 101 cap∧(∀i,i<j→cL wr g (i*5) (fg i))∧w.grownBy wr (some g)) (fun _ i _=>n - (intOf i).toNat)
  case atStart=>exact⟨0,Nat.zero_le _,rfl,rfl,hB,fun i hi=>absurd hi (by omega),⟨rfl,rfl,rfl,Nat.le_refl _,fun _ _ _=>rfl⟩⟩
  case round=>
   obtain⟨j,hj,rfl,rfl,hBw,hM,hG⟩:=hrel
   have HM:=ab hM
   clear hM
   by_cases hlt:j<n
   ·obtain⟨⟨u0,d0⟩,⟨u1,d1⟩,⟨u2,d2⟩,⟨u3,d3⟩,⟨u4,d4⟩⟩:=hBw.cells (k:=j) (by omega)
    have f0:=hBw.frozen (i:=j*5)
    have f1:=hBw.frozen (i:=j*5+1)
    have f2:=hBw.frozen (i:=j*5+2)
    have f3:=hBw.frozen (i:=j*5+3)
    have f4:=hBw.frozen (i:=j*5+4)
    go_wp2
    go_roundw
    case rel=>
     obtain⟨s1,s2,s3⟩:=markIw_step hBw (by omega) (aa HM) hG
     exact⟨j+1,by omega,by go_num,by go_num,s1,s2,s3⟩
    case measure=>simp[intOf];omega
   ·obtain rfl:j=n:=by omega
    go_wp2
    go_ret
    exact⟨rfl,Or.inr ⟨g,rfl,aa HM⟩,hG⟩
set_option maxRecDepth 20000 in
set_option maxHeartbeats 1000000 in
theorem gW(a:Option Addr)(n cap:Nat)(w:World)(h:fh w a n)(hn:n≤1048576):Calls Tryz.prog 24 #[.slice a n cap,.int .i64 1] w fun e w'=>e= .returned (.int .i64 (1+5*(n:Int)))∧w'=w:=by
 go_enter Tryz.func24,Tryz.ntmps24
 go_wp2
 go_loop [1,5] (fun kv i=>∃j:Nat,j≤n∧kv= .int .i64 (1+5*(j:Int))∧i= .int .i64 j) (fun _ i=>n - (intOf i).toNat)
 case atStart=>exact⟨0,Nat.zero_le _,rfl,rfl⟩
 case round=>
  obtain⟨j,hj,rfl,rfl⟩:=hrel
  by_cases hlt:j<n
  ·obtain⟨g,rfl,hM⟩:=h.resolve_left (by omega)
   obtain⟨c0,c1,c2,c3,c4⟩:=(show w.cell? ⟨g,j*5,none⟩=some (.int .i64 (1+5*(j:Int)))∧w.cell? ⟨g,j*5+1,none⟩=some (.int .i64 (1+5*(j:Int)+1))∧w.cell? ⟨g,j*5+2,none⟩=some (.int .i64 (1+5*(j:Int)+1+1))∧w.cell? ⟨g,j*5+3,none⟩=some (.int .i64 (1+5*(j:Int)+1+1+1))∧w.cell? ⟨g,j*5+4,none⟩=some (.int .i64 (1+5*(j:Int)+1+1+1+1))from hM j hlt)
   clear hM
   go_wp2
   go_round
   case rel=>exact⟨j+1,by omega,by go_num,by go_num⟩
   case measure=>simp[intOf];omega
  ·obtain rfl:j=n:=by omega
   go_wp2
   go_ret
   exact⟨rfl,rfl⟩
end Go.Proofs.YtealpjmannopeaaGreat
namespace Go.Proofs.YtealpjmannopeaaGreat
open Go.ChangeShapes Go.WideShapes Go.ChangeAt Go.RowKit Go.Deep
/-- Each number is an int. -/
def bF.ok64(x:bF):Prop:=(-9223372036854775808≤x.kd∧x.kd≤9223372036854775807)∧(-9223372036854775808≤x.tm∧x.tm≤9223372036854775807)∧(-9223372036854775808≤x.ke∧x.ke≤9223372036854775807)∧(-9223372036854775808≤x.va∧x.va≤9223372036854775807)∧(-9223372036854775808≤x.nn∧x.nn≤9223372036854775807)
section
variable {H : Type} {enc : TypeId × Value → H} {P : Program} {w : World} {base : Nat} {spare : Nat → Bool} {held : Bool}
theorem cellsIw{a:Addr}{cs:List Value}(h:w.cells? base a 5=some cs)(f0:ef cs [false,false,false,false,false]):a.spot=none∧∃x:bF,cL w a.block a.off x∧x.ok64:=by
 obtain⟨z0,r0,rfl,y0,f1⟩:=aE f0
 clear f0
 obtain⟨z1,r1,rfl,y1,f2⟩:=aE f1
 clear f1
 obtain⟨z2,r2,rfl,y2,f3⟩:=aE f2
 clear f2
 obtain⟨z3,r3,rfl,y3,f4⟩:=aE f3
 clear f3
 obtain⟨z4,r4,rfl,y4,f5⟩:=aE f4
 clear f4
 obtain rfl:=fe f5
 obtain⟨_,hlen,hc⟩:=World.cells?_some h
 have c0:=hc 0 (by omega)
 have c1:=hc 1 (by omega)
 have c2:=hc 2 (by omega)
 have c3:=hc 3 (by omega)
 have c4:=hc 4 (by omega)
 obtain⟨g,o,sp⟩:=a
 have ha0:(⟨g,o,sp⟩:Addr).add 0=⟨g,o,sp⟩:=by simp[Addr.add]
 have hsp:sp=none:=World.cell?_spot (w:=w) (a:=⟨g,o,sp⟩) (v:= .int .i64 z0) (by rw[←ha0];simpa using c0)
 subst hsp
 exact⟨rfl,⟨z0,z1,z2,z3,z4⟩,⟨by simpa[Addr.add]using c0,by simpa[Addr.add]using c1,by simpa[Addr.add]using c2,by simpa[Addr.add]using c3,by simpa[Addr.add]using c4⟩,aW y0,aW y1,aW y2,aW y3,aW y4⟩
theorem openIw{t e:TypeId}{a:Option Addr}{len cap:Nat}{d:DataW H}{p:List MemPlace}(ht:P.underlying t=some (.slice e))(hk:bf P 5 e=some [false,false,false,false,false])(hC:P.cellsOf e=5)
  (h:DataW.Trod enc P w base spare held t (.slice a len cap) d p):∃xs:List bF,bG w a len xs∧∀x ∈ xs,x.ok64:=by
 obtain⟨fuel,hf⟩:=h
 rcases open_slice ht hf with⟨hcs,_⟩|⟨a',len',cap',m,n,D,Pl,hcs,_,hl,hm,hmm,_,hx⟩
 ·simp[Value.cells]at hcs
  obtain⟨rfl,rfl,rfl⟩:=hcs
  exact⟨[],⟨rfl,Nat.zero_le _,Or.inl rfl⟩,by simp⟩
 ·simp[Value.cells]at hcs
  obtain⟨rfl,rfl,rfl⟩:=hcs
  have hlm:len≤m:=by rw[hmm];split<;>omega
  have hall:∀i,i<len→∃x:bF,(i=0→a'.spot=none)∧cL w a'.block (a'.off+i*5) x∧x.ok64:=by
   intro i hi
   obtain⟨cs',h1,h2⟩:=hx i (by omega)
   rw[hC]at h1
   obtain⟨hsp,x,hxa,hxo⟩:=cellsIw h1 (dt 5 hk h2)
   have hb:(a'.add (i*5)).block=a'.block∧(a'.add (i*5)).off=a'.off+i*5:=by
    unfold Addr.add
    split
    ·exact⟨rfl,by omega⟩
    ·exact⟨rfl,rfl⟩
   rw[hb.1,hb.2]at hxa
   refine⟨x,fun h0=>?_,hxa,hxo⟩
   subst h0
   simpa[Addr.add]using hsp
  by_cases h0:len=0
  ·subst h0
   exact⟨[],⟨rfl,Nat.zero_le _,Or.inl rfl⟩,by simp⟩
  have hinh:Inhabited bF:=⟨⟨0,0,0,0,0⟩⟩
  obtain⟨f,hf'⟩:=choose_lt hall
  have hsp:=(hf' 0 (by omega)).1 rfl
  refine⟨(List.range len).map f,⟨by simp,by omega,Or.inr ⟨a'.block,a'.off,by cases a';simp_all,?_⟩⟩,?_⟩
  ·intro i x hix
   simp only[List.getElem?_map,Option.map_eq_some_iff]at hix
   obtain⟨j,hj,rfl⟩:=hix
   have hil:i<len:=by
    rcases Nat.lt_or_ge i len with h'|h'
    ·exact h'
    ·rw[List.getElem?_eq_none (by simpa using h')]at hj;cases hj
   rw[List.getElem?_eq_getElem (by simpa using hil)]at hj
   simp at hj
   subst hj
   exact(hf' i hil).2.1
  ·intro x hxm
   simp only[List.mem_map,List.mem_range]at hxm
   obtain⟨i,hi,rfl⟩:=hxm
   exact(hf' i hi).2.2
end
theorem Tryz.infoIw:(Tryz.prog.info? 101).map (fun i=>(i.zero,i.size,i.bytes))=some (some (.agg #[.int .i64 0,.int .i64 0,.int .i64 0,.int .i64 0,.int .i64 0]),5,40):=by kernel_rfl
theorem mkIw(len:Nat)(hl:len≤1048576):∃C:Array Value,C.size=len*5∧∀w:World,(Instr.makeSlice 62 (.int .i64 (len:Int)) (.int .i64 (len:Int))).run Tryz.prog w= .ok (.slice (some ⟨w.heap.size,0,none⟩) len len) (w.alloc (.cells C 101)):=by
 obtain⟨i0,hi,hz0,hz1,hz2⟩:=info_parts Tryz.infoIw
 refine⟨madeCells (Value.agg #[.int .i64 0,.int .i64 0,.int .i64 0,.int .i64 0,.int .i64 0]).cells (len*i0.size),by rw[size_madeCells,hz1],fun w=>?_⟩
 have h:=run_make (P:=Tryz.prog) w 62 101 i0 _ Tryz.underlying62 hi hz0 .i64 .i64 len len (by omega) (Int.le_refl _) (by rw[hz2];omega) (by omega)
 simpa using h
/-- The slice that is being filled. -/
def eu(W:World)(g ty len:Nat)(ys:List bF):Prop:=bW W g ty len∧∀i x,ys[i]? =some x→cL W g (i*5) x
theorem eu.step{wr w':World}{g ty len k:Nat}{xs:List bF}{x:bF}(h:eu wr g ty len (xs.take k))(hb:Below wr.heap.size wr w')(hk:k<len)(hx:xs[k]? =some x):eu (ff w' g (k*5) x) g ty len (xs.take (k+1)):=by
 have hB:=h.1.below hb h.1.lt
 refine⟨hB.sets x,fun i y hy=>?_⟩
 have hik:i<k+1:=by
  rcases Nat.lt_or_ge i (k+1)with h'|h'
  ·exact h'
  ·rw[List.getElem?_eq_none (jJ)]at hy;cases hy
 rw[List.getElem?_take_of_lt hik]at hy
 by_cases he:i=k
 ·subst he
  rw[hx]at hy
  cases hy
  exact gQ hB hk x
 ·refine setIw_ne ?_ he
  exact(h.2 i y (by rw[List.getElem?_take_of_lt (by omega)];exact hy)).below hb h.1.lt
theorem eu.start{w:World}{ty len:Nat}{C:Array Value}(hC:C.size=len*5)(xs:List bF):eu (w.alloc (.cells C ty)) w.heap.size ty len (xs.take 0):=
 ⟨⟨C,by show(w.heap.push _)[w.heap.size]? =_;simp,hC⟩,fun i x h=>by simp at h⟩
theorem eu.done{W:World}{g ty len k:Nat}{xs:List bF}(h:eu W g ty len (xs.take k))(hk:xs.length≤k):et W g 0 xs:=by
 intro i x hx
 rw[List.take_of_length_le hk]at h
 simpa using h.2 i x hx
theorem below_setIw{B g o:Nat}{W W':World}{x:bF}(h:Below B W W')(hg:B≤g):Below B W (ff W' g o x):=(((((h.setCell hg _).setCell hg _).setCell hg _).setCell hg _).setCell hg _)
set_option maxRecDepth 20000 in
set_option maxHeartbeats 1000000 in
theorem toIw_one(kd tm ke va nn:Int)(w:World):Calls Tryz.prog 115 #[.agg #[.int .i64 kd,.int .i64 tm,.int .i64 ke,.int .i64 va,.int .i64 nn]] w fun e w'=>e= .returned (.agg #[.int .i64 kd,.int .i64 tm,.int .i64 ke,.int .i64 va,.int .i64 nn])∧Below w.heap.size w w':=by
 go_enter Tryz.func115,Tryz.ntmps115
 go_wp2
 refine bodyPost_ret (v:= .agg #[.int .i64 kd,.int .i64 tm,.int .i64 ke,.int .i64 va,.int .i64 nn]) (by simp(maxDischargeDepth:=9) [results,Tryz.results115,go_sem, *]) rfl ⟨rfl,?_⟩
 exact(ar)
set_option maxRecDepth 20000 in
set_option maxHeartbeats 1000000 in
theorem toIw_at(a:Option Addr)(len cap:Nat)(xs:List bF)(w:World)(h:bG w a len xs)(hl:len≤1048576):Calls Tryz.prog 66 #[.slice a len cap] w fun e w'=>e= .returned (.slice (some ⟨w.heap.size,0,none⟩) len len)∧et w' w.heap.size 0 xs∧bW w' w.heap.size 101 len∧Below w.heap.size w w':=by
 obtain⟨C,hC,hmk⟩:=mkIw len hl
 go_enter Tryz.func66,Tryz.ntmps66
 go_wp2
 go_loopw [4] (fun i wr=>∃k:Nat,k≤len∧i= .int .i64 k∧eu wr w.heap.size 101 len (xs.take k)∧Below w.heap.size w wr) (fun i _=>len - (intOf i).toNat)
 case atStart=>exact⟨0,Nat.zero_le _,rfl,eu.start hC xs,ai _ _⟩
 case round=>
  obtain⟨k,hk,rfl,hF,hbw⟩:=hrel
  by_cases hlt:k<len
  ·obtain⟨hxl,hml,hx⟩:=h
   obtain⟨g,o,rfl,hr⟩:=hx.resolve_left (by omega)
   obtain⟨x,hxk⟩:∃x,xs[k]? =some x:=⟨_,List.getElem?_eq_getElem (by omega)⟩
   have hg:g<w.heap.size:=hr.lt (by omega)
   have hX:=ab hxk
   obtain⟨c0,c1,c2,c3,c4⟩:=(hr k _ hxk).below hbw hg
   obtain⟨⟨u0,d0⟩,⟨u1,d1⟩,⟨u2,d2⟩,⟨u3,d3⟩,⟨u4,d4⟩⟩:=hF.1.cells hlt
   have f0:=hF.1.frozen (i:=k*5)
   have f1:=hF.1.frozen (i:=k*5+1)
   have f2:=hF.1.frozen (i:=k*5+2)
   have f3:=hF.1.frozen (i:=k*5+3)
   have f4:=hF.1.frozen (i:=k*5+4)
   have hz:=hF.1.lt
   clear hx hxk
   go_wp2_with (go_at_call 115;refine(toIw_one _ _ _ _ _ _).mono ?_;rintro e w' ⟨rfl,hb⟩;obtain⟨hc,hf,hs⟩:=ac hb)
   go_roundw
   case rel=>exact⟨k+1,by omega,by go_num,hF.step hb hlt (aa hX),below_setIw (ae hbw hb) (Nat.le_refl _)⟩
   case measure=>simp[intOf];omega
  ·go_wp2
   go_ret
   exact⟨rfl,hF.done (by have:=h.1;omega),hF.1,hbw⟩
theorem IwRs_of{W:World}{g len:Nat}{xs:List bF}(h1:xs.length=len)(h2:len≤maxLen)(h:et W g 0 xs):bG W (some ⟨g,0,none⟩) len xs:=⟨h1,h2,Or.inr ⟨g,0,rfl,h⟩⟩
theorem toIw_any(a:Option Addr)(len cap:Nat)(xs:List bF)(w:World)(h:bG w a len xs)(hl:len≤1048576):Calls Tryz.prog 66 #[.slice a len cap] w fun e w'=>∃a',e= .returned (.slice a' len len)∧bG w' a' len xs∧gU w' a' len len∧(∀g o,0<len→a'=some ⟨g,o,none⟩→w.heap.size≤g)∧Below w.heap.size w w':=
 (toIw_at a len cap xs w h hl).mono fun e w' ⟨h1,h2,h3,h4⟩=>⟨_,h1,IwRs_of h.1 h.2.1 h2,Or.inr ⟨_,rfl,h3,Nat.le_refl _⟩,fun g o _ e'=>by simp at e';omega,h4⟩
end Go.Proofs.YtealpjmannopeaaGreat
namespace Go.Proofs.YtealpjmannopeaaGreat
open Go.ChangeShapes Go.WideShapes Go.ChangeAt Go.RowKit
theorem hd_9_9{b0 b1 a0 a1 a2 a3 a4 a5 a6 a7 a8 c0 c1 c2 c3 c4 c5 c6 c7 c8:Nat}{k0 k1 k2 k3 k4 k5 k6 k7 k8 l0 l1 l2 l3 l4 l5 l6 l7 l8:Value}{W W':World}(h:((W.cell? ⟨b0,a0,none⟩=some k0∧W.cell? ⟨b0,a1,none⟩=some k1∧W.cell? ⟨b0,a2,none⟩=some k2∧W.cell? ⟨b0,a3,none⟩=some k3∧W.cell? ⟨b0,a4,none⟩=some k4∧W.cell? ⟨b0,a5,none⟩=some k5∧W.cell? ⟨b0,a6,none⟩=some k6∧W.cell? ⟨b0,a7,none⟩=some k7∧W.cell? ⟨b0,a8,none⟩=some k8∧W.cell? ⟨b1,c0,none⟩=some l0∧W.cell? ⟨b1,c1,none⟩=some l1∧W.cell? ⟨b1,c2,none⟩=some l2∧W.cell? ⟨b1,c3,none⟩=some l3∧W.cell? ⟨b1,c4,none⟩=some l4∧W.cell? ⟨b1,c5,none⟩=some l5∧W.cell? ⟨b1,c6,none⟩=some l6∧W.cell? ⟨b1,c7,none⟩=some l7∧W.cell? ⟨b1,c8,none⟩=some l8)∧b0<W.heap.size∧b1<W.heap.size))(hb:Below W.heap.size W W'):((W'.cell? ⟨b0,a0,none⟩=some k0∧W'.cell? ⟨b0,a1,none⟩=some k1∧W'.cell? ⟨b0,a2,none⟩=some k2∧W'.cell? ⟨b0,a3,none⟩=some k3∧W'.cell? ⟨b0,a4,none⟩=some k4∧W'.cell? ⟨b0,a5,none⟩=some k5∧W'.cell? ⟨b0,a6,none⟩=some k6∧W'.cell? ⟨b0,a7,none⟩=some k7∧W'.cell? ⟨b0,a8,none⟩=some k8∧W'.cell? ⟨b1,c0,none⟩=some l0∧W'.cell? ⟨b1,c1,none⟩=some l1∧W'.cell? ⟨b1,c2,none⟩=some l2∧W'.cell? ⟨b1,c3,none⟩=some l3∧W'.cell? ⟨b1,c4,none⟩=some l4∧W'.cell? ⟨b1,c5,none⟩=some l5∧W'.cell? ⟨b1,c6,none⟩=some l6∧W'.cell? ⟨b1,c7,none⟩=some l7∧W'.cell? ⟨b1,c8,none⟩=some l8)∧b0<W'.heap.size∧b1<W'.heap.size):=by
 obtain⟨h99,s0,s1⟩:=h
 have e0:∀z,W'.cell? ⟨b0,z,none⟩=W.cell? ⟨b0,z,none⟩:=fun z=>hb.cell s0
 have e1:∀z,W'.cell? ⟨b1,z,none⟩=W.cell? ⟨b1,z,none⟩:=fun z=>hb.cell s1
 refine⟨?_,Nat.lt_of_lt_of_le s0 hb.size,Nat.lt_of_lt_of_le s1 hb.size⟩
 simp only[e0,e1]
 exact h99
/-- A row of 9 numbers. -/
structure cx where
 ky:Int
 st:Int
 en:Int
 no:Int
 kd:Int
 n:Int
 su:Int
 le:Int
 mo:Int
/-- A row lies in its cells; rows lie one behind the other; a slice's value holds rows. -/
def dy(W:World)(g o:Nat)(x:cx):Prop:=W.cell? ⟨g,o,none⟩=some (.int .i64 x.ky)∧W.cell? ⟨g,o+1,none⟩=some (.int .i64 x.st)∧W.cell? ⟨g,o+2,none⟩=some (.int .i64 x.en)∧W.cell? ⟨g,o+3,none⟩=some (.int .i64 x.no)∧W.cell? ⟨g,o+4,none⟩=some (.int .i64 x.kd)∧W.cell? ⟨g,o+5,none⟩=some (.int .i64 x.n)∧W.cell? ⟨g,o+6,none⟩=some (.int .i64 x.su)∧W.cell? ⟨g,o+7,none⟩=some (.int .i64 x.le)∧W.cell? ⟨g,o+8,none⟩=some (.int .i64 x.mo)
def ev(W:World)(g o:Nat)(xs:List cx):Prop:=∀i x,xs[i]? =some x→dy W g (o+i*9) x
def eS(W:World)(a:Option Addr)(len:Nat)(xs:List cx):Prop:=xs.length=len∧len≤maxLen∧(len=0∨∃g o,a=some ⟨g,o,none⟩∧ev W g o xs)
theorem dy.lt{W:World}{g o:Nat}{x:cx}(h:dy W g o x):g<W.heap.size:=by
 obtain⟨h0,_⟩:=h
 rcases Nat.lt_or_ge g W.heap.size with hl|hg
 ·exact hl
 ·simp[World.cell?,Array.getElem?_eq_none hg]at h0
theorem ev.lt{W:World}{g o:Nat}{xs:List cx}(h:ev W g o xs)(hp:0<xs.length):g<W.heap.size:=(h 0 xs[0] (List.getElem?_eq_getElem hp)).lt
theorem dy.below{W W':World}{B g o:Nat}{x:cx}(h:dy W g o x)(hb:Below B W W')(hg:g<B):dy W' g o x:=by
 obtain⟨h0,h1,h2,h3,h4,h5,h6,h7,h8⟩:=h
 exact⟨(hb.cell (p:=⟨g,_,none⟩) hg).trans h0,(hb.cell (p:=⟨g,_,none⟩) hg).trans h1,(hb.cell (p:=⟨g,_,none⟩) hg).trans h2,(hb.cell (p:=⟨g,_,none⟩) hg).trans h3,(hb.cell (p:=⟨g,_,none⟩) hg).trans h4,(hb.cell (p:=⟨g,_,none⟩) hg).trans h5,(hb.cell (p:=⟨g,_,none⟩) hg).trans h6,(hb.cell (p:=⟨g,_,none⟩) hg).trans h7,(hb.cell (p:=⟨g,_,none⟩) hg).trans h8⟩
theorem ev.below{W W':World}{B g o:Nat}{xs:List cx}(h:ev W g o xs)(hb:Below B W W')(hg:0<xs.length→g<B):ev W' g o xs:=by
 intro i x hx
 have hlt:i<xs.length:=(List.getElem?_eq_some_iff.1 hx).1
 exact(h i x hx).below hb (hg (by omega))
theorem eS.below{W W':World}{a:Option Addr}{len:Nat}{xs:List cx}(h:eS W a len xs)(hb:Below W.heap.size W W'):eS W' a len xs:=by
 obtain⟨h1,h2,h3⟩:=h
 refine⟨h1,h2,?_⟩
 rcases h3 with h3|⟨g,o,ha,hr⟩
 ·exact Or.inl h3
 ·exact Or.inr ⟨g,o,ha,hr.below hb (fun hp=>hr.lt hp)⟩
theorem dy.grown{W W':World}{row:Option Nat}{g o:Nat}{x:cx}(h:dy W g o x)(hg:W.grownBy W' row)(hne:some g≠row):dy W' g o x:=by
 have hbk:=hg.block g h.lt hne
 obtain⟨h0,h1,h2,h3,h4,h5,h6,h7,h8⟩:=h
 exact⟨(World.cell?_of_block (w:=W) hbk).trans h0,(World.cell?_of_block (w:=W) hbk).trans h1,(World.cell?_of_block (w:=W) hbk).trans h2,(World.cell?_of_block (w:=W) hbk).trans h3,(World.cell?_of_block (w:=W) hbk).trans h4,(World.cell?_of_block (w:=W) hbk).trans h5,(World.cell?_of_block (w:=W) hbk).trans h6,(World.cell?_of_block (w:=W) hbk).trans h7,(World.cell?_of_block (w:=W) hbk).trans h8⟩
theorem eS.grown{W W':World}{row:Option Nat}{a:Option Addr}{n:Nat}{xs:List cx}(h:eS W a n xs)(hg:W.grownBy W' row)(hne:∀g o,0<n→a=some ⟨g,o,none⟩→some g≠row):eS W' a n xs:=by
 obtain⟨h1,h2,h3⟩:=h
 refine⟨h1,h2,?_⟩
 rcases h3 with h3|⟨g,o,ha,hr⟩
 ·exact Or.inl h3
 ·refine Or.inr ⟨g,o,ha,fun i x hx=>(hr i x hx).grown hg (hne g o ?_ ha)⟩
  have hlt:i<xs.length:=(List.getElem?_eq_some_iff.1 hx).1
  omega
/-- A row is stored; a block of rows, known whole. -/
def gX(W:World)(g o:Nat)(x:cx):World:=(((((((((W.setCell ⟨g,o,none⟩ (.int .i64 x.ky)).setCell ⟨g,o+1,none⟩ (.int .i64 x.st)).setCell ⟨g,o+2,none⟩ (.int .i64 x.en)).setCell ⟨g,o+3,none⟩ (.int .i64 x.no)).setCell ⟨g,o+4,none⟩ (.int .i64 x.kd)).setCell ⟨g,o+5,none⟩ (.int .i64 x.n)).setCell ⟨g,o+6,none⟩ (.int .i64 x.su)).setCell ⟨g,o+7,none⟩ (.int .i64 x.le)).setCell ⟨g,o+8,none⟩ (.int .i64 x.mo))
def cy(W:World)(g ty len:Nat):Prop:=∃cur,W.heap[g]? =some (.cells cur ty (0,0))∧cur.size=len*9
theorem cy.set{W:World}{g ty len i:Nat}(h:cy W g ty len)(v:Value):cy (W.setCell ⟨g,i,none⟩ v) g ty len:=by
 obtain⟨cur,h1,h2⟩:=h
 exact⟨_,Joins.block_setCell h1 v,by simp[h2]⟩
theorem cy.below{W W':World}{g ty len B:Nat}(h:cy W g ty len)(hb:Below B W W')(hg:g<B):cy W' g ty len:=by
 obtain⟨cur,h1,h2⟩:=h
 exact⟨cur,(hb.block g hg).trans h1,h2⟩
theorem cy.lt{W:World}{g ty len:Nat}(h:cy W g ty len):g<W.heap.size:=by
 obtain⟨cur,h1,h2⟩:=h
 exact(Array.getElem?_eq_some_iff.1 h1).1
theorem cy.cell{W:World}{g ty len i:Nat}(h:cy W g ty len)(hi:i<len*9):∃u,W.cell? ⟨g,i,none⟩=some u:=by
 obtain⟨cur,h1,h2⟩:=h
 exact⟨_,(cA h1 i).trans (Array.getElem?_eq_getElem (by omega))⟩
theorem cy.frozen{W:World}{g ty len i:Nat}(h:cy W g ty len):W.frozen? ⟨g,i,none⟩=false:=by
 obtain⟨cur,h1,h2⟩:=h
 exact Joins.unfrozen_of_block h1 i
theorem cy.cells{W:World}{g ty len k:Nat}(h:cy W g ty len)(hk:k<len):(∃u,W.cell? ⟨g,k*9,none⟩=some u)∧(∃u,W.cell? ⟨g,k*9+1,none⟩=some u)∧(∃u,W.cell? ⟨g,k*9+2,none⟩=some u)∧(∃u,W.cell? ⟨g,k*9+3,none⟩=some u)∧(∃u,W.cell? ⟨g,k*9+4,none⟩=some u)∧(∃u,W.cell? ⟨g,k*9+5,none⟩=some u)∧(∃u,W.cell? ⟨g,k*9+6,none⟩=some u)∧(∃u,W.cell? ⟨g,k*9+7,none⟩=some u)∧(∃u,W.cell? ⟨g,k*9+8,none⟩=some u):=⟨h.cell (by omega),h.cell (by omega),h.cell (by omega),h.cell (by omega),h.cell (by omega),h.cell (by omega),h.cell (by omega),h.cell (by omega),h.cell (by omega)⟩
theorem cy.sets{W:World}{g ty len o:Nat}(h:cy W g ty len)(x:cx):cy (gX W g o x) g ty len:=(((((((((h.set _).set _).set _).set _).set _).set _).set _).set _).set _)
theorem ap{W:World}{g i j:Nat}{v:Value}(h:i≠j):(W.setCell ⟨g,i,none⟩ v).cell? ⟨g,j,none⟩=W.cell? ⟨g,j,none⟩:=World.cell?_setCell_other _ _ _ _ (by intro e;injection e with e1 e2;exact h e2)
theorem dp{W:World}{g ty len i:Nat}{v:Value}(h:cy W g ty len)(hi:i<len*9):(W.setCell ⟨g,i,none⟩ v).cell? ⟨g,i,none⟩=some v:=by
 obtain⟨u,hu⟩:=h.cell hi
 exact World.cell?_setCell_same _ _ _ hu
theorem setPn_this{W:World}{g ty len k:Nat}(h:cy W g ty len)(hk:k<len)(x:cx):dy (gX W g (k*9) x) g (k*9) x:=by
 unfold gX
 refine⟨?_,?_,?_,?_,?_,?_,?_,?_,?_⟩
 ·(repeat rw[ap (by omega)]);rw[dp h (by omega)]
 ·(repeat rw[ap (by omega)]);rw[dp (h.set _) (by omega)]
 ·(repeat rw[ap (by omega)]);rw[dp ((h.set _).set _) (by omega)]
 ·(repeat rw[ap (by omega)]);rw[dp (((h.set _).set _).set _) (by omega)]
 ·(repeat rw[ap (by omega)]);rw[dp ((((h.set _).set _).set _).set _) (by omega)]
 ·(repeat rw[ap (by omega)]);rw[dp (((((h.set _).set _).set _).set _).set _) (by omega)]
 ·rw[ap (by omega),ap (by omega),dp ((((((h.set _).set _).set _).set _).set _).set _) (by omega)]
 ·rw[ap (by omega),dp (((((((h.set _).set _).set _).set _).set _).set _).set _) (by omega)]
 ·rw[dp ((((((((h.set _).set _).set _).set _).set _).set _).set _).set _) (by omega)]
theorem setPn_ne{W:World}{g i k:Nat}{x y:cx}(h:dy W g (i*9) y)(hk:i≠k):dy (gX W g (k*9) x) g (i*9) y:=by
 unfold gX
 obtain⟨h0,h1,h2,h3,h4,h5,h6,h7,h8⟩:=h
 refine⟨?_,?_,?_,?_,?_,?_,?_,?_,?_⟩
 ·rw[ap (by omega),ap (by omega),ap (by omega),ap (by omega),ap (by omega),ap (by omega),ap (by omega),ap (by omega),ap (by omega)];exact h0
 ·rw[ap (by omega),ap (by omega),ap (by omega),ap (by omega),ap (by omega),ap (by omega),ap (by omega),ap (by omega),ap (by omega)];exact h1
 ·rw[ap (by omega),ap (by omega),ap (by omega),ap (by omega),ap (by omega),ap (by omega),ap (by omega),ap (by omega),ap (by omega)];exact h2
 ·rw[ap (by omega),ap (by omega),ap (by omega),ap (by omega),ap (by omega),ap (by omega),ap (by omega),ap (by omega),ap (by omega)];exact h3
 ·rw[ap (by omega),ap (by omega),ap (by omega),ap (by omega),ap (by omega),ap (by omega),ap (by omega),ap (by omega),ap (by omega)];exact h4
 ·rw[ap (by omega),ap (by omega),ap (by omega),ap (by omega),ap (by omega),ap (by omega),ap (by omega),ap (by omega),ap (by omega)];exact h5
 ·rw[ap (by omega),ap (by omega),ap (by omega),ap (by omega),ap (by omega),ap (by omega),ap (by omega),ap (by omega),ap (by omega)];exact h6
 ·rw[ap (by omega),ap (by omega),ap (by omega),ap (by omega),ap (by omega),ap (by omega),ap (by omega),ap (by omega),ap (by omega)];exact h7
 ·rw[ap (by omega),ap (by omega),ap (by omega),ap (by omega),ap (by omega),ap (by omega),ap (by omega),ap (by omega),ap (by omega)];exact h8
def WrPn(W:World)(a:Option Addr)(n cap:Nat):Prop:=n=0∨∃g,a=some ⟨g,0,none⟩∧cy W g 87 cap∧n≤cap
set_option maxHeartbeats 1000000 in
theorem eqPn_one(x:cx)(w:World):Calls Tryz.prog 38 #[.agg #[.int .i64 x.ky,.int .i64 x.st,.int .i64 x.en,.int .i64 x.no,.int .i64 x.kd,.int .i64 x.n,.int .i64 x.su,.int .i64 x.le,.int .i64 x.mo],.agg #[.int .i64 x.ky,.int .i64 x.st,.int .i64 x.en,.int .i64 x.no,.int .i64 x.kd,.int .i64 x.n,.int .i64 x.su,.int .i64 x.le,.int .i64 x.mo]] w fun e w'=>e= .returned (.bool true)∧Below w.heap.size w w':=by
 go_enter Tryz.func38,Tryz.ntmps38
 go_wp2_with (first
  |(go_at_call 79;refine(eqWinT _ _ _).mono ?_;rintro e w' ⟨rfl,hb⟩;obtain⟨hc,hf,hs⟩:=ac hb;(try have hz0:=zA hb w.heap.size);(try have hz1:=zA hb (w.heap.size+1)))
  |(go_at_call 80;refine(eqAggT _ _ _ _ _).mono ?_;rintro e w' ⟨rfl,hb⟩;obtain⟨hc,hf,hs⟩:=ac hb;(try have hz0:=zA hb w.heap.size);(try have hz1:=zA hb (w.heap.size+1))))
 go_ret
 exact⟨rfl,(ar)⟩
set_option maxRecDepth 20000 in
set_option maxHeartbeats 1000000 in
theorem eqPn_any(a1 a2:Option Addr)(len cap1 cap2:Nat)(xs:List cx)(w:World)(h1:eS w a1 len xs)(h2:eS w a2 len xs):Calls Tryz.prog 10 #[.slice a1 len cap1,.slice a2 len cap2] w fun e w'=>e= .returned (.bool true)∧Below w.heap.size w w':=by
 have hm:=h1.2.1
 unfold maxLen at hm
 go_enter Tryz.func10,Tryz.ntmps10
 go_wp2
 go_loopw [5] (fun i wr=>∃k:Nat,k≤len∧i= .int .i64 k∧Below w.heap.size w wr) (fun i _=>len - (intOf i).toNat)
 case atStart=>exact⟨0,Nat.zero_le _,rfl,Below.refl _ _⟩
 case round=>
  obtain⟨k,hk,rfl,hbw⟩:=hrel
  by_cases hlt:k<len
  ·obtain⟨hl1,_,hx1⟩:=h1
   obtain⟨hl2,_,hx2⟩:=h2
   obtain⟨g1,o1,rfl,hr1⟩:=hx1.resolve_left (by omega)
   obtain⟨g2,o2,rfl,hr2⟩:=hx2.resolve_left (by omega)
   obtain⟨x,hxk⟩:∃x,xs[k]? =some x:=⟨_,List.getElem?_eq_getElem (by omega)⟩
   have hg1:g1<w.heap.size:=hr1.lt (by omega)
   have hg2:g2<w.heap.size:=hr2.lt (by omega)
   have hs1:g1<wr.heap.size:=Nat.lt_of_lt_of_le hg1 hbw.size
   have hs2:g2<wr.heap.size:=Nat.lt_of_lt_of_le hg2 hbw.size
   have hS:((wr.cell? ⟨g1,o1+k*9,none⟩=some (.int .i64 x.ky)∧wr.cell? ⟨g1,o1+k*9+1,none⟩=some (.int .i64 x.st)∧wr.cell? ⟨g1,o1+k*9+2,none⟩=some (.int .i64 x.en)∧wr.cell? ⟨g1,o1+k*9+3,none⟩=some (.int .i64 x.no)∧wr.cell? ⟨g1,o1+k*9+4,none⟩=some (.int .i64 x.kd)∧wr.cell? ⟨g1,o1+k*9+5,none⟩=some (.int .i64 x.n)∧wr.cell? ⟨g1,o1+k*9+6,none⟩=some (.int .i64 x.su)∧wr.cell? ⟨g1,o1+k*9+7,none⟩=some (.int .i64 x.le)∧wr.cell? ⟨g1,o1+k*9+8,none⟩=some (.int .i64 x.mo)∧wr.cell? ⟨g2,o2+k*9,none⟩=some (.int .i64 x.ky)∧wr.cell? ⟨g2,o2+k*9+1,none⟩=some (.int .i64 x.st)∧wr.cell? ⟨g2,o2+k*9+2,none⟩=some (.int .i64 x.en)∧wr.cell? ⟨g2,o2+k*9+3,none⟩=some (.int .i64 x.no)∧wr.cell? ⟨g2,o2+k*9+4,none⟩=some (.int .i64 x.kd)∧wr.cell? ⟨g2,o2+k*9+5,none⟩=some (.int .i64 x.n)∧wr.cell? ⟨g2,o2+k*9+6,none⟩=some (.int .i64 x.su)∧wr.cell? ⟨g2,o2+k*9+7,none⟩=some (.int .i64 x.le)∧wr.cell? ⟨g2,o2+k*9+8,none⟩=some (.int .i64 x.mo))∧g1<wr.heap.size∧g2<wr.heap.size):=by
    obtain⟨c0,c1,c2,c3,c4,c5,c6,c7,c8⟩:=(hr1 k _ hxk).below hbw hg1
    obtain⟨d0,d1,d2,d3,d4,d5,d6,d7,d8⟩:=(hr2 k _ hxk).below hbw hg2
    exact⟨⟨c0,c1,c2,c3,c4,c5,c6,c7,c8,d0,d1,d2,d3,d4,d5,d6,d7,d8⟩,hs1,hs2⟩
   clear hx1 hx2 hxk hr1 hr2
   go_wp2
   go_region_held3 (fun W=>((W.cell? ⟨g1,o1+k*9,none⟩=some (.int .i64 x.ky)∧W.cell? ⟨g1,o1+k*9+1,none⟩=some (.int .i64 x.st)∧W.cell? ⟨g1,o1+k*9+2,none⟩=some (.int .i64 x.en)∧W.cell? ⟨g1,o1+k*9+3,none⟩=some (.int .i64 x.no)∧W.cell? ⟨g1,o1+k*9+4,none⟩=some (.int .i64 x.kd)∧W.cell? ⟨g1,o1+k*9+5,none⟩=some (.int .i64 x.n)∧W.cell? ⟨g1,o1+k*9+6,none⟩=some (.int .i64 x.su)∧W.cell? ⟨g1,o1+k*9+7,none⟩=some (.int .i64 x.le)∧W.cell? ⟨g1,o1+k*9+8,none⟩=some (.int .i64 x.mo)∧W.cell? ⟨g2,o2+k*9,none⟩=some (.int .i64 x.ky)∧W.cell? ⟨g2,o2+k*9+1,none⟩=some (.int .i64 x.st)∧W.cell? ⟨g2,o2+k*9+2,none⟩=some (.int .i64 x.en)∧W.cell? ⟨g2,o2+k*9+3,none⟩=some (.int .i64 x.no)∧W.cell? ⟨g2,o2+k*9+4,none⟩=some (.int .i64 x.kd)∧W.cell? ⟨g2,o2+k*9+5,none⟩=some (.int .i64 x.n)∧W.cell? ⟨g2,o2+k*9+6,none⟩=some (.int .i64 x.su)∧W.cell? ⟨g2,o2+k*9+7,none⟩=some (.int .i64 x.le)∧W.cell? ⟨g2,o2+k*9+8,none⟩=some (.int .i64 x.mo))∧g1<W.heap.size∧g2<W.heap.size)) ((first|((repeat(first|(with_reducible assumption)|(with_reducible refine hd_9_9 ?_ (jF))|(with_reducible refine hd_9_9 ?_ (aj (Below.refl _ _)))|(with_reducible refine hd_9_9 ?_ (ai _ _))));done)|(refine⟨⟨?_,?_,?_,?_,?_,?_,?_,?_,?_,?_,?_,?_,?_,?_,?_,?_,?_,?_⟩,?_,?_⟩<;>first|(go_keep;done)|(simp;done)|(simp;omega)|omega)))
    (first
    |(go_at_call 38;refine(eqPn_one _ _).mono ?_;rintro e w' ⟨rfl,hb⟩;obtain⟨hc,hf,hs⟩:=ac hb))
   go_wp2
   go_roundw
   case rel=>exact⟨k+1,by omega,by go_num,(ar)⟩
   case measure=>simp[intOf];omega
  ·go_wp2
   go_ret
   exact⟨rfl,hbw⟩
end Go.Proofs.YtealpjmannopeaaGreat
namespace Go.Proofs.YtealpjmannopeaaGreat
open Go.ChangeShapes Go.WideShapes Go.ChangeAt Go.RowKit Go.Deep
/-- Each number is an int. -/
def cx.ok64(x:cx):Prop:=(-9223372036854775808≤x.ky∧x.ky≤9223372036854775807)∧(-9223372036854775808≤x.st∧x.st≤9223372036854775807)∧(-9223372036854775808≤x.en∧x.en≤9223372036854775807)∧(-9223372036854775808≤x.no∧x.no≤9223372036854775807)∧(-9223372036854775808≤x.kd∧x.kd≤9223372036854775807)∧(-9223372036854775808≤x.n∧x.n≤9223372036854775807)∧(-9223372036854775808≤x.su∧x.su≤9223372036854775807)∧(-9223372036854775808≤x.le∧x.le≤9223372036854775807)∧(-9223372036854775808≤x.mo∧x.mo≤9223372036854775807)
section
variable {H : Type} {enc : TypeId × Value → H} {P : Program} {w : World} {base : Nat} {spare : Nat → Bool} {held : Bool}
theorem cellsPn{a:Addr}{cs:List Value}(h:w.cells? base a 9=some cs)(f0:ef cs [false,false,false,false,false,false,false,false,false]):a.spot=none∧∃x:cx,dy w a.block a.off x∧x.ok64:=by
 obtain⟨z0,r0,rfl,y0,f1⟩:=aE f0
 clear f0
 obtain⟨z1,r1,rfl,y1,f2⟩:=aE f1
 clear f1
 obtain⟨z2,r2,rfl,y2,f3⟩:=aE f2
 clear f2
 obtain⟨z3,r3,rfl,y3,f4⟩:=aE f3
 clear f3
 obtain⟨z4,r4,rfl,y4,f5⟩:=aE f4
 clear f4
 obtain⟨z5,r5,rfl,y5,f6⟩:=aE f5
 clear f5
 obtain⟨z6,r6,rfl,y6,f7⟩:=aE f6
 clear f6
 obtain⟨z7,r7,rfl,y7,f8⟩:=aE f7
 clear f7
 obtain⟨z8,r8,rfl,y8,f9⟩:=aE f8
 clear f8
 obtain rfl:=fe f9
 obtain⟨_,hlen,hc⟩:=World.cells?_some h
 have c0:=hc 0 (by omega)
 have c1:=hc 1 (by omega)
 have c2:=hc 2 (by omega)
 have c3:=hc 3 (by omega)
 have c4:=hc 4 (by omega)
 have c5:=hc 5 (by omega)
 have c6:=hc 6 (by omega)
 have c7:=hc 7 (by omega)
 have c8:=hc 8 (by omega)
 obtain⟨g,o,sp⟩:=a
 have ha0:(⟨g,o,sp⟩:Addr).add 0=⟨g,o,sp⟩:=by simp[Addr.add]
 have hsp:sp=none:=World.cell?_spot (w:=w) (a:=⟨g,o,sp⟩) (v:= .int .i64 z0) (by rw[←ha0];simpa using c0)
 subst hsp
 exact⟨rfl,⟨z0,z1,z2,z3,z4,z5,z6,z7,z8⟩,⟨by simpa[Addr.add]using c0,by simpa[Addr.add]using c1,by simpa[Addr.add]using c2,by simpa[Addr.add]using c3,by simpa[Addr.add]using c4,by simpa[Addr.add]using c5,by simpa[Addr.add]using c6,by simpa[Addr.add]using c7,by simpa[Addr.add]using c8⟩,aW y0,aW y1,aW y2,aW y3,aW y4,aW y5,aW y6,aW y7,aW y8⟩
theorem openPn{t e:TypeId}{a:Option Addr}{len cap:Nat}{d:DataW H}{p:List MemPlace}(ht:P.underlying t=some (.slice e))(hk:bf P 5 e=some [false,false,false,false,false,false,false,false,false])(hC:P.cellsOf e=9)
  (h:DataW.Trod enc P w base spare held t (.slice a len cap) d p):∃xs:List cx,eS w a len xs∧∀x ∈ xs,x.ok64:=by
 obtain⟨fuel,hf⟩:=h
 rcases open_slice ht hf with⟨hcs,_⟩|⟨a',len',cap',m,n,D,Pl,hcs,_,hl,hm,hmm,_,hx⟩
 ·simp[Value.cells]at hcs
  obtain⟨rfl,rfl,rfl⟩:=hcs
  exact⟨[],⟨rfl,Nat.zero_le _,Or.inl rfl⟩,by simp⟩
 ·simp[Value.cells]at hcs
  obtain⟨rfl,rfl,rfl⟩:=hcs
  have hlm:len≤m:=by rw[hmm];split<;>omega
  have hall:∀i,i<len→∃x:cx,(i=0→a'.spot=none)∧dy w a'.block (a'.off+i*9) x∧x.ok64:=by
   intro i hi
   obtain⟨cs',h1,h2⟩:=hx i (by omega)
   rw[hC]at h1
   obtain⟨hsp,x,hxa,hxo⟩:=cellsPn h1 (dt 5 hk h2)
   have hb:(a'.add (i*9)).block=a'.block∧(a'.add (i*9)).off=a'.off+i*9:=by
    unfold Addr.add
    split
    ·exact⟨rfl,by omega⟩
    ·exact⟨rfl,rfl⟩
   rw[hb.1,hb.2]at hxa
   refine⟨x,fun h0=>?_,hxa,hxo⟩
   subst h0
   simpa[Addr.add]using hsp
  by_cases h0:len=0
  ·subst h0
   exact⟨[],⟨rfl,Nat.zero_le _,Or.inl rfl⟩,by simp⟩
  have hinh:Inhabited cx:=⟨⟨0,0,0,0,0,0,0,0,0⟩⟩
  obtain⟨f,hf'⟩:=choose_lt hall
  have hsp:=(hf' 0 (by omega)).1 rfl
  refine⟨(List.range len).map f,⟨by simp,by omega,Or.inr ⟨a'.block,a'.off,by cases a';simp_all,?_⟩⟩,?_⟩
  ·intro i x hix
   simp only[List.getElem?_map,Option.map_eq_some_iff]at hix
   obtain⟨j,hj,rfl⟩:=hix
   have hil:i<len:=by
    rcases Nat.lt_or_ge i len with h'|h'
    ·exact h'
    ·rw[List.getElem?_eq_none (by simpa using h')]at hj;cases hj
   rw[List.getElem?_eq_getElem (by simpa using hil)]at hj
   simp at hj
   subst hj
   exact(hf' i hil).2.1
  ·intro x hxm
   simp only[List.mem_map,List.mem_range]at hxm
   obtain⟨i,hi,rfl⟩:=hxm
   exact(hf' i hi).2.2
end
theorem Tryz.infoPn:(Tryz.prog.info? 87).map (fun i=>(i.zero,i.size,i.bytes))=some (some (.agg #[.int .i64 0,.int .i64 0,.int .i64 0,.int .i64 0,.int .i64 0,.int .i64 0,.int .i64 0,.int .i64 0,.int .i64 0]),9,72):=by kernel_rfl
theorem mkPn(len:Nat)(hl:len≤1048576):∃C:Array Value,C.size=len*9∧∀w:World,(Instr.makeSlice 38 (.int .i64 (len:Int)) (.int .i64 (len:Int))).run Tryz.prog w= .ok (.slice (some ⟨w.heap.size,0,none⟩) len len) (w.alloc (.cells C 87)):=by
 obtain⟨i0,hi,hz0,hz1,hz2⟩:=info_parts Tryz.infoPn
 refine⟨madeCells (Value.agg #[.int .i64 0,.int .i64 0,.int .i64 0,.int .i64 0,.int .i64 0,.int .i64 0,.int .i64 0,.int .i64 0,.int .i64 0]).cells (len*i0.size),by rw[size_madeCells,hz1],fun w=>?_⟩
 have h:=run_make (P:=Tryz.prog) w 38 87 i0 _ Tryz.underlying38 hi hz0 .i64 .i64 len len (by omega) (Int.le_refl _) (by rw[hz2];omega) (by omega)
 simpa using h
/-- The slice that is being filled. -/
def ew(W:World)(g ty len:Nat)(ys:List cx):Prop:=cy W g ty len∧∀i x,ys[i]? =some x→dy W g (i*9) x
theorem ew.step{wr w':World}{g ty len k:Nat}{xs:List cx}{x:cx}(h:ew wr g ty len (xs.take k))(hb:Below wr.heap.size wr w')(hk:k<len)(hx:xs[k]? =some x):ew (gX w' g (k*9) x) g ty len (xs.take (k+1)):=by
 have hB:=h.1.below hb h.1.lt
 refine⟨hB.sets x,fun i y hy=>?_⟩
 have hik:i<k+1:=by
  rcases Nat.lt_or_ge i (k+1)with h'|h'
  ·exact h'
  ·rw[List.getElem?_eq_none (jJ)]at hy;cases hy
 rw[List.getElem?_take_of_lt hik]at hy
 by_cases he:i=k
 ·subst he
  rw[hx]at hy
  cases hy
  exact setPn_this hB hk x
 ·refine setPn_ne ?_ he
  exact(h.2 i y (by rw[List.getElem?_take_of_lt (by omega)];exact hy)).below hb h.1.lt
theorem ew.start{w:World}{ty len:Nat}{C:Array Value}(hC:C.size=len*9)(xs:List cx):ew (w.alloc (.cells C ty)) w.heap.size ty len (xs.take 0):=
 ⟨⟨C,by show(w.heap.push _)[w.heap.size]? =_;simp,hC⟩,fun i x h=>by simp at h⟩
theorem ew.done{W:World}{g ty len k:Nat}{xs:List cx}(h:ew W g ty len (xs.take k))(hk:xs.length≤k):ev W g 0 xs:=by
 intro i x hx
 rw[List.take_of_length_le hk]at h
 simpa using h.2 i x hx
theorem below_setPn{B g o:Nat}{W W':World}{x:cx}(h:Below B W W')(hg:B≤g):Below B W (gX W' g o x):=(((((((((h.setCell hg _).setCell hg _).setCell hg _).setCell hg _).setCell hg _).setCell hg _).setCell hg _).setCell hg _).setCell hg _)
set_option maxRecDepth 20000 in
set_option maxHeartbeats 1000000 in
theorem toPn_one(ky st en no kd n su le mo:Int)(w:World):Calls Tryz.prog 150 #[.agg #[.int .i64 ky,.int .i64 st,.int .i64 en,.int .i64 no,.int .i64 kd,.int .i64 n,.int .i64 su,.int .i64 le,.int .i64 mo]] w fun e w'=>e= .returned (.agg #[.int .i64 ky,.int .i64 st,.int .i64 en,.int .i64 no,.int .i64 kd,.int .i64 n,.int .i64 su,.int .i64 le,.int .i64 mo])∧Below w.heap.size w w':=by
 go_enter Tryz.func150,Tryz.ntmps150
 go_wp2_with (first
  |(go_at_call 180;refine(gk _ _ _).mono ?_;rintro e w' ⟨rfl,hb⟩;obtain⟨hc,hf,hs⟩:=ac hb;(try have hz0:=zA hb w.heap.size);(try have hz1:=zA hb (w.heap.size+1));(try have hz2:=zA hb (w.heap.size+1+1)))
  |(go_at_call 181;refine(iI _ _ _ _ _).mono ?_;rintro e w' ⟨rfl,hb⟩;obtain⟨hc,hf,hs⟩:=ac hb;(try have hz0:=zA hb w.heap.size);(try have hz1:=zA hb (w.heap.size+1));(try have hz2:=zA hb (w.heap.size+1+1))))
 refine bodyPost_ret (v:= .agg #[.int .i64 ky,.int .i64 st,.int .i64 en,.int .i64 no,.int .i64 kd,.int .i64 n,.int .i64 su,.int .i64 le,.int .i64 mo]) (by simp(maxDischargeDepth:=9) [results,Tryz.results150,go_sem, *]) rfl ⟨rfl,?_⟩
 exact(ar)
set_option maxRecDepth 20000 in
set_option maxHeartbeats 1000000 in
theorem toPn_at(a:Option Addr)(len cap:Nat)(xs:List cx)(w:World)(h:eS w a len xs)(hl:len≤1048576):Calls Tryz.prog 120 #[.slice a len cap] w fun e w'=>e= .returned (.slice (some ⟨w.heap.size,0,none⟩) len len)∧ev w' w.heap.size 0 xs∧cy w' w.heap.size 87 len∧Below w.heap.size w w':=by
 obtain⟨C,hC,hmk⟩:=mkPn len hl
 go_enter Tryz.func120,Tryz.ntmps120
 go_wp2
 go_loopw [4] (fun i wr=>∃k:Nat,k≤len∧i= .int .i64 k∧ew wr w.heap.size 87 len (xs.take k)∧Below w.heap.size w wr) (fun i _=>len - (intOf i).toNat)
 case atStart=>exact⟨0,Nat.zero_le _,rfl,ew.start hC xs,ai _ _⟩
 case round=>
  obtain⟨k,hk,rfl,hF,hbw⟩:=hrel
  by_cases hlt:k<len
  ·obtain⟨hxl,hml,hx⟩:=h
   obtain⟨g,o,rfl,hr⟩:=hx.resolve_left (by omega)
   obtain⟨x,hxk⟩:∃x,xs[k]? =some x:=⟨_,List.getElem?_eq_getElem (by omega)⟩
   have hg:g<w.heap.size:=hr.lt (by omega)
   have hX:=ab hxk
   obtain⟨c0,c1,c2,c3,c4,c5,c6,c7,c8⟩:=(hr k _ hxk).below hbw hg
   obtain⟨⟨u0,d0⟩,⟨u1,d1⟩,⟨u2,d2⟩,⟨u3,d3⟩,⟨u4,d4⟩,⟨u5,d5⟩,⟨u6,d6⟩,⟨u7,d7⟩,⟨u8,d8⟩⟩:=hF.1.cells hlt
   have f0:=hF.1.frozen (i:=k*9)
   have f1:=hF.1.frozen (i:=k*9+1)
   have f2:=hF.1.frozen (i:=k*9+2)
   have f3:=hF.1.frozen (i:=k*9+3)
   have f4:=hF.1.frozen (i:=k*9+4)
   have f5:=hF.1.frozen (i:=k*9+5)
   have f6:=hF.1.frozen (i:=k*9+6)
   have f7:=hF.1.frozen (i:=k*9+7)
   have f8:=hF.1.frozen (i:=k*9+8)
   have hz:=hF.1.lt
   clear hx hxk
   go_wp2_with (go_at_call 150;refine(toPn_one _ _ _ _ _ _ _ _ _ _).mono ?_;rintro e w' ⟨rfl,hb⟩;obtain⟨hc,hf,hs⟩:=ac hb)
   go_roundw
   case rel=>exact⟨k+1,by omega,by go_num,hF.step hb hlt (aa hX),below_setPn (ae hbw hb) (Nat.le_refl _)⟩
   case measure=>simp[intOf];omega
  ·go_wp2
   go_ret
   exact⟨rfl,hF.done (by have:=h.1;omega),hF.1,hbw⟩
theorem PnRs_of{W:World}{g len:Nat}{xs:List cx}(h1:xs.length=len)(h2:len≤maxLen)(h:ev W g 0 xs):eS W (some ⟨g,0,none⟩) len xs:=⟨h1,h2,Or.inr ⟨g,0,rfl,h⟩⟩
theorem toPn_any(a:Option Addr)(len cap:Nat)(xs:List cx)(w:World)(h:eS w a len xs)(hl:len≤1048576):Calls Tryz.prog 120 #[.slice a len cap] w fun e w'=>∃a',e= .returned (.slice a' len len)∧eS w' a' len xs∧WrPn w' a' len len∧(∀g o,0<len→a'=some ⟨g,o,none⟩→w.heap.size≤g)∧Below w.heap.size w w':=
 (toPn_at a len cap xs w h hl).mono fun e w' ⟨h1,h2,h3,h4⟩=>⟨_,h1,PnRs_of h.1 h.2.1 h2,Or.inr ⟨_,rfl,h3,Nat.le_refl _⟩,fun g o _ e'=>by simp at e';omega,h4⟩
end Go.Proofs.YtealpjmannopeaaGreat
namespace Go.Proofs.YtealpjmannopeaaGreat
open Go.ChangeShapes Go.WideShapes Go.ChangeAt Go.RowKit
theorem gl{b0 b1 a0 a1 a2 a3 a4 a5 a6 c0 c1 c2 c3 c4 c5 c6:Nat}{k0 k1 k2 k3 k4 k5 k6 l0 l1 l2 l3 l4 l5 l6:Value}{W W':World}(h:((W.cell? ⟨b0,a0,none⟩=some k0∧W.cell? ⟨b0,a1,none⟩=some k1∧W.cell? ⟨b0,a2,none⟩=some k2∧W.cell? ⟨b0,a3,none⟩=some k3∧W.cell? ⟨b0,a4,none⟩=some k4∧W.cell? ⟨b0,a5,none⟩=some k5∧W.cell? ⟨b0,a6,none⟩=some k6∧W.cell? ⟨b1,c0,none⟩=some l0∧W.cell? ⟨b1,c1,none⟩=some l1∧W.cell? ⟨b1,c2,none⟩=some l2∧W.cell? ⟨b1,c3,none⟩=some l3∧W.cell? ⟨b1,c4,none⟩=some l4∧W.cell? ⟨b1,c5,none⟩=some l5∧W.cell? ⟨b1,c6,none⟩=some l6)∧b0<W.heap.size∧b1<W.heap.size))(hb:Below W.heap.size W W'):((W'.cell? ⟨b0,a0,none⟩=some k0∧W'.cell? ⟨b0,a1,none⟩=some k1∧W'.cell? ⟨b0,a2,none⟩=some k2∧W'.cell? ⟨b0,a3,none⟩=some k3∧W'.cell? ⟨b0,a4,none⟩=some k4∧W'.cell? ⟨b0,a5,none⟩=some k5∧W'.cell? ⟨b0,a6,none⟩=some k6∧W'.cell? ⟨b1,c0,none⟩=some l0∧W'.cell? ⟨b1,c1,none⟩=some l1∧W'.cell? ⟨b1,c2,none⟩=some l2∧W'.cell? ⟨b1,c3,none⟩=some l3∧W'.cell? ⟨b1,c4,none⟩=some l4∧W'.cell? ⟨b1,c5,none⟩=some l5∧W'.cell? ⟨b1,c6,none⟩=some l6)∧b0<W'.heap.size∧b1<W'.heap.size):=by
 obtain⟨h99,s0,s1⟩:=h
 have e0:∀z,W'.cell? ⟨b0,z,none⟩=W.cell? ⟨b0,z,none⟩:=fun z=>hb.cell s0
 have e1:∀z,W'.cell? ⟨b1,z,none⟩=W.cell? ⟨b1,z,none⟩:=fun z=>hb.cell s1
 refine⟨?_,Nat.lt_of_lt_of_le s0 hb.size,Nat.lt_of_lt_of_le s1 hb.size⟩
 simp only[e0,e1]
 exact h99
end Go.Proofs.YtealpjmannopeaaGreat
