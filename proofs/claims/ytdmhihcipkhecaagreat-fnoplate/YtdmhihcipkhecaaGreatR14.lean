/- Laid together: what the claim needs of the texts that were built one by one. -/
import Derived.Test.YtdmhihcipkhecaaGreatR0
import Derived.Test.YtdmhihcipkhecaaGreatRows
import Derived.Deep.Slices
import Derived.Lib.SmallJoins
import Derived.OwnWalk
import Derived.WalkSpells
import Derived.Deep.RegionHeld3
import Derived.Test.YtdmhihcipkhecaaGreatR2
import Derived.Test.YtdmhihcipkhecaaGreatR13
import Derived.Test.YtdmhihcipkhecaaGreatR7
import Derived.Test.YtdmhihcipkhecaaGreatR6
set_option linter.unusedVariables false
namespace Go.Proofs.YtdmhihcipkhecaaGreat
open Go.ChangeShapes Go.WideShapes Go.ChangeAt Go.RowKit
/-- A row of 7 numbers. -/
structure fa where
 kd:Int
 tm:Int
 ke:Int
 va:Int
 nn:Int
 st:Int
 en:Int
/-- A row lies in its cells; rows lie one behind the other; a slice's value holds rows. -/
def fk(W:World)(g o:Nat)(x:fa):Prop:=W.cell? ⟨g,o,none⟩=some (.int .i64 x.kd)∧W.cell? ⟨g,o+1,none⟩=some (.int .i64 x.tm)∧W.cell? ⟨g,o+2,none⟩=some (.int .i64 x.ke)∧W.cell? ⟨g,o+3,none⟩=some (.int .i64 x.va)∧W.cell? ⟨g,o+4,none⟩=some (.int .i64 x.nn)∧W.cell? ⟨g,o+5,none⟩=some (.int .i64 x.st)∧W.cell? ⟨g,o+6,none⟩=some (.int .i64 x.en)
def ik(W:World)(g o:Nat)(xs:List fa):Prop:=∀i x,xs[i]? =some x→fk W g (o+i*7) x
def iZ(W:World)(a:Option Addr)(len:Nat)(xs:List fa):Prop:=xs.length=len∧len≤maxLen∧(len=0∨∃g o,a=some ⟨g,o,none⟩∧ik W g o xs)
theorem fk.lt{W:World}{g o:Nat}{x:fa}(h:fk W g o x):g<W.heap.size:=by
 obtain⟨h0,_⟩:=h
 rcases Nat.lt_or_ge g W.heap.size with hl|hg
 ·exact hl
 ·simp[World.cell?,Array.getElem?_eq_none hg]at h0
theorem ik.lt{W:World}{g o:Nat}{xs:List fa}(h:ik W g o xs)(hp:0<xs.length):g<W.heap.size:=(h 0 xs[0] (List.getElem?_eq_getElem hp)).lt
theorem fk.below{W W':World}{B g o:Nat}{x:fa}(h:fk W g o x)(hb:Below B W W')(hg:g<B):fk W' g o x:=by
 obtain⟨h0,h1,h2,h3,h4,h5,h6⟩:=h
 exact⟨(hb.cell (p:=⟨g,_,none⟩) hg).trans h0,(hb.cell (p:=⟨g,_,none⟩) hg).trans h1,(hb.cell (p:=⟨g,_,none⟩) hg).trans h2,(hb.cell (p:=⟨g,_,none⟩) hg).trans h3,(hb.cell (p:=⟨g,_,none⟩) hg).trans h4,(hb.cell (p:=⟨g,_,none⟩) hg).trans h5,(hb.cell (p:=⟨g,_,none⟩) hg).trans h6⟩
theorem ik.below{W W':World}{B g o:Nat}{xs:List fa}(h:ik W g o xs)(hb:Below B W W')(hg:0<xs.length→g<B):ik W' g o xs:=by
 intro i x hx
 have hlt:i<xs.length:=(List.getElem?_eq_some_iff.1 hx).1
 exact(h i x hx).below hb (hg (by omega))
theorem iZ.below{W W':World}{a:Option Addr}{len:Nat}{xs:List fa}(h:iZ W a len xs)(hb:Below W.heap.size W W'):iZ W' a len xs:=by
 obtain⟨h1,h2,h3⟩:=h
 refine⟨h1,h2,?_⟩
 rcases h3 with h3|⟨g,o,ha,hr⟩
 ·exact Or.inl h3
 ·exact Or.inr ⟨g,o,ha,hr.below hb (fun hp=>hr.lt hp)⟩
theorem fk.grown{W W':World}{row:Option Nat}{g o:Nat}{x:fa}(h:fk W g o x)(hg:W.grownBy W' row)(hne:some g≠row):fk W' g o x:=by
 have hbk:=hg.block g h.lt hne
 obtain⟨h0,h1,h2,h3,h4,h5,h6⟩:=h
 exact⟨(World.cell?_of_block (w:=W) hbk).trans h0,(World.cell?_of_block (w:=W) hbk).trans h1,(World.cell?_of_block (w:=W) hbk).trans h2,(World.cell?_of_block (w:=W) hbk).trans h3,(World.cell?_of_block (w:=W) hbk).trans h4,(World.cell?_of_block (w:=W) hbk).trans h5,(World.cell?_of_block (w:=W) hbk).trans h6⟩
theorem iZ.grown{W W':World}{row:Option Nat}{a:Option Addr}{n:Nat}{xs:List fa}(h:iZ W a n xs)(hg:W.grownBy W' row)(hne:∀g o,0<n→a=some ⟨g,o,none⟩→some g≠row):iZ W' a n xs:=by
 obtain⟨h1,h2,h3⟩:=h
 refine⟨h1,h2,?_⟩
 rcases h3 with h3|⟨g,o,ha,hr⟩
 ·exact Or.inl h3
 ·refine Or.inr ⟨g,o,ha,fun i x hx=>(hr i x hx).grown hg (hne g o ?_ ha)⟩
  have hlt:i<xs.length:=(List.getElem?_eq_some_iff.1 hx).1
  omega
theorem iZ.lt{W:World}{g o n:Nat}{xs:List fa}(h:iZ W (some ⟨g,o,none⟩) n xs)(hp:0<n):g<W.heap.size:=by
 obtain⟨h1,h2,h3⟩:=h
 obtain⟨g',o',ha,hr⟩:=h3.resolve_left (by omega)
 simp at ha
 have:=hr.lt (by omega)
 omega
/-- A row is stored; a block of rows, known whole. -/
def lA(W:World)(g o:Nat)(x:fa):World:=(((((((W.setCell ⟨g,o,none⟩ (.int .i64 x.kd)).setCell ⟨g,o+1,none⟩ (.int .i64 x.tm)).setCell ⟨g,o+2,none⟩ (.int .i64 x.ke)).setCell ⟨g,o+3,none⟩ (.int .i64 x.va)).setCell ⟨g,o+4,none⟩ (.int .i64 x.nn)).setCell ⟨g,o+5,none⟩ (.int .i64 x.st)).setCell ⟨g,o+6,none⟩ (.int .i64 x.en))
def dK(W:World)(g ty len:Nat):Prop:=∃cur,W.heap[g]? =some (.cells cur ty (0,0))∧cur.size=len*7
theorem dK.set{W:World}{g ty len i:Nat}(h:dK W g ty len)(v:Value):dK (W.setCell ⟨g,i,none⟩ v) g ty len:=by
 obtain⟨cur,h1,h2⟩:=h
 exact⟨_,Joins.block_setCell h1 v,by simp[h2]⟩
theorem dK.below{W W':World}{g ty len B:Nat}(h:dK W g ty len)(hb:Below B W W')(hg:g<B):dK W' g ty len:=by
 obtain⟨cur,h1,h2⟩:=h
 exact⟨cur,(hb.block g hg).trans h1,h2⟩
theorem dK.lt{W:World}{g ty len:Nat}(h:dK W g ty len):g<W.heap.size:=by
 obtain⟨cur,h1,h2⟩:=h
 exact(Array.getElem?_eq_some_iff.1 h1).1
theorem dK.cell{W:World}{g ty len i:Nat}(h:dK W g ty len)(hi:i<len*7):∃u,W.cell? ⟨g,i,none⟩=some u:=by
 obtain⟨cur,h1,h2⟩:=h
 exact⟨_,(cA h1 i).trans (Array.getElem?_eq_getElem (by omega))⟩
theorem dK.frozen{W:World}{g ty len i:Nat}(h:dK W g ty len):W.frozen? ⟨g,i,none⟩=false:=by
 obtain⟨cur,h1,h2⟩:=h
 exact Joins.unfrozen_of_block h1 i
theorem dK.cells{W:World}{g ty len k:Nat}(h:dK W g ty len)(hk:k<len):(∃u,W.cell? ⟨g,k*7,none⟩=some u)∧(∃u,W.cell? ⟨g,k*7+1,none⟩=some u)∧(∃u,W.cell? ⟨g,k*7+2,none⟩=some u)∧(∃u,W.cell? ⟨g,k*7+3,none⟩=some u)∧(∃u,W.cell? ⟨g,k*7+4,none⟩=some u)∧(∃u,W.cell? ⟨g,k*7+5,none⟩=some u)∧(∃u,W.cell? ⟨g,k*7+6,none⟩=some u):=⟨h.cell (by omega),h.cell (by omega),h.cell (by omega),h.cell (by omega),h.cell (by omega),h.cell (by omega),h.cell (by omega)⟩
theorem dK.sets{W:World}{g ty len o:Nat}(h:dK W g ty len)(x:fa):dK (lA W g o x) g ty len:=(((((((h.set _).set _).set _).set _).set _).set _).set _)
theorem aL{W:World}{g i j:Nat}{v:Value}(h:i≠j):(W.setCell ⟨g,i,none⟩ v).cell? ⟨g,j,none⟩=W.cell? ⟨g,j,none⟩:=World.cell?_setCell_other _ _ _ _ (by intro e;injection e with e1 e2;exact h e2)
theorem fO{W:World}{g ty len i:Nat}{v:Value}(h:dK W g ty len)(hi:i<len*7):(W.setCell ⟨g,i,none⟩ v).cell? ⟨g,i,none⟩=some v:=by
 obtain⟨u,hu⟩:=h.cell hi
 exact World.cell?_setCell_same _ _ _ hu
theorem setLp_this{W:World}{g ty len k:Nat}(h:dK W g ty len)(hk:k<len)(x:fa):fk (lA W g (k*7) x) g (k*7) x:=by
 unfold lA
 refine⟨?_,?_,?_,?_,?_,?_,?_⟩
 ·(repeat rw[aL (by omega)]);rw[fO h (by omega)]
 ·(repeat rw[aL (by omega)]);rw[fO (h.set _) (by omega)]
 ·(repeat rw[aL (by omega)]);rw[fO ((h.set _).set _) (by omega)]
 ·(repeat rw[aL (by omega)]);rw[fO (((h.set _).set _).set _) (by omega)]
 ·rw[aL (by omega),aL (by omega),fO ((((h.set _).set _).set _).set _) (by omega)]
 ·rw[aL (by omega),fO (((((h.set _).set _).set _).set _).set _) (by omega)]
 ·rw[fO ((((((h.set _).set _).set _).set _).set _).set _) (by omega)]
theorem setLp_ne{W:World}{g i k:Nat}{x y:fa}(h:fk W g (i*7) y)(hk:i≠k):fk (lA W g (k*7) x) g (i*7) y:=by
 unfold lA
 obtain⟨h0,h1,h2,h3,h4,h5,h6⟩:=h
 refine⟨?_,?_,?_,?_,?_,?_,?_⟩
 ·rw[aL (by omega),aL (by omega),aL (by omega),aL (by omega),aL (by omega),aL (by omega),aL (by omega)];exact h0
 ·rw[aL (by omega),aL (by omega),aL (by omega),aL (by omega),aL (by omega),aL (by omega),aL (by omega)];exact h1
 ·rw[aL (by omega),aL (by omega),aL (by omega),aL (by omega),aL (by omega),aL (by omega),aL (by omega)];exact h2
 ·rw[aL (by omega),aL (by omega),aL (by omega),aL (by omega),aL (by omega),aL (by omega),aL (by omega)];exact h3
 ·rw[aL (by omega),aL (by omega),aL (by omega),aL (by omega),aL (by omega),aL (by omega),aL (by omega)];exact h4
 ·rw[aL (by omega),aL (by omega),aL (by omega),aL (by omega),aL (by omega),aL (by omega),aL (by omega)];exact h5
 ·rw[aL (by omega),aL (by omega),aL (by omega),aL (by omega),aL (by omega),aL (by omega),aL (by omega)];exact h6
/-- The cells of rows; a slice of the call's own that holds rows. -/
def fa.cells(x:fa):List Value:=[.int .i64 x.kd,.int .i64 x.tm,.int .i64 x.ke,.int .i64 x.va,.int .i64 x.nn,.int .i64 x.st,.int .i64 x.en]
def dP(xs:List fa):List Value:=xs.flatMap fa.cells
theorem flatLp_snoc(xs:List fa)(x:fa):dP (xs++[x])=dP xs++x.cells:=by simp[dP]
theorem flatLp_get{xs:List fa}{i:Nat}{x:fa}(h:xs[i]? =some x):(dP xs)[i*7]? =some (.int .i64 x.kd)∧(dP xs)[i*7+1]? =some (.int .i64 x.tm)∧(dP xs)[i*7+2]? =some (.int .i64 x.ke)∧(dP xs)[i*7+3]? =some (.int .i64 x.va)∧(dP xs)[i*7+4]? =some (.int .i64 x.nn)∧(dP xs)[i*7+5]? =some (.int .i64 x.st)∧(dP xs)[i*7+6]? =some (.int .i64 x.en):=by
 induction xs generalizing i with
 |nil=>simp at h
 |cons y r ih=>
  have hf:dP (y :: r)=y.cells++dP r:=rfl
  cases i with
  |zero=>
   simp at h
   subst h
   rw[hf]
   exact⟨rfl,rfl,rfl,rfl,rfl,rfl,rfl⟩
  |succ i=>
   simp at h
   obtain⟨h0,h1,h2,h3,h4,h5,h6⟩:=ih h
   have hl:y.cells.length=7:=rfl
   rw[hf]
   refine⟨?_,?_,?_,?_,?_,?_,?_⟩
   ·rw[List.getElem?_append_right (by omega),hl,show(i+1)*7 - 7=i*7 by omega];exact h0
   ·rw[List.getElem?_append_right (by omega),hl,show(i+1)*7+1 - 7=i*7+1 by omega];exact h1
   ·rw[List.getElem?_append_right (by omega),hl,show(i+1)*7+2 - 7=i*7+2 by omega];exact h2
   ·rw[List.getElem?_append_right (by omega),hl,show(i+1)*7+3 - 7=i*7+3 by omega];exact h3
   ·rw[List.getElem?_append_right (by omega),hl,show(i+1)*7+4 - 7=i*7+4 by omega];exact h4
   ·rw[List.getElem?_append_right (by omega),hl,show(i+1)*7+5 - 7=i*7+5 by omega];exact h5
   ·rw[List.getElem?_append_right (by omega),hl,show(i+1)*7+6 - 7=i*7+6 by omega];exact h6
def ci(W:World)(B:Nat)(v:Value)(ys:List fa):Prop:=W.ownsRow B 59 7 v ys.length (dP ys)
theorem il{w1:World}{B:Nat}{v':Value}{ys:List fa}{x:fa}(ho:w1.ownsRow B 59 7 v' (ys.length+1) (dP ys++x.cells)):ci w1 B v' (ys++[x]):=by
 unfold ci
 rw[flatLp_snoc]
 simpa using ho
theorem gB(w:World)(kd tm ke va nn st en:Int)(ty:Nat):∀j u,([.int .i64 kd,.int .i64 tm,.int .i64 ke,.int .i64 va,.int .i64 nn,.int .i64 st,.int .i64 en]:List Value)[j]? =some u→(w.alloc (.cells #[.int .i64 kd,.int .i64 tm,.int .i64 ke,.int .i64 va,.int .i64 nn,.int .i64 st,.int .i64 en] ty)).cell? ((⟨w.heap.size,0,none⟩:Addr).add j)=some u:=by
 intro j u hj
 have e:((⟨w.heap.size,0,none⟩:Addr).add j)=⟨w.heap.size,j,none⟩:=by
  unfold Addr.add
  split
  ·rename_i h0;rw[h0]
  ·simp
 rw[e]
 simpa[go_sem]using hj
def markLp(i:Nat):fa:=⟨1+7*(i:Int),1+7*(i:Int)+1,1+7*(i:Int)+1+1,1+7*(i:Int)+1+1+1,1+7*(i:Int)+1+1+1+1,1+7*(i:Int)+1+1+1+1+1,1+7*(i:Int)+1+1+1+1+1+1⟩
def WrLp(W:World)(a:Option Addr)(n cap:Nat):Prop:=n=0∨∃g,a=some ⟨g,0,none⟩∧dK W g 59 cap∧n≤cap
def km(W:World)(a:Option Addr)(n:Nat):Prop:=n=0∨∃g,a=some ⟨g,0,none⟩∧∀i,i<n→fk W g (i*7) (markLp i)
theorem km.below{W W':World}{a:Option Addr}{n:Nat}(h:km W a n)(hb:Below W.heap.size W W'):km W' a n:=by
 rcases h with h|⟨g,ha,hM⟩
 ·exact Or.inl h
 ·exact Or.inr ⟨g,ha,fun i hi=>(hM i hi).below hb (hM i hi).lt⟩
theorem mp{W:World}{B:Nat}{v:Value}{ys:List fa}(h:ci W B v ys)(hl:ys.length≤1048576):
  ∃a cap,v= .slice a ys.length cap∧iZ W a ys.length ys∧WrLp W a ys.length cap∧∀g o,0<ys.length→a=some ⟨g,o,none⟩→B≤g:=by
 have hm:ys.length≤maxLen:=by unfold maxLen;omega
 obtain⟨hlen,h|⟨g,cap,cur,rfl,hB,hblk,hnc,hcm,hsz,htk⟩⟩:=h
 ·obtain⟨rfl,h0⟩:=h
  rw[h0]
  exact⟨none,0,rfl,⟨h0,Nat.zero_le _,Or.inl rfl⟩,Or.inl rfl,fun _ _ hp=>by omega⟩
 ·refine⟨_,cap,rfl,⟨rfl,hm,Or.inr ⟨g,0,rfl,?_⟩⟩,Or.inr ⟨g,rfl,⟨cur,hblk,hsz⟩,hnc⟩,fun g' o' _ e=>by simp at e;omega⟩
  intro i x hx
  have hi:i<ys.length:=(List.getElem?_eq_some_iff.1 hx).1
  have hcell:∀j u,j<ys.length*7→(dP ys)[j]? =some u→W.cell? ⟨g,j,none⟩=some u:=by
   intro j u hj hu
   rw[cA hblk j,←Array.getElem?_toList]
   rw[←htk,List.getElem?_take_of_lt hj]at hu
   exact hu
  obtain⟨f0,f1,f2,f3,f4,f5,f6⟩:=flatLp_get hx
  rw[Nat.zero_add]
  exact⟨hcell _ _ (by omega) f0,hcell _ _ (by omega) f1,hcell _ _ (by omega) f2,hcell _ _ (by omega) f3,hcell _ _ (by omega) f4,hcell _ _ (by omega) f5,hcell _ _ (by omega) f6⟩
theorem WrLp.below{W W':World}{a:Option Addr}{n cap:Nat}(h:WrLp W a n cap)(hb:Below W.heap.size W W'):WrLp W' a n cap:=by
 rcases h with h|⟨g,ha,hB,hc⟩
 ·exact Or.inl h
 ·exact Or.inr ⟨g,ha,hB.below hb hB.lt,hc⟩
theorem WrLp.grown{W W':World}{row:Option Nat}{a:Option Addr}{n cap:Nat}(h:WrLp W a n cap)(hg:W.grownBy W' row)(hne:∀g o,0<n→a=some ⟨g,o,none⟩→some g≠row):WrLp W' a n cap:=by
 rcases h with h|⟨g,ha,hB,hc⟩
 ·exact Or.inl h
 ·by_cases h0:n=0
  ·exact Or.inl h0
  ·obtain⟨cur,c1,c2⟩:=hB
   exact Or.inr ⟨g,ha,⟨cur,(hg.block g (Array.getElem?_eq_some_iff.1 c1).1 (hne g 0 (by omega) ha)).trans c1,c2⟩,hc⟩
end Go.Proofs.YtdmhihcipkhecaaGreat
namespace Go.Proofs.YtdmhihcipkhecaaGreat
open Go.ChangeShapes Go.WideShapes Go.ChangeAt Go.RowKit Go.Deep
theorem Tryz.infoLp:(Tryz.prog.info? 59).map (fun i=>(i.zero,i.size,i.bytes))=some (some (.agg #[.int .i64 0,.int .i64 0,.int .i64 0,.int .i64 0,.int .i64 0,.int .i64 0,.int .i64 0]),7,56):=by kernel_rfl
/-- The slice that is being filled. -/
def im(W:World)(g ty len:Nat)(ys:List fa):Prop:=dK W g ty len∧∀i x,ys[i]? =some x→fk W g (i*7) x
theorem im.step{wr w':World}{g ty len k:Nat}{xs:List fa}{x:fa}(h:im wr g ty len (xs.take k))(hb:Below wr.heap.size wr w')(hk:k<len)(hx:xs[k]? =some x):im (lA w' g (k*7) x) g ty len (xs.take (k+1)):=by
 have hB:=h.1.below hb h.1.lt
 refine⟨hB.sets x,fun i y hy=>?_⟩
 have hik:i<k+1:=by
  rcases Nat.lt_or_ge i (k+1)with h'|h'
  ·exact h'
  ·rw[List.getElem?_eq_none (oV)]at hy;cases hy
 rw[List.getElem?_take_of_lt hik]at hy
 by_cases he:i=k
 ·subst he
  rw[hx]at hy
  cases hy
  exact setLp_this hB hk x
 ·refine setLp_ne ?_ he
  exact(h.2 i y (by rw[List.getElem?_take_of_lt (by omega)];exact hy)).below hb h.1.lt
theorem im.start{w:World}{ty len:Nat}{C:Array Value}(hC:C.size=len*7)(xs:List fa):im (w.alloc (.cells C ty)) w.heap.size ty len (xs.take 0):=
 ⟨⟨C,by show(w.heap.push _)[w.heap.size]? =_;simp,hC⟩,fun i x h=>by simp at h⟩
theorem im.done{W:World}{g ty len k:Nat}{xs:List fa}(h:im W g ty len (xs.take k))(hk:xs.length≤k):ik W g 0 xs:=by
 intro i x hx
 rw[List.take_of_length_le hk]at h
 simpa using h.2 i x hx
end Go.Proofs.YtdmhihcipkhecaaGreat
namespace Go.Proofs.YtdmhihcipkhecaaGreat
open Go.ChangeShapes Go.WideShapes Go.ChangeAt Go.RowKit
/-- A row of 5 numbers. -/
structure IwR where
 kd:Int
 tm:Int
 ke:Int
 va:Int
 nn:Int
/-- A row lies in its cells; rows lie one behind the other; a slice's value holds rows. -/
def gQ(W:World)(g o:Nat)(x:IwR):Prop:=W.cell? ⟨g,o,none⟩=some (.int .i64 x.kd)∧W.cell? ⟨g,o+1,none⟩=some (.int .i64 x.tm)∧W.cell? ⟨g,o+2,none⟩=some (.int .i64 x.ke)∧W.cell? ⟨g,o+3,none⟩=some (.int .i64 x.va)∧W.cell? ⟨g,o+4,none⟩=some (.int .i64 x.nn)
def i5(W:World)(g o:Nat)(xs:List IwR):Prop:=∀i x,xs[i]? =some x→gQ W g (o+i*5) x
def IwRs(W:World)(a:Option Addr)(len:Nat)(xs:List IwR):Prop:=xs.length=len∧len≤maxLen∧(len=0∨∃g o,a=some ⟨g,o,none⟩∧i5 W g o xs)
theorem gQ.lt{W:World}{g o:Nat}{x:IwR}(h:gQ W g o x):g<W.heap.size:=by
 obtain⟨h0,_⟩:=h
 rcases Nat.lt_or_ge g W.heap.size with hl|hg
 ·exact hl
 ·simp[World.cell?,Array.getElem?_eq_none hg]at h0
theorem i5.lt{W:World}{g o:Nat}{xs:List IwR}(h:i5 W g o xs)(hp:0<xs.length):g<W.heap.size:=(h 0 xs[0] (List.getElem?_eq_getElem hp)).lt
theorem gQ.below{W W':World}{B g o:Nat}{x:IwR}(h:gQ W g o x)(hb:Below B W W')(hg:g<B):gQ W' g o x:=by
 obtain⟨h0,h1,h2,h3,h4⟩:=h
 exact⟨(hb.cell (p:=⟨g,_,none⟩) hg).trans h0,(hb.cell (p:=⟨g,_,none⟩) hg).trans h1,(hb.cell (p:=⟨g,_,none⟩) hg).trans h2,(hb.cell (p:=⟨g,_,none⟩) hg).trans h3,(hb.cell (p:=⟨g,_,none⟩) hg).trans h4⟩
theorem i5.below{W W':World}{B g o:Nat}{xs:List IwR}(h:i5 W g o xs)(hb:Below B W W')(hg:0<xs.length→g<B):i5 W' g o xs:=by
 intro i x hx
 have hlt:i<xs.length:=(List.getElem?_eq_some_iff.1 hx).1
 exact(h i x hx).below hb (hg (by omega))
theorem IwRs.below{W W':World}{a:Option Addr}{len:Nat}{xs:List IwR}(h:IwRs W a len xs)(hb:Below W.heap.size W W'):IwRs W' a len xs:=by
 obtain⟨h1,h2,h3⟩:=h
 refine⟨h1,h2,?_⟩
 rcases h3 with h3|⟨g,o,ha,hr⟩
 ·exact Or.inl h3
 ·exact Or.inr ⟨g,o,ha,hr.below hb (fun hp=>hr.lt hp)⟩
theorem gQ.grown{W W':World}{row:Option Nat}{g o:Nat}{x:IwR}(h:gQ W g o x)(hg:W.grownBy W' row)(hne:some g≠row):gQ W' g o x:=by
 have hbk:=hg.block g h.lt hne
 obtain⟨h0,h1,h2,h3,h4⟩:=h
 exact⟨(World.cell?_of_block (w:=W) hbk).trans h0,(World.cell?_of_block (w:=W) hbk).trans h1,(World.cell?_of_block (w:=W) hbk).trans h2,(World.cell?_of_block (w:=W) hbk).trans h3,(World.cell?_of_block (w:=W) hbk).trans h4⟩
theorem IwRs.grown{W W':World}{row:Option Nat}{a:Option Addr}{n:Nat}{xs:List IwR}(h:IwRs W a n xs)(hg:W.grownBy W' row)(hne:∀g o,0<n→a=some ⟨g,o,none⟩→some g≠row):IwRs W' a n xs:=by
 obtain⟨h1,h2,h3⟩:=h
 refine⟨h1,h2,?_⟩
 rcases h3 with h3|⟨g,o,ha,hr⟩
 ·exact Or.inl h3
 ·refine Or.inr ⟨g,o,ha,fun i x hx=>(hr i x hx).grown hg (hne g o ?_ ha)⟩
  have hlt:i<xs.length:=(List.getElem?_eq_some_iff.1 hx).1
  omega
theorem IwRs.lt{W:World}{g o n:Nat}{xs:List IwR}(h:IwRs W (some ⟨g,o,none⟩) n xs)(hp:0<n):g<W.heap.size:=by
 obtain⟨h1,h2,h3⟩:=h
 obtain⟨g',o',ha,hr⟩:=h3.resolve_left (by omega)
 simp at ha
 have:=hr.lt (by omega)
 omega
/-- A row is stored; a block of rows, known whole. -/
def setIw(W:World)(g o:Nat)(x:IwR):World:=(((((W.setCell ⟨g,o,none⟩ (.int .i64 x.kd)).setCell ⟨g,o+1,none⟩ (.int .i64 x.tm)).setCell ⟨g,o+2,none⟩ (.int .i64 x.ke)).setCell ⟨g,o+3,none⟩ (.int .i64 x.va)).setCell ⟨g,o+4,none⟩ (.int .i64 x.nn))
def eb(W:World)(g ty len:Nat):Prop:=∃cur,W.heap[g]? =some (.cells cur ty (0,0))∧cur.size=len*5
theorem eb.set{W:World}{g ty len i:Nat}(h:eb W g ty len)(v:Value):eb (W.setCell ⟨g,i,none⟩ v) g ty len:=by
 obtain⟨cur,h1,h2⟩:=h
 exact⟨_,Joins.block_setCell h1 v,by simp[h2]⟩
theorem eb.below{W W':World}{g ty len B:Nat}(h:eb W g ty len)(hb:Below B W W')(hg:g<B):eb W' g ty len:=by
 obtain⟨cur,h1,h2⟩:=h
 exact⟨cur,(hb.block g hg).trans h1,h2⟩
theorem eb.lt{W:World}{g ty len:Nat}(h:eb W g ty len):g<W.heap.size:=by
 obtain⟨cur,h1,h2⟩:=h
 exact(Array.getElem?_eq_some_iff.1 h1).1
theorem eb.cell{W:World}{g ty len i:Nat}(h:eb W g ty len)(hi:i<len*5):∃u,W.cell? ⟨g,i,none⟩=some u:=by
 obtain⟨cur,h1,h2⟩:=h
 exact⟨_,(cA h1 i).trans (Array.getElem?_eq_getElem (by omega))⟩
theorem eb.frozen{W:World}{g ty len i:Nat}(h:eb W g ty len):W.frozen? ⟨g,i,none⟩=false:=by
 obtain⟨cur,h1,h2⟩:=h
 exact Joins.unfrozen_of_block h1 i
theorem eb.cells{W:World}{g ty len k:Nat}(h:eb W g ty len)(hk:k<len):(∃u,W.cell? ⟨g,k*5,none⟩=some u)∧(∃u,W.cell? ⟨g,k*5+1,none⟩=some u)∧(∃u,W.cell? ⟨g,k*5+2,none⟩=some u)∧(∃u,W.cell? ⟨g,k*5+3,none⟩=some u)∧(∃u,W.cell? ⟨g,k*5+4,none⟩=some u):=⟨h.cell (by omega),h.cell (by omega),h.cell (by omega),h.cell (by omega),h.cell (by omega)⟩
theorem eb.sets{W:World}{g ty len o:Nat}(h:eb W g ty len)(x:IwR):eb (setIw W g o x) g ty len:=(((((h.set _).set _).set _).set _).set _)
/-- The cells of rows; a slice of the call's own that holds rows. -/
def IwR.cells(x:IwR):List Value:=[.int .i64 x.kd,.int .i64 x.tm,.int .i64 x.ke,.int .i64 x.va,.int .i64 x.nn]
def markIw(i:Nat):IwR:=⟨1+5*(i:Int),1+5*(i:Int)+1,1+5*(i:Int)+1+1,1+5*(i:Int)+1+1+1,1+5*(i:Int)+1+1+1+1⟩
def WrIw(W:World)(a:Option Addr)(n cap:Nat):Prop:=n=0∨∃g,a=some ⟨g,0,none⟩∧eb W g 29 cap∧n≤cap
def ko(W:World)(a:Option Addr)(n:Nat):Prop:=n=0∨∃g,a=some ⟨g,0,none⟩∧∀i,i<n→gQ W g (i*5) (markIw i)
theorem ko.below{W W':World}{a:Option Addr}{n:Nat}(h:ko W a n)(hb:Below W.heap.size W W'):ko W' a n:=by
 rcases h with h|⟨g,ha,hM⟩
 ·exact Or.inl h
 ·exact Or.inr ⟨g,ha,fun i hi=>(hM i hi).below hb (hM i hi).lt⟩
theorem WrIw.below{W W':World}{a:Option Addr}{n cap:Nat}(h:WrIw W a n cap)(hb:Below W.heap.size W W'):WrIw W' a n cap:=by
 rcases h with h|⟨g,ha,hB,hc⟩
 ·exact Or.inl h
 ·exact Or.inr ⟨g,ha,hB.below hb hB.lt,hc⟩
theorem WrIw.grown{W W':World}{row:Option Nat}{a:Option Addr}{n cap:Nat}(h:WrIw W a n cap)(hg:W.grownBy W' row)(hne:∀g o,0<n→a=some ⟨g,o,none⟩→some g≠row):WrIw W' a n cap:=by
 rcases h with h|⟨g,ha,hB,hc⟩
 ·exact Or.inl h
 ·by_cases h0:n=0
  ·exact Or.inl h0
  ·obtain⟨cur,c1,c2⟩:=hB
   exact Or.inr ⟨g,ha,⟨cur,(hg.block g (Array.getElem?_eq_some_iff.1 c1).1 (hne g 0 (by omega) ha)).trans c1,c2⟩,hc⟩
/-- Whether items are records that may be looked at; a record and a window; all pairs. -/
def IwR.isB(x:IwR):Bool:=dO x.kd x.tm x.ke x.va x.nn
theorem l4of_any(s t k z p l e:Int)(b:Bool)(v r:Int)(T:Int)(w:World)(hj:aY s t k z p l e v r=true)(hT:0≤T∧T≤60):Calls Tryz.prog 62 #[.agg #[.int .i64 s,.int .i64 t,.int .i64 k,.int .i64 z,.int .i64 p,.int .i64 l,.int .i64 e,.bool b,.int .i64 v,.int .i64 r],.int .i64 T] w fun e' w'=>∃v',e'= .returned v'∧dj w' w.heap.size v' (ba k z p T)∧Below w.heap.size w w':=by
 obtain⟨hk,hz,hp⟩:=cK hj
 rcases(show k=1∨k=2∨k=3 by omega)with rfl|rfl|rfl
 ·exact l4_1 s t z p l e b v r T hT hz w
 ·rw[winsOf_2]
  exact kX s t 2 z p l e b v r T hT hz (stepB_in hz hp) rfl w
 ·exact l4_3 s t z p l e b v r T hT hz w
end Go.Proofs.YtdmhihcipkhecaaGreat
