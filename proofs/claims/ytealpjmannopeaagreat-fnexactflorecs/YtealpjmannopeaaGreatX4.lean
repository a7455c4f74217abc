/- Laid together: what the claim needs of the texts that were built one by one. -/
import Derived.Test.YtealpjmannopeaaGreatX3
import Derived.Test.YtealpjmannopeaaGreatX1
import Derived.Test.YtealpjmannopeaaGreatX0
set_option linter.unusedVariables false
namespace Go.Proofs.YtealpjmannopeaaGreat
open Go.ChangeShapes Go.WideShapes Go.ChangeAt Go.RowKit Go.Deep
/-- A task. -/
structure dr where
 ins:List bH
 om:Int
 rows:List bK
 wl:Int
 pn:Int
 ps:List cx
 ls:List cq
def eY(W:World)(B g o:Nat)(x:dr):Prop:=∃(a0:Option Addr) (l0 c0:Nat) (a2:Option Addr) (l2 c2:Nat) (a5:Option Addr) (l5 c5:Nat) (a6:Option Addr) (l6 c6:Nat),(W.cell? ⟨g,o,none⟩=some (.slice a0 l0 c0)∧W.cell? ⟨g,o+1,none⟩=some (.int .i64 x.om)∧W.cell? ⟨g,o+2,none⟩=some (.slice a2 l2 c2)∧W.cell? ⟨g,o+3,none⟩=some (.int .i64 x.wl)∧W.cell? ⟨g,o+4,none⟩=some (.int .i64 x.pn)∧W.cell? ⟨g,o+5,none⟩=some (.slice a5 l5 c5)∧W.cell? ⟨g,o+6,none⟩=some (.slice a6 l6 c6))∧fC W B a0 l0 x.ins∧dN W B a2 l2 x.rows∧cQ W B a5 l5 x.ps∧cS W B a6 l6 x.ls
def eQ(W:World)(B:Nat)(a:Option Addr)(len:Nat)(xs:List dr):Prop:=xs.length=len∧len≤maxLen∧(len=0∨∃g o,a=some ⟨g,o,none⟩∧BG W B g∧∀(i:Nat) (x:dr),xs[i]? =some x→eY W B g (o+i*7) x)
theorem eY.lt{W:World}{B g o:Nat}{x:dr}(h:eY W B g o x):g<W.heap.size:=by
 obtain⟨a0,l0,c0,a2,l2,c2,a5,l5,c5,a6,l6,c6,⟨h0,h1,h2,h3,h4,h5,h6⟩,k0,k2,k5,k6⟩:=h
 exact aA h0
theorem eY.below{W W':World}{B g o:Nat}{x:dr}(h:eY W B g o x)(hb:Below W.heap.size W W'):eY W' B g o x:=by
 have hg:=h.lt
 obtain⟨a0,l0,c0,a2,l2,c2,a5,l5,c5,a6,l6,c6,⟨h0,h1,h2,h3,h4,h5,h6⟩,k0,k2,k5,k6⟩:=h
 exact⟨a0,l0,c0,a2,l2,c2,a5,l5,c5,a6,l6,c6,⟨(hb.cell (p:=⟨g,_,none⟩) hg).trans h0,(hb.cell (p:=⟨g,_,none⟩) hg).trans h1,(hb.cell (p:=⟨g,_,none⟩) hg).trans h2,(hb.cell (p:=⟨g,_,none⟩) hg).trans h3,(hb.cell (p:=⟨g,_,none⟩) hg).trans h4,(hb.cell (p:=⟨g,_,none⟩) hg).trans h5,(hb.cell (p:=⟨g,_,none⟩) hg).trans h6⟩,k0.below hb,k2.below hb,k5.below hb,k6.below hb⟩
theorem eY.less{W:World}{B B' g o:Nat}{x:dr}(h:eY W B g o x)(hB:B'≤B):eY W B' g o x:=by
 obtain⟨a0,l0,c0,a2,l2,c2,a5,l5,c5,a6,l6,c6,⟨h0,h1,h2,h3,h4,h5,h6⟩,k0,k2,k5,k6⟩:=h
 exact⟨a0,l0,c0,a2,l2,c2,a5,l5,c5,a6,l6,c6,⟨h0,h1,h2,h3,h4,h5,h6⟩,k0.less hB,k2.less hB,k5.less hB,k6.less hB⟩
theorem eY.set{W:World}{B g o:Nat}{p:Addr}{v:Value}{x:dr}(h:eY W B g o x)(hg:p.block≠g)(hp:p.block<B):eY (W.setCell p v) B g o x:=by
 obtain⟨a0,l0,c0,a2,l2,c2,a5,l5,c5,a6,l6,c6,⟨h0,h1,h2,h3,h4,h5,h6⟩,k0,k2,k5,k6⟩:=h
 exact⟨a0,l0,c0,a2,l2,c2,a5,l5,c5,a6,l6,c6,⟨(aH hg).trans h0,(aH hg).trans h1,(aH hg).trans h2,(aH hg).trans h3,(aH hg).trans h4,(aH hg).trans h5,(aH hg).trans h6⟩,k0.set hp,k2.set hp,k5.set hp,k6.set hp⟩
theorem eQ.below{W W':World}{B:Nat}{a:Option Addr}{len:Nat}{xs:List dr}(h:eQ W B a len xs)(hb:Below W.heap.size W W'):eQ W' B a len xs:=by
 obtain⟨h1,h2,h3⟩:=h
 refine⟨h1,h2,?_⟩
 rcases h3 with h3|⟨g,o,ha,hB9,hr⟩
 ·exact Or.inl h3
 ·exact Or.inr ⟨g,o,ha,hB9.below hb,fun i x hx=>(hr i x hx).below hb⟩
theorem eQ.less{W:World}{B B':Nat}{a:Option Addr}{len:Nat}{xs:List dr}(h:eQ W B a len xs)(hB:B'≤B):eQ W B' a len xs:=by
 obtain⟨h1,h2,h3⟩:=h
 refine⟨h1,h2,?_⟩
 rcases h3 with h3|⟨g,o,ha,hB9,hr⟩
 ·exact Or.inl h3
 ·exact Or.inr ⟨g,o,ha,hB9.less hB,fun i x hx=>(hr i x hx).less hB⟩
theorem eQ.set{W:World}{B:Nat}{p:Addr}{v:Value}{a:Option Addr}{len:Nat}{xs:List dr}(h:eQ W B a len xs)(hp:p.block<B):eQ (W.setCell p v) B a len xs:=by
 obtain⟨h1,h2,h3⟩:=h
 refine⟨h1,h2,?_⟩
 rcases h3 with h3|⟨g,o,ha,hB9,hr⟩
 ·exact Or.inl h3
 ·exact Or.inr ⟨g,o,ha,hB9.set hp,fun i x hx=>(hr i x hx).set (by have:=hB9.1;omega) hp⟩
theorem eQ.len{W:World}{B:Nat}{a:Option Addr}{len:Nat}{xs:List dr}(h:eQ W B a len xs):xs.length=len∧len≤maxLen:=⟨h.1,h.2.1⟩
/-- A block of such, known whole; one that is being filled. -/
def iM(W:World)(g o:Nat)(v0 v1 v2 v3 v4 v5 v6:Value):World:=(((((((W.setCell ⟨g,o,none⟩ v0).setCell ⟨g,o+1,none⟩ v1).setCell ⟨g,o+2,none⟩ v2).setCell ⟨g,o+3,none⟩ v3).setCell ⟨g,o+4,none⟩ v4).setCell ⟨g,o+5,none⟩ v5).setCell ⟨g,o+6,none⟩ v6)
def dD(W:World)(g ty len:Nat):Prop:=∃cur,W.heap[g]? =some (.cells cur ty (0,0))∧cur.size=len*7
theorem dD.set{W:World}{g ty len i:Nat}(h:dD W g ty len)(v:Value):dD (W.setCell ⟨g,i,none⟩ v) g ty len:=by
 obtain⟨cur,h1,h2⟩:=h
 exact⟨_,Joins.block_setCell h1 v,by simp[h2]⟩
theorem dD.below{W W':World}{g ty len B:Nat}(h:dD W g ty len)(hb:Below B W W')(hg:g<B):dD W' g ty len:=by
 obtain⟨cur,h1,h2⟩:=h
 exact⟨cur,(hb.block g hg).trans h1,h2⟩
theorem dD.lt{W:World}{g ty len:Nat}(h:dD W g ty len):g<W.heap.size:=by
 obtain⟨cur,h1,h2⟩:=h
 exact(Array.getElem?_eq_some_iff.1 h1).1
theorem dD.cell{W:World}{g ty len i:Nat}(h:dD W g ty len)(hi:i<len*7):∃u,W.cell? ⟨g,i,none⟩=some u:=by
 obtain⟨cur,h1,h2⟩:=h
 exact⟨_,(cA h1 i).trans (Array.getElem?_eq_getElem (by omega))⟩
theorem dD.frozen{W:World}{g ty len i:Nat}(h:dD W g ty len):W.frozen? ⟨g,i,none⟩=false:=by
 obtain⟨cur,h1,h2⟩:=h
 exact Joins.unfrozen_of_block h1 i
theorem eE{W:World}{g ty len i:Nat}{v:Value}(h:dD W g ty len)(hi:i<len*7):(W.setCell ⟨g,i,none⟩ v).cell? ⟨g,i,none⟩=some v:=by
 obtain⟨u,hu⟩:=h.cell hi
 exact World.cell?_setCell_same _ _ _ hu
theorem setTk_this{W:World}{g ty len k:Nat}{x:dr}{a0:Option Addr}{l0 c0:Nat}{a2:Option Addr}{l2 c2:Nat}{a5:Option Addr}{l5 c5:Nat}{a6:Option Addr}{l6 c6:Nat}(h:dD W g ty len)(hk:k<len)(k0:fC W (g+1) a0 l0 x.ins)(k2:dN W (g+1) a2 l2 x.rows)(k5:cQ W (g+1) a5 l5 x.ps)(k6:cS W (g+1) a6 l6 x.ls):eY (iM W g (k*7) (.slice a0 l0 c0) (.int .i64 x.om) (.slice a2 l2 c2) (.int .i64 x.wl) (.int .i64 x.pn) (.slice a5 l5 c5) (.slice a6 l6 c6)) (g+1) g (k*7) x:=by
 unfold iM
 refine⟨a0,l0,c0,a2,l2,c2,a5,l5,c5,a6,l6,c6,⟨?_,?_,?_,?_,?_,?_,?_⟩,(((((((k0.set (by simp)).set (by simp)).set (by simp)).set (by simp)).set (by simp)).set (by simp)).set (by simp)),(((((((k2.set (by simp)).set (by simp)).set (by simp)).set (by simp)).set (by simp)).set (by simp)).set (by simp)),(((((((k5.set (by simp)).set (by simp)).set (by simp)).set (by simp)).set (by simp)).set (by simp)).set (by simp)),(((((((k6.set (by simp)).set (by simp)).set (by simp)).set (by simp)).set (by simp)).set (by simp)).set (by simp))⟩
 ·(repeat rw[am (by omega)]);rw[eE h (by omega)]
 ·(repeat rw[am (by omega)]);rw[eE (h.set _) (by omega)]
 ·(repeat rw[am (by omega)]);rw[eE ((h.set _).set _) (by omega)]
 ·(repeat rw[am (by omega)]);rw[eE (((h.set _).set _).set _) (by omega)]
 ·rw[am (by omega),am (by omega),eE ((((h.set _).set _).set _).set _) (by omega)]
 ·rw[am (by omega),eE (((((h.set _).set _).set _).set _).set _) (by omega)]
 ·rw[eE ((((((h.set _).set _).set _).set _).set _).set _) (by omega)]
theorem setTk_ne{W:World}{g i k:Nat}{x:dr}{v0 v1 v2 v3 v4 v5 v6:Value}(h:eY W (g+1) g (i*7) x)(hk:i≠k):eY (iM W g (k*7) v0 v1 v2 v3 v4 v5 v6) (g+1) g (i*7) x:=by
 unfold iM
 obtain⟨a0,l0,c0,a2,l2,c2,a5,l5,c5,a6,l6,c6,⟨h0,h1,h2,h3,h4,h5,h6⟩,k0,k2,k5,k6⟩:=h
 refine⟨a0,l0,c0,a2,l2,c2,a5,l5,c5,a6,l6,c6,⟨?_,?_,?_,?_,?_,?_,?_⟩,(((((((k0.set (by simp)).set (by simp)).set (by simp)).set (by simp)).set (by simp)).set (by simp)).set (by simp)),(((((((k2.set (by simp)).set (by simp)).set (by simp)).set (by simp)).set (by simp)).set (by simp)).set (by simp)),(((((((k5.set (by simp)).set (by simp)).set (by simp)).set (by simp)).set (by simp)).set (by simp)).set (by simp)),(((((((k6.set (by simp)).set (by simp)).set (by simp)).set (by simp)).set (by simp)).set (by simp)).set (by simp))⟩
 ·rw[am (by omega),am (by omega),am (by omega),am (by omega),am (by omega),am (by omega),am (by omega)];exact h0
 ·rw[am (by omega),am (by omega),am (by omega),am (by omega),am (by omega),am (by omega),am (by omega)];exact h1
 ·rw[am (by omega),am (by omega),am (by omega),am (by omega),am (by omega),am (by omega),am (by omega)];exact h2
 ·rw[am (by omega),am (by omega),am (by omega),am (by omega),am (by omega),am (by omega),am (by omega)];exact h3
 ·rw[am (by omega),am (by omega),am (by omega),am (by omega),am (by omega),am (by omega),am (by omega)];exact h4
 ·rw[am (by omega),am (by omega),am (by omega),am (by omega),am (by omega),am (by omega),am (by omega)];exact h5
 ·rw[am (by omega),am (by omega),am (by omega),am (by omega),am (by omega),am (by omega),am (by omega)];exact h6
def eF(W:World)(g ty len:Nat)(ys:List dr):Prop:=dD W g ty len∧∀(i:Nat) (x:dr),ys[i]? =some x→eY W (g+1) g (i*7) x
theorem eF.step{wr w':World}{g ty len k:Nat}{xs:List dr}{x:dr}{a0:Option Addr}{l0 c0:Nat}{a2:Option Addr}{l2 c2:Nat}{a5:Option Addr}{l5 c5:Nat}{a6:Option Addr}{l6 c6:Nat}(h:eF wr g ty len (xs.take k))(hb:Below wr.heap.size wr w')(hk:k<len)(hx:xs[k]? =some x)(k0:fC w' (g+1) a0 l0 x.ins)(k2:dN w' (g+1) a2 l2 x.rows)(k5:cQ w' (g+1) a5 l5 x.ps)(k6:cS w' (g+1) a6 l6 x.ls):eF (iM w' g (k*7) (.slice a0 l0 c0) (.int .i64 x.om) (.slice a2 l2 c2) (.int .i64 x.wl) (.int .i64 x.pn) (.slice a5 l5 c5) (.slice a6 l6 c6)) g ty len (xs.take (k+1)):=by
 have hB:=h.1.below hb h.1.lt
 refine⟨(((((((hB.set _).set _).set _).set _).set _).set _).set _),fun i y hy=>?_⟩
 have hik:i<k+1:=by
  rcases Nat.lt_or_ge i (k+1)with h'|h'
  ·exact h'
  ·rw[List.getElem?_eq_none (jJ)]at hy;cases hy
 rw[List.getElem?_take_of_lt hik]at hy
 by_cases he:i=k
 ·subst he
  rw[hx]at hy
  cases hy
  exact setTk_this hB hk k0 k2 k5 k6
 ·refine setTk_ne ?_ he
  exact(h.2 i y (by rw[List.getElem?_take_of_lt (by omega)];exact hy)).below hb
theorem eF.start{w:World}{ty len:Nat}{C:Array Value}(hC:C.size=len*7)(xs:List dr):eF (w.alloc (.cells C ty)) w.heap.size ty len (xs.take 0):=
 ⟨⟨C,by show(w.heap.push _)[w.heap.size]? =_;simp,hC⟩,fun i x h=>by simp at h⟩
theorem eF.done{W:World}{g ty len k:Nat}{xs:List dr}(h:eF W g ty len (xs.take k))(hk:xs.length≤k)(hl:xs.length=len)(hm:len≤maxLen):eQ W g (some ⟨g,0,none⟩) len xs:=by
 refine⟨hl,hm,Or.inr ⟨g,0,rfl,(by obtain⟨c9,e9,_⟩:=h.1;exact BG.of (Nat.le_refl _) e9),fun i x hx=>?_⟩⟩
 rw[List.take_of_length_le hk]at h
 have:=(h.2 i x hx).less (B':=g) (by omega)
 simpa using this
theorem below_setTk{B g o:Nat}{W W':World}{v0 v1 v2 v3 v4 v5 v6:Value}(h:Below B W W')(hg:B≤g):Below B W (iM W' g o v0 v1 v2 v3 v4 v5 v6):=(((((((h.setCell hg _).setCell hg _).setCell hg _).setCell hg _).setCell hg _).setCell hg _).setCell hg _)
section
variable {H : Type} {enc : TypeId × Value → H} {P : Program} {w : World} {base : Nat} {spare : Nat → Bool} {held : Bool}
def dr.ok64(x:dr):Prop:=(∀y ∈ x.ins,y.ok64)∧(-9223372036854775808≤x.om∧x.om≤9223372036854775807)∧(∀y ∈ x.rows,y.ok64)∧(-9223372036854775808≤x.wl∧x.wl≤9223372036854775807)∧(-9223372036854775808≤x.pn∧x.pn≤9223372036854775807)∧(∀y ∈ x.ps,y.ok64)∧(∀y ∈ x.ls,y.ok64)
theorem cellsTk{a:Addr}{cs:List Value}{t0 e0:TypeId}{t2 e2:TypeId}{t5 e5:TypeId}{t6 e6:TypeId}{s0 f0:TypeId}(u0a:P.underlying t0=some (.slice e0))(u0b:dw P 5 e0=some [.s s0,.i,.b])(u0c:P.cellsOf e0=3)(u0d:P.underlying s0=some (.slice f0))(u0e:bf P 5 f0=some [false,false,false,false,false])(u0f:P.cellsOf f0=5)(u2a:P.underlying t2=some (.slice e2))(u2b:bf P 5 e2=some [false,false,false,false,false,false,false,false,false,false,false,false,true])(u2c:P.cellsOf e2=13)(u5a:P.underlying t5=some (.slice e5))(u5b:bf P 5 e5=some [false,false,false,false,false,false,false,false,false])(u5c:P.cellsOf e5=9)(u6a:P.underlying t6=some (.slice e6))(u6b:bf P 5 e6=some [false,false,false,false,false,false,false])(u6c:P.cellsOf e6=7)(h:w.cells? base a 7=some cs)(f0:cj enc P w base spare held cs [.s t0,.i,.s t2,.i,.i,.s t5,.s t6]):a.spot=none∧∃x:dr,eY w 0 a.block a.off x∧x.ok64:=by
 obtain⟨a0,l0,c0,d0,p0,r0,rfl,y0,f1⟩:=fitT_s f0
 obtain⟨z1,r1,rfl,y1,f2⟩:=fitT_i f1
 obtain⟨a2,l2,c2,d2,p2,r2,rfl,y2,f3⟩:=fitT_s f2
 obtain⟨z3,r3,rfl,y3,f4⟩:=fitT_i f3
 obtain⟨z4,r4,rfl,y4,f5⟩:=fitT_i f4
 obtain⟨a5,l5,c5,d5,p5,r5,rfl,y5,f6⟩:=fitT_s f5
 obtain⟨a6,l6,c6,d6,p6,r6,rfl,y6,f7⟩:=fitT_s f6
 obtain rfl:=fitT_nil f7
 clear f0 f1 f2 f3 f4 f5 f6 f7
 obtain⟨x0,q0,o0⟩:=openTiB u0a u0b u0c u0d u0e u0f y0
 obtain⟨x2,q2,o2⟩:=openOr u2a u2b u2c y2
 obtain⟨x5,q5,o5⟩:=openPn u5a u5b u5c y5
 obtain⟨x6,q6,o6⟩:=openLp u6a u6b u6c y6
 obtain⟨_,hlen,hc⟩:=World.cells?_some h
 have b0:=hc 0 (by omega)
 have b1:=hc 1 (by omega)
 have b2:=hc 2 (by omega)
 have b3:=hc 3 (by omega)
 have b4:=hc 4 (by omega)
 have b5:=hc 5 (by omega)
 have b6:=hc 6 (by omega)
 obtain⟨g,o,sp⟩:=a
 have ha0:(⟨g,o,sp⟩:Addr).add 0=⟨g,o,sp⟩:=by simp[Addr.add]
 have hsp:sp=none:=World.cell?_spot (w:=w) (a:=⟨g,o,sp⟩) (v:= .slice a0 l0 c0) (by rw[←ha0];simpa using b0)
 subst hsp
 exact⟨rfl,⟨x0,z1,x2,z3,z4,x5,x6⟩,⟨a0,l0,c0,a2,l2,c2,a5,l5,c5,a6,l6,c6,⟨by simpa[Addr.add]using b0,by simpa[Addr.add]using b1,by simpa[Addr.add]using b2,by simpa[Addr.add]using b3,by simpa[Addr.add]using b4,by simpa[Addr.add]using b5,by simpa[Addr.add]using b6⟩,q0,⟨q2,fun g9 _ _ _=>BG.zero _ g9⟩,⟨q5,fun g9 _ _ _=>BG.zero _ g9⟩,⟨q6,fun g9 _ _ _=>BG.zero _ g9⟩⟩,o0,aW y1,o2,aW y3,aW y4,o5,o6⟩
theorem openTk{t e:TypeId}{t0 e0:TypeId}{t2 e2:TypeId}{t5 e5:TypeId}{t6 e6:TypeId}{a:Option Addr}{len cap:Nat}{d:DataW H}{p:List MemPlace}(ht:P.underlying t=some (.slice e))(hk:dw P 5 e=some [.s t0,.i,.s t2,.i,.i,.s t5,.s t6])(hC:P.cellsOf e=7){s0 f0:TypeId}(u0a:P.underlying t0=some (.slice e0))(u0b:dw P 5 e0=some [.s s0,.i,.b])(u0c:P.cellsOf e0=3)(u0d:P.underlying s0=some (.slice f0))(u0e:bf P 5 f0=some [false,false,false,false,false])(u0f:P.cellsOf f0=5)(u2a:P.underlying t2=some (.slice e2))(u2b:bf P 5 e2=some [false,false,false,false,false,false,false,false,false,false,false,false,true])(u2c:P.cellsOf e2=13)(u5a:P.underlying t5=some (.slice e5))(u5b:bf P 5 e5=some [false,false,false,false,false,false,false,false,false])(u5c:P.cellsOf e5=9)(u6a:P.underlying t6=some (.slice e6))(u6b:bf P 5 e6=some [false,false,false,false,false,false,false])(u6c:P.cellsOf e6=7)
  (h:DataW.Trod enc P w base spare held t (.slice a len cap) d p):∃xs:List dr,eQ w 0 a len xs∧∀x ∈ xs,x.ok64:=by
 obtain⟨fuel,hf⟩:=h
 rcases open_slice ht hf with⟨hcs,_⟩|⟨a',len',cap',m,n,D,Pl,hcs,_,hl,hm,hmm,_,hx⟩
 ·simp[Value.cells]at hcs
  obtain⟨rfl,rfl,rfl⟩:=hcs
  exact⟨[],⟨rfl,Nat.zero_le _,Or.inl rfl⟩,by simp⟩
 ·simp[Value.cells]at hcs
  obtain⟨rfl,rfl,rfl⟩:=hcs
  have hlm:len≤m:=by rw[hmm];split<;>omega
  have hall:∀i,i<len→∃x:dr,(i=0→a'.spot=none)∧eY w 0 a'.block (a'.off+i*7) x∧x.ok64:=by
   intro i hi
   obtain⟨cs',h1,h2⟩:=hx i (by omega)
   rw[hC]at h1
   obtain⟨hsp,x,hxa,hxo⟩:=cellsTk u0a u0b u0c u0d u0e u0f u2a u2b u2c u5a u5b u5c u6a u6b u6c h1 (cH 5 hk h2)
   have hb:(a'.add (i*7)).block=a'.block∧(a'.add (i*7)).off=a'.off+i*7:=by
    unfold Addr.add
    split
    ·exact⟨rfl,by omega⟩
    ·exact⟨rfl,rfl⟩
   rw[hb.1,hb.2]at hxa
   refine⟨x,fun h0=>?_,hxa,hxo⟩
   subst h0
   simpa[Addr.add]using hsp
  by_cases h0:len=0
  ·subst h0
   exact⟨[],⟨rfl,Nat.zero_le _,Or.inl rfl⟩,by simp⟩
  have hinh:Inhabited dr:=⟨⟨[],0,[],0,0,[],[]⟩⟩
  obtain⟨f,hf'⟩:=choose_lt hall
  have hsp:=(hf' 0 (by omega)).1 rfl
  refine⟨(List.range len).map f,⟨by simp,by omega,Or.inr ⟨a'.block,a'.off,by cases a';simp_all,BG.zero _ _,?_⟩⟩,?_⟩
  ·intro i x hix
   simp only[List.getElem?_map,Option.map_eq_some_iff]at hix
   obtain⟨j,hj,rfl⟩:=hix
   have hil:i<len:=by
    rcases Nat.lt_or_ge i len with h'|h'
    ·exact h'
    ·rw[List.getElem?_eq_none (by simpa using h')]at hj;cases hj
   rw[List.getElem?_eq_getElem (by simpa using hil)]at hj
   simp at hj
   subst hj
   exact(hf' i hil).2.1
  ·intro x hxm
   simp only[List.mem_map,List.mem_range]at hxm
   obtain⟨i,hi,rfl⟩:=hxm
   exact(hf' i hi).2.2
end
def dr.sm(x:dr):Prop:=(x.ins.length≤1048576∧∀y ∈ x.ins,y.sm)∧x.rows.length≤1048576∧x.ps.length≤1048576∧x.ls.length≤1048576
theorem smTk_of(x:dr){l0 l2 l5 l6:Nat}(h0:x.ins.length=l0)(h2:x.rows.length=l2)(h5:x.ps.length=l5)(h6:x.ls.length=l6)(h:(l0≤1048576∧∀y ∈ x.ins,y.sm)∧l2≤1048576∧l5≤1048576∧l6≤1048576):x.sm:=by subst h0;subst h2;subst h5;subst h6;exact h
theorem of_smTk(x:dr){l0 l2 l5 l6:Nat}(h0:x.ins.length=l0)(h2:x.rows.length=l2)(h5:x.ps.length=l5)(h6:x.ls.length=l6)(h:x.sm):(l0≤1048576∧∀y ∈ x.ins,y.sm)∧l2≤1048576∧l5≤1048576∧l6≤1048576:=by subst h0;subst h2;subst h5;subst h6;exact h
/-- How many elements there are, in all of it. -/
def fD:List dr→Nat
 | []=>0
 |x :: xs=>(1+(eV x.ins+x.rows.length+(x.ps.length+x.ls.length)))+fD xs
theorem cTk_app(xs ys:List dr):fD (xs++ys)=fD xs+fD ys:=by
 induction xs with
 |nil=>simp[fD]
 |cons x xs ih=>
  show(1+(eV x.ins+x.rows.length+(x.ps.length+x.ls.length)))+fD (xs++ys)=(1+(eV x.ins+x.rows.length+(x.ps.length+x.ls.length)))+fD xs+fD ys
  omega
theorem cTk_take{xs:List dr}{i:Nat}{x:dr}(h:xs[i]? =some x):fD (xs.take (i+1))=fD (xs.take i)+(1+(eV x.ins+x.rows.length+(x.ps.length+x.ls.length))):=by
 rw[List.take_add_one,h,cTk_app]
 simp[fD]
theorem cTk_0(xs:List dr):fD (xs.take 0)=0:=by simp[fD]
set_option maxRecDepth 20000 in
set_option maxHeartbeats 1000000 in
theorem szTk_one(x:dr)(a0:Option Addr)(l0 c0:Nat)(a2:Option Addr)(l2 c2:Nat)(a5:Option Addr)(l5 c5:Nat)(a6:Option Addr)(l6 c6:Nat)(L:Int)(w:World)(h0:fC w 0 a0 l0 x.ins)(h2:dN w 0 a2 l2 x.rows)(h5:cQ w 0 a5 l5 x.ps)(h6:cS w 0 a6 l6 x.ls)(h0L:0≤L)(hL:L≤1048576):Calls Tryz.prog 55 #[.agg #[.slice a0 l0 c0,.int .i64 x.om,.slice a2 l2 c2,.int .i64 x.wl,.int .i64 x.pn,.slice a5 l5 c5,.slice a6 l6 c6],.int .i64 L] w fun e w'=>gG (L - ((eV x.ins+l2+(l5+l6):Nat):Int)) ((l0≤1048576∧∀y ∈ x.ins,y.sm)∧l2≤1048576∧l5≤1048576∧l6≤1048576) e∧Below w.heap.size w w':=by
 go_enter Tryz.func55,Tryz.ntmps55
 go_wp2_with fail
 refine(szTi_p a0 l0 c0 x.ins L _ (h0.below (ar)) (by omega) (by omega)).mono ?_
 rintro e y0 ⟨⟨r0,rfl,hr⟩,hb0⟩
 obtain⟨hc0,hf0,hs0⟩:=ac hb0
 have hz0:w.heap.size<y0.heap.size:=by have h9:=hb0.size;(try simp at h9);omega
 rcases hr with rfl|⟨p0,q0,s0⟩
 ·go_wp2
  go_ret
  exact⟨⟨_,rfl,Or.inl rfl⟩,(ar)⟩
 go_wp2_with fail
 refine(szSt_p x.om a2 l2 c2 r0 _ h2.len.2 (by omega) (by omega)).mono ?_
 rintro e y1 ⟨⟨r1,rfl,hr⟩,hb1⟩
 obtain⟨hc1,hf1,hs1⟩:=ac hb1
 have hz1:w.heap.size<y1.heap.size:=by have h9:=hb1.size;(try simp at h9);omega
 rcases hr with rfl|⟨p1,q1,s1⟩
 ·go_wp2
  go_ret
  exact⟨⟨_,rfl,Or.inl rfl⟩,(ar)⟩
 go_wp2_with fail
 refine(szTx_one ⟨x.pn,x.ps,x.ls⟩ a5 l5 c5 a6 l6 c6 r1 _ (h5.below (ar)) (h6.below (ar)) (by omega) (by omega)).mono ?_
 rintro e y2 ⟨⟨r2,rfl,hr⟩,hb2⟩
 obtain⟨hc2,hf2,hs2⟩:=ac hb2
 have hz2:w.heap.size<y2.heap.size:=by have h9:=hb2.size;(try simp at h9);omega
 rcases hr with rfl|⟨p2,q2,s2⟩
 ·go_wp2
  go_ret
  exact⟨⟨_,rfl,Or.inl rfl⟩,(ar)⟩
 go_wp2
 go_ret
 exact⟨⟨_,rfl,Or.inr ⟨p2,by omega,s0,s1,s2.1,s2.2⟩⟩,(ar)⟩
set_option maxRecDepth 20000 in
set_option maxHeartbeats 2000000 in
theorem toTk_one(x:dr)(a0:Option Addr)(l0 c0:Nat)(a2:Option Addr)(l2 c2:Nat)(a5:Option Addr)(l5 c5:Nat)(a6:Option Addr)(l6 c6:Nat)(w:World)(h0:fC w 0 a0 l0 x.ins)(h2:dN w 0 a2 l2 x.rows)(h5:cQ w 0 a5 l5 x.ps)(h6:cS w 0 a6 l6 x.ls)(m0:(l0≤1048576∧∀y ∈ x.ins,y.sm))(m2:l2≤1048576)(m5:l5≤1048576)(m6:l6≤1048576):Calls Tryz.prog 68 #[.agg #[.slice a0 l0 c0,.int .i64 x.om,.slice a2 l2 c2,.int .i64 x.wl,.int .i64 x.pn,.slice a5 l5 c5,.slice a6 l6 c6]] w fun e w'=>∃b0 b2 b5 b6,e= .returned (.agg #[.slice b0 l0 l0,.int .i64 x.om,.slice b2 l2 l2,.int .i64 x.wl,.int .i64 x.pn,.slice b5 l5 l5,.slice b6 l6 l6])∧fC w' w.heap.size b0 l0 x.ins∧dN w' w.heap.size b2 l2 x.rows∧cQ w' w.heap.size b5 l5 x.ps∧cS w' w.heap.size b6 l6 x.ls∧Below w.heap.size w w':=by
 go_enter Tryz.func68,Tryz.ntmps68
 go_wp2_with (first
  |(go_at_call 116;refine(toTi_b 0 a0 l0 c0 x.ins _ (h0.below (ar)) m0).mono ?_;rintro e' w0 ⟨b0,rfl,H0,hb0⟩;obtain⟨hc0,hf0,hs0⟩:=ac hb0;have hz00:w.heap.size<w0.heap.size:=(by have h9:=hb0.size;(try simp at h9);omega);have hz01:w.heap.size+1<w0.heap.size:=(by have h9:=hb0.size;(try simp at h9);omega);have hz02:w.heap.size+1+1<w0.heap.size:=(by have h9:=hb0.size;(try simp at h9);omega))
  |(go_at_call 117;refine(toSt_b 0 x.om a2 l2 c2 x.rows _ (h2.below (ar)) m2).mono ?_;rintro e' w1 ⟨b2,rfl,H2,hb1⟩;obtain⟨hc1,hf1,hs1⟩:=ac hb1;have hz10:w.heap.size<w1.heap.size:=(by have h9:=hb1.size;(try simp at h9);omega);have hz11:w.heap.size+1<w1.heap.size:=(by have h9:=hb1.size;(try simp at h9);omega);have hz12:w.heap.size+1+1<w1.heap.size:=(by have h9:=hb1.size;(try simp at h9);omega))
  |(go_at_call 118;refine(toTx_one ⟨x.pn,x.ps,x.ls⟩ a5 l5 c5 a6 l6 c6 _ (h5.below (ar)) (h6.below (ar)) m5 m6).mono ?_;rintro e' w2 ⟨b5,b6,rfl,H5,H6,hb2⟩;obtain⟨hc2,hf2,hs2⟩:=ac hb2;have hz20:w.heap.size<w2.heap.size:=(by have h9:=hb2.size;(try simp at h9);omega);have hz21:w.heap.size+1<w2.heap.size:=(by have h9:=hb2.size;(try simp at h9);omega);have hz22:w.heap.size+1+1<w2.heap.size:=(by have h9:=hb2.size;(try simp at h9);omega)))
 have G0:fC w0 (w.heap.size+3) b0 l0 x.ins:=H0.less (jH)
 have G2:dN w1 (w.heap.size+3) b2 l2 x.rows:=H2.less (jH)
 have G5:cQ w2 (w.heap.size+3) b5 l5 x.ps:=H5.less (jH)
 have G6:cS w2 (w.heap.size+3) b6 l6 x.ls:=H6.less (jH)
 refine bodyPost_ret (v:= .agg #[.slice b0 l0 l0,.int .i64 x.om,.slice b2 l2 l2,.int .i64 x.wl,.int .i64 x.pn,.slice b5 l5 l5,.slice b6 l6 l6]) (by simp(maxDischargeDepth:=9) [results,Tryz.results68,go_sem, *]) rfl ⟨b0,b2,b5,b6,rfl,fC.less (B:=w.heap.size+3) ?_ (by omega),dN.less (B:=w.heap.size+3) ?_ (by omega),cQ.less (B:=w.heap.size+3) ?_ (by omega),cS.less (B:=w.heap.size+3) ?_ (by omega),?_⟩
 ·repeat(first|(with_reducible exact G0)|(with_reducible refine fC.set ?_ (jH))|(with_reducible refine fC.below ?_ hb2)|(with_reducible refine fC.below ?_ hb1))
 ·repeat(first|(with_reducible exact G2)|(with_reducible refine dN.set ?_ (jH))|(with_reducible refine dN.below ?_ hb2))
 ·repeat(first|(with_reducible exact G5)|(with_reducible refine cQ.set ?_ (jH)))
 ·repeat(first|(with_reducible exact G6)|(with_reducible refine cS.set ?_ (jH)))
 ·exact(ar)
set_option maxRecDepth 20000 in
set_option maxHeartbeats 1000000 in
theorem eqTk_one(B1 B2:Nat)(x:dr)(a0x a0y:Option Addr)(l0 c0x c0y:Nat)(a2x a2y:Option Addr)(l2 c2x c2y:Nat)(a5x a5y:Option Addr)(l5 c5x c5y:Nat)(a6x a6y:Option Addr)(l6 c6x c6y:Nat)(w:World)(h0x:fC w B1 a0x l0 x.ins)(h0y:fC w B2 a0y l0 x.ins)(h2x:dN w B1 a2x l2 x.rows)(h2y:dN w B2 a2y l2 x.rows)(h5x:cQ w B1 a5x l5 x.ps)(h5y:cQ w B2 a5y l5 x.ps)(h6x:cS w B1 a6x l6 x.ls)(h6y:cS w B2 a6y l6 x.ls):Calls Tryz.prog 82 #[.agg #[.slice a0x l0 c0x,.int .i64 x.om,.slice a2x l2 c2x,.int .i64 x.wl,.int .i64 x.pn,.slice a5x l5 c5x,.slice a6x l6 c6x],.agg #[.slice a0y l0 c0y,.int .i64 x.om,.slice a2y l2 c2y,.int .i64 x.wl,.int .i64 x.pn,.slice a5y l5 c5y,.slice a6y l6 c6y]] w fun e w'=>e= .returned (.bool true)∧Below w.heap.size w w':=by
 go_enter Tryz.func82,Tryz.ntmps82
 go_wp2_with (first
  |(go_at_call 134;refine(eqTi_b B1 B2 a0x a0y l0 c0x c0y x.ins _ (h0x.below (ar)) (h0y.below (ar))).mono ?_;rintro e' w0 ⟨rfl,hb0⟩;obtain⟨hc0,hf0,hs0⟩:=ac hb0;have hz00:w.heap.size<w0.heap.size:=(by have h9:=hb0.size;(try simp at h9);omega);have hz01:w.heap.size+1<w0.heap.size:=(by have h9:=hb0.size;(try simp at h9);omega))
  |(go_at_call 135;refine(eqSt_b B1 B2 x.om a2x a2y l2 c2x c2y x.rows _ (h2x.below (ar)) (h2y.below (ar))).mono ?_;rintro e' w1 ⟨rfl,hb1⟩;obtain⟨hc1,hf1,hs1⟩:=ac hb1;have hz10:w.heap.size<w1.heap.size:=(by have h9:=hb1.size;(try simp at h9);omega);have hz11:w.heap.size+1<w1.heap.size:=(by have h9:=hb1.size;(try simp at h9);omega))
  |(go_at_call 136;refine(eqTx_one B1 B2 ⟨x.pn,x.ps,x.ls⟩ a5x a5y l5 c5x c5y a6x a6y l6 c6x c6y _ (h5x.below (ar)) (h5y.below (ar)) (h6x.below (ar)) (h6y.below (ar))).mono ?_;rintro e' w2 ⟨rfl,hb2⟩;obtain⟨hc2,hf2,hs2⟩:=ac hb2;have hz20:w.heap.size<w2.heap.size:=(by have h9:=hb2.size;(try simp at h9);omega);have hz21:w.heap.size+1<w2.heap.size:=(by have h9:=hb2.size;(try simp at h9);omega)))
 go_ret
 exact⟨rfl,(ar)⟩
set_option maxRecDepth 20000 in
set_option maxHeartbeats 1000000 in
theorem szTk_p(a:Option Addr)(len cap:Nat)(xs:List dr)(L:Int)(w:World)(h:eQ w 0 a len xs)(h0:0≤L)(hL:L≤1048576):Calls Tryz.prog 27 #[.slice a len cap,.int .i64 L] w fun e w'=>gG (L - (fD xs:Int)) (len≤1048576∧∀x ∈ xs,x.sm) e∧Below w.heap.size w w':=by
 have hm:=h.2.1
 unfold maxLen at hm
 by_cases h1:(len:Int)≤L
 ·go_enter Tryz.func27,Tryz.ntmps27
  go_wp2
  go_loopw [1,5] (fun lv i wr=>∃(k:Nat) (l:Int),k≤len∧i= .int .i64 k∧lv= .int .i64 l∧0≤l∧l≤L - (fD (xs.take k):Int) - ((len:Int) - (k:Int))∧(∀(i:Nat) (x:dr),i<k→xs[i]? =some x→x.sm)∧Below w.heap.size w wr) (fun _ i _=>len - (intOf i).toNat)
  case atStart=>exact⟨0,_,Nat.zero_le _,rfl,rfl,by omega,by have:=cTk_0 xs;omega,fun i x hi=>absurd hi (by omega),Below.refl _ _⟩
  case round=>
   obtain⟨k,l,hk,rfl,rfl,hl0,hl1,hq,hbw⟩:=hrel
   by_cases hlt:k<len
   ·obtain⟨hxl,hml,hx⟩:=h
    obtain⟨g,o,rfl,_,hr⟩:=hx.resolve_left (by omega)
    obtain⟨x,hxk⟩:∃x,xs[k]? =some x:=⟨_,List.getElem?_eq_getElem (by omega)⟩
    have hX:=ab hxk
    have hct:=ab (cTk_take hxk)
    have hkl:((k+1:Nat):Int)=(k:Int)+1:=by omega
    have hKL:=ab hkl
    clear hkl
    have HQ:=ab hq
    obtain⟨a0,l0,c0,a2,l2,c2,a5,l5,c5,a6,l6,c6,⟨c0z,c1z,c2z,c3z,c4z,c5z,c6z⟩,k0,k2,k5,k6⟩:=(hr k _ hxk).below hbw
    have hsm:=ab (smTk_of x k0.len.1 k2.len.1 k5.len.1 k6.len.1)
    have hcl:=ab (And.intro hxl (And.intro (show x.rows.length=l2 from k2.len.1) (And.intro (show x.ps.length=l5 from k5.len.1) (show x.ls.length=l6 from k6.len.1))))
    clear hx hxk hr hq
    go_wp2_with fail
    refine(szTk_one x a0 l0 c0 a2 l2 c2 a5 l5 c5 a6 l6 c6 l _ k0 k2 k5 k6 hl0 (by omega)).mono ?_
    rintro e w1 ⟨⟨r,rfl,hr⟩,hb⟩
    rcases hr with rfl|⟨h2,h3,h4⟩
    ·go_wp2
     go_ret
     exact⟨⟨_,rfl,Or.inl rfl⟩,(ar)⟩
    ·have HC:Hid (r≤L - (fD (xs.take (k+1)):Int) - ((len:Int) - ((k+1:Nat):Int))):=ab (by
      have h8:=aa hct
      obtain⟨_,f0,f1,f2⟩:=aa hcl
      omega)
     clear hct hcl hKL h3
     have HS:=ab (aa hsm h4)
     clear h4 hsm
     go_wp2
     go_roundw
     case rel=>
      refine⟨k+1,r,by omega,by go_num,rfl,h2,aa HC,fun i y hi hy=>?_,(ar)⟩
      by_cases he:i=k
      ·subst he
       rw[aa hX]at hy
       cases hy
       exact aa HS
      ·exact aa HQ i y (by omega) hy
     case measure=>simp[intOf];omega
   ·go_wp2
    go_ret
    refine⟨⟨_,rfl,Or.inr ⟨hl0,(by have h9:=hl1;rw[List.take_of_length_le (by have:=h.1;omega)]at h9;omega),by omega,fun x hx=>?_⟩⟩,hbw⟩
    obtain⟨i,hi,rfl⟩:=List.getElem_of_mem hx
    exact hq i _ (by have:=h.1;omega) (List.getElem?_eq_getElem hi)
 ·go_enter Tryz.func27,Tryz.ntmps27
  go_wp2
  go_ret
  exact⟨⟨_,rfl,Or.inl rfl⟩,Below.refl _ _⟩
theorem Tryz.infoTk:(Tryz.prog.info? 140).map (fun i=>(i.zero,i.size,i.bytes))=some (some (.agg #[.slice none 0 0,.int .i64 0,.slice none 0 0,.int .i64 0,.int .i64 0,.slice none 0 0,.slice none 0 0]),7,120):=by kernel_rfl
theorem mkTk(len:Nat)(hl:len≤1048576):∃C:Array Value,C.size=len*7∧∀w:World,(Instr.makeSlice 43 (.int .i64 (len:Int)) (.int .i64 (len:Int))).run Tryz.prog w= .ok (.slice (some ⟨w.heap.size,0,none⟩) len len) (w.alloc (.cells C 140)):=by
 obtain⟨i0,hi,hz0,hz1,hz2⟩:=info_parts Tryz.infoTk
 refine⟨madeCells (Value.agg #[.slice none 0 0,.int .i64 0,.slice none 0 0,.int .i64 0,.int .i64 0,.slice none 0 0,.slice none 0 0]).cells (len*i0.size),by rw[size_madeCells,hz1],fun w=>?_⟩
 have h:=run_make (P:=Tryz.prog) w 43 140 i0 _ Tryz.underlying43 hi hz0 .i64 .i64 len len (by omega) (Int.le_refl _) (by rw[hz2];omega) (by omega)
 simpa using h
set_option maxRecDepth 20000 in
set_option maxHeartbeats 1000000 in
theorem toTk_b(B:Nat)(a:Option Addr)(len cap:Nat)(xs:List dr)(w:World)(h:eQ w B a len xs)(hl:len≤1048576∧∀x ∈ xs,x.sm):Calls Tryz.prog 34 #[.slice a len cap] w fun e w'=>∃a',e= .returned (.slice a' len len)∧eQ w' w.heap.size a' len xs∧Below w.heap.size w w':=by
 obtain⟨hl,hq⟩:=hl
 replace h:=h.less (Nat.zero_le B)
 obtain⟨C,hC,hmk⟩:=mkTk len hl
 go_enter Tryz.func34,Tryz.ntmps34
 go_wp2
 go_loopw [4] (fun i wr=>∃k:Nat,k≤len∧i= .int .i64 k∧eF wr w.heap.size 140 len (xs.take k)∧Below w.heap.size w wr) (fun i _=>len - (intOf i).toNat)
 case atStart=>exact⟨0,Nat.zero_le _,rfl,eF.start hC xs,ai _ _⟩
 case round=>
  obtain⟨k,hk,rfl,hF,hbw⟩:=hrel
  by_cases hlt:k<len
  ·obtain⟨hxl,hml,hx⟩:=h
   obtain⟨g,o,rfl,_,hr⟩:=hx.resolve_left (by omega)
   obtain⟨x,hxk⟩:∃x,xs[k]? =some x:=⟨_,List.getElem?_eq_getElem (by omega)⟩
   have hX:=ab hxk
   have hqk:=hq x (List.mem_of_getElem? hxk)
   obtain⟨a0,l0,c0,a2,l2,c2,a5,l5,c5,a6,l6,c6,⟨c0z,c1z,c2z,c3z,c4z,c5z,c6z⟩,k0,k2,k5,k6⟩:=(hr k _ hxk).below hbw
   obtain⟨m0,m2,m5,m6⟩:=of_smTk x k0.len.1 k2.len.1 k5.len.1 k6.len.1 hqk
   obtain⟨u0,d0⟩:=hF.1.cell (i:=k*7) (by omega)
   have f0:=hF.1.frozen (i:=k*7)
   obtain⟨u1,d1⟩:=hF.1.cell (i:=k*7+1) (by omega)
   have f1:=hF.1.frozen (i:=k*7+1)
   obtain⟨u2,d2⟩:=hF.1.cell (i:=k*7+2) (by omega)
   have f2:=hF.1.frozen (i:=k*7+2)
   obtain⟨u3,d3⟩:=hF.1.cell (i:=k*7+3) (by omega)
   have f3:=hF.1.frozen (i:=k*7+3)
   obtain⟨u4,d4⟩:=hF.1.cell (i:=k*7+4) (by omega)
   have f4:=hF.1.frozen (i:=k*7+4)
   obtain⟨u5,d5⟩:=hF.1.cell (i:=k*7+5) (by omega)
   have f5:=hF.1.frozen (i:=k*7+5)
   obtain⟨u6,d6⟩:=hF.1.cell (i:=k*7+6) (by omega)
   have f6:=hF.1.frozen (i:=k*7+6)
   have hz:=hF.1.lt
   clear hx hxk hr hqk
   go_wp2_with (go_at_call 68;refine(toTk_one x a0 l0 c0 a2 l2 c2 a5 l5 c5 a6 l6 c6 _ k0 k2 k5 k6 m0 m2 m5 m6).mono ?_;rintro e w' ⟨b0,b2,b5,b6,rfl,H0,H2,H5,H6,hb⟩;obtain⟨hc,hf,hs⟩:=ac hb)
   go_roundw
   case rel=>exact⟨k+1,by omega,by go_num,hF.step hb hlt (aa hX) (H0.less (by omega)) (H2.less (by omega)) (H5.less (by omega)) (H6.less (by omega)),below_setTk (ae hbw hb) (Nat.le_refl _)⟩
   case measure=>simp[intOf];omega
  ·go_wp2
   go_ret
   exact⟨_,rfl,hF.done (by have:=h.1;omega) h.1 h.2.1,hbw⟩
set_option maxRecDepth 20000 in
set_option maxHeartbeats 1000000 in
theorem eqTk_b(B1 B2:Nat)(a1 a2:Option Addr)(len cap1 cap2:Nat)(xs:List dr)(w:World)(h1:eQ w B1 a1 len xs)(h2:eQ w B2 a2 len xs):Calls Tryz.prog 42 #[.slice a1 len cap1,.slice a2 len cap2] w fun e w'=>e= .returned (.bool true)∧Below w.heap.size w w':=by
 have hm:=h1.2.1
 unfold maxLen at hm
 go_enter Tryz.func42,Tryz.ntmps42
 go_wp2
 go_loopw [5] (fun i wr=>∃k:Nat,k≤len∧i= .int .i64 k∧Below w.heap.size w wr) (fun i _=>len - (intOf i).toNat)
 case atStart=>exact⟨0,Nat.zero_le _,rfl,Below.refl _ _⟩
 case round=>
  obtain⟨k,hk,rfl,hbw⟩:=hrel
  by_cases hlt:k<len
  ·obtain⟨hl1,_,hx1⟩:=h1
   obtain⟨hl2,_,hx2⟩:=h2
   obtain⟨g1,o1,rfl,_,hr1⟩:=hx1.resolve_left (by omega)
   obtain⟨g2,o2,rfl,_,hr2⟩:=hx2.resolve_left (by omega)
   obtain⟨x,hxk⟩:∃x,xs[k]? =some x:=⟨_,List.getElem?_eq_getElem (by omega)⟩
   have t1:=(hr1 k _ hxk).below hbw
   have t2:=(hr2 k _ hxk).below hbw
   have hs1:=t1.lt
   have hs2:=t2.lt
   obtain⟨a0x,l0,c0x,a2x,l2,c2x,a5x,l5,c5x,a6x,l6,c6x,⟨c0z,c1z,c2z,c3z,c4z,c5z,c6z⟩,k0x,k2x,k5x,k6x⟩:=t1
   obtain⟨a0y,l0y,c0y,a2y,l2y,c2y,a5y,l5y,c5y,a6y,l6y,c6y,⟨d0z,d1z,d2z,d3z,d4z,d5z,d6z⟩,k0y,k2y,k5y,k6y⟩:=t2
   obtain rfl:l0=l0y:=by have e1:=k0x.len.1;have e2:=k0y.len.1;omega
   obtain rfl:l2=l2y:=by have e1:=k2x.len.1;have e2:=k2y.len.1;omega
   obtain rfl:l5=l5y:=by have e1:=k5x.len.1;have e2:=k5y.len.1;omega
   obtain rfl:l6=l6y:=by have e1:=k6x.len.1;have e2:=k6y.len.1;omega
   have hS:((wr.cell? ⟨g1,o1+k*7,none⟩=some (.slice a0x l0 c0x)∧wr.cell? ⟨g1,o1+k*7+1,none⟩=some (.int .i64 x.om)∧wr.cell? ⟨g1,o1+k*7+2,none⟩=some (.slice a2x l2 c2x)∧wr.cell? ⟨g1,o1+k*7+3,none⟩=some (.int .i64 x.wl)∧wr.cell? ⟨g1,o1+k*7+4,none⟩=some (.int .i64 x.pn)∧wr.cell? ⟨g1,o1+k*7+5,none⟩=some (.slice a5x l5 c5x)∧wr.cell? ⟨g1,o1+k*7+6,none⟩=some (.slice a6x l6 c6x)∧wr.cell? ⟨g2,o2+k*7,none⟩=some (.slice a0y l0 c0y)∧wr.cell? ⟨g2,o2+k*7+1,none⟩=some (.int .i64 x.om)∧wr.cell? ⟨g2,o2+k*7+2,none⟩=some (.slice a2y l2 c2y)∧wr.cell? ⟨g2,o2+k*7+3,none⟩=some (.int .i64 x.wl)∧wr.cell? ⟨g2,o2+k*7+4,none⟩=some (.int .i64 x.pn)∧wr.cell? ⟨g2,o2+k*7+5,none⟩=some (.slice a5y l5 c5y)∧wr.cell? ⟨g2,o2+k*7+6,none⟩=some (.slice a6y l6 c6y))∧g1<wr.heap.size∧g2<wr.heap.size):=⟨⟨c0z,c1z,c2z,c3z,c4z,c5z,c6z,d0z,d1z,d2z,d3z,d4z,d5z,d6z⟩,hs1,hs2⟩
   clear hx1 hx2 hxk hr1 hr2
   go_wp2
   go_region_held3 (fun W=>((W.cell? ⟨g1,o1+k*7,none⟩=some (.slice a0x l0 c0x)∧W.cell? ⟨g1,o1+k*7+1,none⟩=some (.int .i64 x.om)∧W.cell? ⟨g1,o1+k*7+2,none⟩=some (.slice a2x l2 c2x)∧W.cell? ⟨g1,o1+k*7+3,none⟩=some (.int .i64 x.wl)∧W.cell? ⟨g1,o1+k*7+4,none⟩=some (.int .i64 x.pn)∧W.cell? ⟨g1,o1+k*7+5,none⟩=some (.slice a5x l5 c5x)∧W.cell? ⟨g1,o1+k*7+6,none⟩=some (.slice a6x l6 c6x)∧W.cell? ⟨g2,o2+k*7,none⟩=some (.slice a0y l0 c0y)∧W.cell? ⟨g2,o2+k*7+1,none⟩=some (.int .i64 x.om)∧W.cell? ⟨g2,o2+k*7+2,none⟩=some (.slice a2y l2 c2y)∧W.cell? ⟨g2,o2+k*7+3,none⟩=some (.int .i64 x.wl)∧W.cell? ⟨g2,o2+k*7+4,none⟩=some (.int .i64 x.pn)∧W.cell? ⟨g2,o2+k*7+5,none⟩=some (.slice a5y l5 c5y)∧W.cell? ⟨g2,o2+k*7+6,none⟩=some (.slice a6y l6 c6y))∧g1<W.heap.size∧g2<W.heap.size)) ((first|((repeat(first|(with_reducible assumption)|(with_reducible refine gl ?_ (jF))|(with_reducible refine gl ?_ (aj (Below.refl _ _)))|(with_reducible refine gl ?_ (ai _ _))));done)|(refine⟨⟨?_,?_,?_,?_,?_,?_,?_,?_,?_,?_,?_,?_,?_,?_⟩,?_,?_⟩<;>first|(go_keep;done)|(simp;done)|(simp;omega)|omega)))
    (first
    |(go_at_call 82;refine(eqTk_one B1 B2 x a0x a0y l0 c0x c0y a2x a2y l2 c2x c2y a5x a5y l5 c5x c5y a6x a6y l6 c6x c6y _ (k0x.below (ak)) (k0y.below (ak)) (k2x.below (ak)) (k2y.below (ak)) (k5x.below (ak)) (k5y.below (ak)) (k6x.below (ak)) (k6y.below (ak))).mono ?_;rintro e w' ⟨rfl,hb⟩;obtain⟨hc,hf,hs⟩:=ac hb))
   go_wp2
   go_roundw
   case rel=>exact⟨k+1,by omega,by go_num,(ak)⟩
   case measure=>simp[intOf];omega
  ·go_wp2
   go_ret
   exact⟨rfl,hbw⟩
/-- A sink. -/
structure bC where
 rd:List cf
 n:Int
 ps:List cx
 ls:List cq
def eZ(W:World)(B g o:Nat)(x:bC):Prop:=∃(a0:Option Addr) (l0 c0:Nat) (a2:Option Addr) (l2 c2:Nat) (a3:Option Addr) (l3 c3:Nat),(W.cell? ⟨g,o,none⟩=some (.slice a0 l0 c0)∧W.cell? ⟨g,o+1,none⟩=some (.int .i64 x.n)∧W.cell? ⟨g,o+2,none⟩=some (.slice a2 l2 c2)∧W.cell? ⟨g,o+3,none⟩=some (.slice a3 l3 c3))∧eX W B a0 l0 x.rd∧cQ W B a2 l2 x.ps∧cS W B a3 l3 x.ls
def fa(W:World)(B:Nat)(a:Option Addr)(len:Nat)(xs:List bC):Prop:=xs.length=len∧len≤maxLen∧(len=0∨∃g o,a=some ⟨g,o,none⟩∧BG W B g∧∀(i:Nat) (x:bC),xs[i]? =some x→eZ W B g (o+i*4) x)
theorem eZ.lt{W:World}{B g o:Nat}{x:bC}(h:eZ W B g o x):g<W.heap.size:=by
 obtain⟨a0,l0,c0,a2,l2,c2,a3,l3,c3,⟨h0,h1,h2,h3⟩,k0,k2,k3⟩:=h
 exact aA h0
theorem eZ.below{W W':World}{B g o:Nat}{x:bC}(h:eZ W B g o x)(hb:Below W.heap.size W W'):eZ W' B g o x:=by
 have hg:=h.lt
 obtain⟨a0,l0,c0,a2,l2,c2,a3,l3,c3,⟨h0,h1,h2,h3⟩,k0,k2,k3⟩:=h
 exact⟨a0,l0,c0,a2,l2,c2,a3,l3,c3,⟨(hb.cell (p:=⟨g,_,none⟩) hg).trans h0,(hb.cell (p:=⟨g,_,none⟩) hg).trans h1,(hb.cell (p:=⟨g,_,none⟩) hg).trans h2,(hb.cell (p:=⟨g,_,none⟩) hg).trans h3⟩,k0.below hb,k2.below hb,k3.below hb⟩
theorem eZ.less{W:World}{B B' g o:Nat}{x:bC}(h:eZ W B g o x)(hB:B'≤B):eZ W B' g o x:=by
 obtain⟨a0,l0,c0,a2,l2,c2,a3,l3,c3,⟨h0,h1,h2,h3⟩,k0,k2,k3⟩:=h
 exact⟨a0,l0,c0,a2,l2,c2,a3,l3,c3,⟨h0,h1,h2,h3⟩,k0.less hB,k2.less hB,k3.less hB⟩
theorem eZ.set{W:World}{B g o:Nat}{p:Addr}{v:Value}{x:bC}(h:eZ W B g o x)(hg:p.block≠g)(hp:p.block<B):eZ (W.setCell p v) B g o x:=by
 obtain⟨a0,l0,c0,a2,l2,c2,a3,l3,c3,⟨h0,h1,h2,h3⟩,k0,k2,k3⟩:=h
 exact⟨a0,l0,c0,a2,l2,c2,a3,l3,c3,⟨(aH hg).trans h0,(aH hg).trans h1,(aH hg).trans h2,(aH hg).trans h3⟩,k0.set hp,k2.set hp,k3.set hp⟩
theorem fa.below{W W':World}{B:Nat}{a:Option Addr}{len:Nat}{xs:List bC}(h:fa W B a len xs)(hb:Below W.heap.size W W'):fa W' B a len xs:=by
 obtain⟨h1,h2,h3⟩:=h
 refine⟨h1,h2,?_⟩
 rcases h3 with h3|⟨g,o,ha,hB9,hr⟩
 ·exact Or.inl h3
 ·exact Or.inr ⟨g,o,ha,hB9.below hb,fun i x hx=>(hr i x hx).below hb⟩
theorem fa.less{W:World}{B B':Nat}{a:Option Addr}{len:Nat}{xs:List bC}(h:fa W B a len xs)(hB:B'≤B):fa W B' a len xs:=by
 obtain⟨h1,h2,h3⟩:=h
 refine⟨h1,h2,?_⟩
 rcases h3 with h3|⟨g,o,ha,hB9,hr⟩
 ·exact Or.inl h3
 ·exact Or.inr ⟨g,o,ha,hB9.less hB,fun i x hx=>(hr i x hx).less hB⟩
theorem fa.set{W:World}{B:Nat}{p:Addr}{v:Value}{a:Option Addr}{len:Nat}{xs:List bC}(h:fa W B a len xs)(hp:p.block<B):fa (W.setCell p v) B a len xs:=by
 obtain⟨h1,h2,h3⟩:=h
 refine⟨h1,h2,?_⟩
 rcases h3 with h3|⟨g,o,ha,hB9,hr⟩
 ·exact Or.inl h3
 ·exact Or.inr ⟨g,o,ha,hB9.set hp,fun i x hx=>(hr i x hx).set (by have:=hB9.1;omega) hp⟩
theorem fa.len{W:World}{B:Nat}{a:Option Addr}{len:Nat}{xs:List bC}(h:fa W B a len xs):xs.length=len∧len≤maxLen:=⟨h.1,h.2.1⟩
/-- A block of such, known whole; one that is being filled. -/
def iN(W:World)(g o:Nat)(v0 v1 v2 v3:Value):World:=((((W.setCell ⟨g,o,none⟩ v0).setCell ⟨g,o+1,none⟩ v1).setCell ⟨g,o+2,none⟩ v2).setCell ⟨g,o+3,none⟩ v3)
def dE(W:World)(g ty len:Nat):Prop:=∃cur,W.heap[g]? =some (.cells cur ty (0,0))∧cur.size=len*4
theorem dE.set{W:World}{g ty len i:Nat}(h:dE W g ty len)(v:Value):dE (W.setCell ⟨g,i,none⟩ v) g ty len:=by
 obtain⟨cur,h1,h2⟩:=h
 exact⟨_,Joins.block_setCell h1 v,by simp[h2]⟩
theorem dE.below{W W':World}{g ty len B:Nat}(h:dE W g ty len)(hb:Below B W W')(hg:g<B):dE W' g ty len:=by
 obtain⟨cur,h1,h2⟩:=h
 exact⟨cur,(hb.block g hg).trans h1,h2⟩
theorem dE.lt{W:World}{g ty len:Nat}(h:dE W g ty len):g<W.heap.size:=by
 obtain⟨cur,h1,h2⟩:=h
 exact(Array.getElem?_eq_some_iff.1 h1).1
theorem dE.cell{W:World}{g ty len i:Nat}(h:dE W g ty len)(hi:i<len*4):∃u,W.cell? ⟨g,i,none⟩=some u:=by
 obtain⟨cur,h1,h2⟩:=h
 exact⟨_,(cA h1 i).trans (Array.getElem?_eq_getElem (by omega))⟩
theorem dE.frozen{W:World}{g ty len i:Nat}(h:dE W g ty len):W.frozen? ⟨g,i,none⟩=false:=by
 obtain⟨cur,h1,h2⟩:=h
 exact Joins.unfrozen_of_block h1 i
theorem gJ{W:World}{g ty len i:Nat}{v:Value}(h:dE W g ty len)(hi:i<len*4):(W.setCell ⟨g,i,none⟩ v).cell? ⟨g,i,none⟩=some v:=by
 obtain⟨u,hu⟩:=h.cell hi
 exact World.cell?_setCell_same _ _ _ hu
theorem setSk_this{W:World}{g ty len k:Nat}{x:bC}{a0:Option Addr}{l0 c0:Nat}{a2:Option Addr}{l2 c2:Nat}{a3:Option Addr}{l3 c3:Nat}(h:dE W g ty len)(hk:k<len)(k0:eX W (g+1) a0 l0 x.rd)(k2:cQ W (g+1) a2 l2 x.ps)(k3:cS W (g+1) a3 l3 x.ls):eZ (iN W g (k*4) (.slice a0 l0 c0) (.int .i64 x.n) (.slice a2 l2 c2) (.slice a3 l3 c3)) (g+1) g (k*4) x:=by
 unfold iN
 refine⟨a0,l0,c0,a2,l2,c2,a3,l3,c3,⟨?_,?_,?_,?_⟩,((((k0.set (by simp)).set (by simp)).set (by simp)).set (by simp)),((((k2.set (by simp)).set (by simp)).set (by simp)).set (by simp)),((((k3.set (by simp)).set (by simp)).set (by simp)).set (by simp))⟩
 ·(repeat rw[am (by omega)]);rw[gJ h (by omega)]
 ·rw[am (by omega),am (by omega),gJ (h.set _) (by omega)]
 ·rw[am (by omega),gJ ((h.set _).set _) (by omega)]
 ·rw[gJ (((h.set _).set _).set _) (by omega)]
theorem setSk_ne{W:World}{g i k:Nat}{x:bC}{v0 v1 v2 v3:Value}(h:eZ W (g+1) g (i*4) x)(hk:i≠k):eZ (iN W g (k*4) v0 v1 v2 v3) (g+1) g (i*4) x:=by
 unfold iN
 obtain⟨a0,l0,c0,a2,l2,c2,a3,l3,c3,⟨h0,h1,h2,h3⟩,k0,k2,k3⟩:=h
 refine⟨a0,l0,c0,a2,l2,c2,a3,l3,c3,⟨?_,?_,?_,?_⟩,((((k0.set (by simp)).set (by simp)).set (by simp)).set (by simp)),((((k2.set (by simp)).set (by simp)).set (by simp)).set (by simp)),((((k3.set (by simp)).set (by simp)).set (by simp)).set (by simp))⟩
 ·rw[am (by omega),am (by omega),am (by omega),am (by omega)];exact h0
 ·rw[am (by omega),am (by omega),am (by omega),am (by omega)];exact h1
 ·rw[am (by omega),am (by omega),am (by omega),am (by omega)];exact h2
 ·rw[am (by omega),am (by omega),am (by omega),am (by omega)];exact h3
def eG(W:World)(g ty len:Nat)(ys:List bC):Prop:=dE W g ty len∧∀(i:Nat) (x:bC),ys[i]? =some x→eZ W (g+1) g (i*4) x
theorem eG.step{wr w':World}{g ty len k:Nat}{xs:List bC}{x:bC}{a0:Option Addr}{l0 c0:Nat}{a2:Option Addr}{l2 c2:Nat}{a3:Option Addr}{l3 c3:Nat}(h:eG wr g ty len (xs.take k))(hb:Below wr.heap.size wr w')(hk:k<len)(hx:xs[k]? =some x)(k0:eX w' (g+1) a0 l0 x.rd)(k2:cQ w' (g+1) a2 l2 x.ps)(k3:cS w' (g+1) a3 l3 x.ls):eG (iN w' g (k*4) (.slice a0 l0 c0) (.int .i64 x.n) (.slice a2 l2 c2) (.slice a3 l3 c3)) g ty len (xs.take (k+1)):=by
 have hB:=h.1.below hb h.1.lt
 refine⟨((((hB.set _).set _).set _).set _),fun i y hy=>?_⟩
 have hik:i<k+1:=by
  rcases Nat.lt_or_ge i (k+1)with h'|h'
  ·exact h'
  ·rw[List.getElem?_eq_none (jJ)]at hy;cases hy
 rw[List.getElem?_take_of_lt hik]at hy
 by_cases he:i=k
 ·subst he
  rw[hx]at hy
  cases hy
  exact setSk_this hB hk k0 k2 k3
 ·refine setSk_ne ?_ he
  exact(h.2 i y (by rw[List.getElem?_take_of_lt (by omega)];exact hy)).below hb
theorem eG.start{w:World}{ty len:Nat}{C:Array Value}(hC:C.size=len*4)(xs:List bC):eG (w.alloc (.cells C ty)) w.heap.size ty len (xs.take 0):=
 ⟨⟨C,by show(w.heap.push _)[w.heap.size]? =_;simp,hC⟩,fun i x h=>by simp at h⟩
theorem eG.done{W:World}{g ty len k:Nat}{xs:List bC}(h:eG W g ty len (xs.take k))(hk:xs.length≤k)(hl:xs.length=len)(hm:len≤maxLen):fa W g (some ⟨g,0,none⟩) len xs:=by
 refine⟨hl,hm,Or.inr ⟨g,0,rfl,(by obtain⟨c9,e9,_⟩:=h.1;exact BG.of (Nat.le_refl _) e9),fun i x hx=>?_⟩⟩
 rw[List.take_of_length_le hk]at h
 have:=(h.2 i x hx).less (B':=g) (by omega)
 simpa using this
theorem below_setSk{B g o:Nat}{W W':World}{v0 v1 v2 v3:Value}(h:Below B W W')(hg:B≤g):Below B W (iN W' g o v0 v1 v2 v3):=((((h.setCell hg _).setCell hg _).setCell hg _).setCell hg _)
section
variable {H : Type} {enc : TypeId × Value → H} {P : Program} {w : World} {base : Nat} {spare : Nat → Bool} {held : Bool}
def bC.ok64(x:bC):Prop:=(∀y ∈ x.rd,y.ok64)∧(-9223372036854775808≤x.n∧x.n≤9223372036854775807)∧(∀y ∈ x.ps,y.ok64)∧(∀y ∈ x.ls,y.ok64)
theorem cellsSk{a:Addr}{cs:List Value}{t0 e0:TypeId}{t2 e2:TypeId}{t3 e3:TypeId}{s0 f0 q0 g0:TypeId}(u0a:P.underlying t0=some (.slice e0))(u0b:dw P 5 e0=some [.i,.s s0,.s q0])(u0c:P.cellsOf e0=3)(u0d:P.underlying s0=some (.slice f0))(u0e:bf P 5 f0=some [false,false,false,false,false,false,false,false,false])(u0f:P.cellsOf f0=9)(u0g:P.underlying q0=some (.slice g0))(u0h:bf P 5 g0=some [false,false,false,false,false,false,false])(u0i:P.cellsOf g0=7)(u2a:P.underlying t2=some (.slice e2))(u2b:bf P 5 e2=some [false,false,false,false,false,false,false,false,false])(u2c:P.cellsOf e2=9)(u3a:P.underlying t3=some (.slice e3))(u3b:bf P 5 e3=some [false,false,false,false,false,false,false])(u3c:P.cellsOf e3=7)(h:w.cells? base a 4=some cs)(f0:cj enc P w base spare held cs [.s t0,.i,.s t2,.s t3]):a.spot=none∧∃x:bC,eZ w 0 a.block a.off x∧x.ok64:=by
 obtain⟨a0,l0,c0,d0,p0,r0,rfl,y0,f1⟩:=fitT_s f0
 obtain⟨z1,r1,rfl,y1,f2⟩:=fitT_i f1
 obtain⟨a2,l2,c2,d2,p2,r2,rfl,y2,f3⟩:=fitT_s f2
 obtain⟨a3,l3,c3,d3,p3,r3,rfl,y3,f4⟩:=fitT_s f3
 obtain rfl:=fitT_nil f4
 clear f0 f1 f2 f3 f4
 obtain⟨x0,q0,o0⟩:=openTx u0a u0b u0c u0d u0e u0f u0g u0h u0i y0
 obtain⟨x2,q2,o2⟩:=openPn u2a u2b u2c y2
 obtain⟨x3,q3,o3⟩:=openLp u3a u3b u3c y3
 obtain⟨_,hlen,hc⟩:=World.cells?_some h
 have b0:=hc 0 (by omega)
 have b1:=hc 1 (by omega)
 have b2:=hc 2 (by omega)
 have b3:=hc 3 (by omega)
 obtain⟨g,o,sp⟩:=a
 have ha0:(⟨g,o,sp⟩:Addr).add 0=⟨g,o,sp⟩:=by simp[Addr.add]
 have hsp:sp=none:=World.cell?_spot (w:=w) (a:=⟨g,o,sp⟩) (v:= .slice a0 l0 c0) (by rw[←ha0];simpa using b0)
 subst hsp
 exact⟨rfl,⟨x0,z1,x2,x3⟩,⟨a0,l0,c0,a2,l2,c2,a3,l3,c3,⟨by simpa[Addr.add]using b0,by simpa[Addr.add]using b1,by simpa[Addr.add]using b2,by simpa[Addr.add]using b3⟩,q0,⟨q2,fun g9 _ _ _=>BG.zero _ g9⟩,⟨q3,fun g9 _ _ _=>BG.zero _ g9⟩⟩,o0,aW y1,o2,o3⟩
theorem openSk{t e:TypeId}{t0 e0:TypeId}{t2 e2:TypeId}{t3 e3:TypeId}{a:Option Addr}{len cap:Nat}{d:DataW H}{p:List MemPlace}(ht:P.underlying t=some (.slice e))(hk:dw P 5 e=some [.s t0,.i,.s t2,.s t3])(hC:P.cellsOf e=4){s0 f0 q0 g0:TypeId}(u0a:P.underlying t0=some (.slice e0))(u0b:dw P 5 e0=some [.i,.s s0,.s q0])(u0c:P.cellsOf e0=3)(u0d:P.underlying s0=some (.slice f0))(u0e:bf P 5 f0=some [false,false,false,false,false,false,false,false,false])(u0f:P.cellsOf f0=9)(u0g:P.underlying q0=some (.slice g0))(u0h:bf P 5 g0=some [false,false,false,false,false,false,false])(u0i:P.cellsOf g0=7)(u2a:P.underlying t2=some (.slice e2))(u2b:bf P 5 e2=some [false,false,false,false,false,false,false,false,false])(u2c:P.cellsOf e2=9)(u3a:P.underlying t3=some (.slice e3))(u3b:bf P 5 e3=some [false,false,false,false,false,false,false])(u3c:P.cellsOf e3=7)
  (h:DataW.Trod enc P w base spare held t (.slice a len cap) d p):∃xs:List bC,fa w 0 a len xs∧∀x ∈ xs,x.ok64:=by
 obtain⟨fuel,hf⟩:=h
 rcases open_slice ht hf with⟨hcs,_⟩|⟨a',len',cap',m,n,D,Pl,hcs,_,hl,hm,hmm,_,hx⟩
 ·simp[Value.cells]at hcs
  obtain⟨rfl,rfl,rfl⟩:=hcs
  exact⟨[],⟨rfl,Nat.zero_le _,Or.inl rfl⟩,by simp⟩
 ·simp[Value.cells]at hcs
  obtain⟨rfl,rfl,rfl⟩:=hcs
  have hlm:len≤m:=by rw[hmm];split<;>omega
  have hall:∀i,i<len→∃x:bC,(i=0→a'.spot=none)∧eZ w 0 a'.block (a'.off+i*4) x∧x.ok64:=by
   intro i hi
   obtain⟨cs',h1,h2⟩:=hx i (by omega)
   rw[hC]at h1
   obtain⟨hsp,x,hxa,hxo⟩:=cellsSk u0a u0b u0c u0d u0e u0f u0g u0h u0i u2a u2b u2c u3a u3b u3c h1 (cH 5 hk h2)
   have hb:(a'.add (i*4)).block=a'.block∧(a'.add (i*4)).off=a'.off+i*4:=by
    unfold Addr.add
    split
    ·exact⟨rfl,by omega⟩
    ·exact⟨rfl,rfl⟩
   rw[hb.1,hb.2]at hxa
   refine⟨x,fun h0=>?_,hxa,hxo⟩
   subst h0
   simpa[Addr.add]using hsp
  by_cases h0:len=0
  ·subst h0
   exact⟨[],⟨rfl,Nat.zero_le _,Or.inl rfl⟩,by simp⟩
  have hinh:Inhabited bC:=⟨⟨[],0,[],[]⟩⟩
  obtain⟨f,hf'⟩:=choose_lt hall
  have hsp:=(hf' 0 (by omega)).1 rfl
  refine⟨(List.range len).map f,⟨by simp,by omega,Or.inr ⟨a'.block,a'.off,by cases a';simp_all,BG.zero _ _,?_⟩⟩,?_⟩
  ·intro i x hix
   simp only[List.getElem?_map,Option.map_eq_some_iff]at hix
   obtain⟨j,hj,rfl⟩:=hix
   have hil:i<len:=by
    rcases Nat.lt_or_ge i len with h'|h'
    ·exact h'
    ·rw[List.getElem?_eq_none (by simpa using h')]at hj;cases hj
   rw[List.getElem?_eq_getElem (by simpa using hil)]at hj
   simp at hj
   subst hj
   exact(hf' i hil).2.1
  ·intro x hxm
   simp only[List.mem_map,List.mem_range]at hxm
   obtain⟨i,hi,rfl⟩:=hxm
   exact(hf' i hi).2.2
end
def bC.sm(x:bC):Prop:=(x.rd.length≤1048576∧∀y ∈ x.rd,y.sm)∧x.ps.length≤1048576∧x.ls.length≤1048576
theorem smSk_of(x:bC){l0 l2 l3:Nat}(h0:x.rd.length=l0)(h2:x.ps.length=l2)(h3:x.ls.length=l3)(h:(l0≤1048576∧∀y ∈ x.rd,y.sm)∧l2≤1048576∧l3≤1048576):x.sm:=by subst h0;subst h2;subst h3;exact h
theorem of_smSk(x:bC){l0 l2 l3:Nat}(h0:x.rd.length=l0)(h2:x.ps.length=l2)(h3:x.ls.length=l3)(h:x.sm):(l0≤1048576∧∀y ∈ x.rd,y.sm)∧l2≤1048576∧l3≤1048576:=by subst h0;subst h2;subst h3;exact h
/-- How many elements there are, in all of it. -/
def fE:List bC→Nat
 | []=>0
 |x :: xs=>(1+(fd x.rd+x.ps.length+x.ls.length))+fE xs
theorem cSk_app(xs ys:List bC):fE (xs++ys)=fE xs+fE ys:=by
 induction xs with
 |nil=>simp[fE]
 |cons x xs ih=>
  show(1+(fd x.rd+x.ps.length+x.ls.length))+fE (xs++ys)=(1+(fd x.rd+x.ps.length+x.ls.length))+fE xs+fE ys
  omega
theorem cSk_take{xs:List bC}{i:Nat}{x:bC}(h:xs[i]? =some x):fE (xs.take (i+1))=fE (xs.take i)+(1+(fd x.rd+x.ps.length+x.ls.length)):=by
 rw[List.take_add_one,h,cSk_app]
 simp[fE]
theorem cSk_0(xs:List bC):fE (xs.take 0)=0:=by simp[fE]
set_option maxRecDepth 20000 in
set_option maxHeartbeats 1000000 in
theorem szSk_one(x:bC)(a0:Option Addr)(l0 c0:Nat)(a2:Option Addr)(l2 c2:Nat)(a3:Option Addr)(l3 c3:Nat)(L:Int)(w:World)(h0:eX w 0 a0 l0 x.rd)(h2:cQ w 0 a2 l2 x.ps)(h3:cS w 0 a3 l3 x.ls)(h0L:0≤L)(hL:L≤1048576):Calls Tryz.prog 56 #[.agg #[.slice a0 l0 c0,.int .i64 x.n,.slice a2 l2 c2,.slice a3 l3 c3],.int .i64 L] w fun e w'=>gG (L - ((fd x.rd+l2+l3:Nat):Int)) ((l0≤1048576∧∀y ∈ x.rd,y.sm)∧l2≤1048576∧l3≤1048576) e∧Below w.heap.size w w':=by
 go_enter Tryz.func56,Tryz.ntmps56
 go_wp2_with fail
 refine(szTx_p a0 l0 c0 x.rd L _ (h0.below (ar)) (by omega) (by omega)).mono ?_
 rintro e y0 ⟨⟨r0,rfl,hr⟩,hb0⟩
 obtain⟨hc0,hf0,hs0⟩:=ac hb0
 have hz0:w.heap.size<y0.heap.size:=by have h9:=hb0.size;(try simp at h9);omega
 rcases hr with rfl|⟨p0,q0,s0⟩
 ·go_wp2
  go_ret
  exact⟨⟨_,rfl,Or.inl rfl⟩,(ar)⟩
 go_wp2_with fail
 refine(szPn_p a2 l2 c2 r0 _ h2.len.2 (by omega) (by omega)).mono ?_
 rintro e w1x ⟨⟨r1,rfl,hr⟩,hw⟩
 obtain rfl:=hw.symm
 clear hw
 rcases hr with rfl|⟨p1,q1,s1⟩
 ·go_wp2
  go_ret
  exact⟨⟨_,rfl,Or.inl rfl⟩,(ar)⟩
 go_wp2_with fail
 refine(szLp_p a3 l3 c3 r1 _ h3.len.2 (by omega) (by omega)).mono ?_
 rintro e w2x ⟨⟨r2,rfl,hr⟩,hw⟩
 obtain rfl:=hw.symm
 clear hw
 rcases hr with rfl|⟨p2,q2,s2⟩
 ·go_wp2
  go_ret
  exact⟨⟨_,rfl,Or.inl rfl⟩,(ar)⟩
 go_wp2
 go_ret
 exact⟨⟨_,rfl,Or.inr ⟨p2,by omega,s0,s1,s2⟩⟩,(ar)⟩
set_option maxRecDepth 20000 in
set_option maxHeartbeats 2000000 in
theorem toSk_one(x:bC)(a0:Option Addr)(l0 c0:Nat)(a2:Option Addr)(l2 c2:Nat)(a3:Option Addr)(l3 c3:Nat)(w:World)(h0:eX w 0 a0 l0 x.rd)(h2:cQ w 0 a2 l2 x.ps)(h3:cS w 0 a3 l3 x.ls)(m0:(l0≤1048576∧∀y ∈ x.rd,y.sm))(m2:l2≤1048576)(m3:l3≤1048576):Calls Tryz.prog 69 #[.agg #[.slice a0 l0 c0,.int .i64 x.n,.slice a2 l2 c2,.slice a3 l3 c3]] w fun e w'=>∃b0 b2 b3,e= .returned (.agg #[.slice b0 l0 l0,.int .i64 x.n,.slice b2 l2 l2,.slice b3 l3 l3])∧eX w' w.heap.size b0 l0 x.rd∧cQ w' w.heap.size b2 l2 x.ps∧cS w' w.heap.size b3 l3 x.ls∧Below w.heap.size w w':=by
 go_enter Tryz.func69,Tryz.ntmps69
 go_wp2_with (first
  |(go_at_call 119;refine(toTx_b 0 a0 l0 c0 x.rd _ (h0.below (ar)) m0).mono ?_;rintro e' w0 ⟨b0,rfl,H0,hb0⟩;obtain⟨hc0,hf0,hs0⟩:=ac hb0;have hz00:w.heap.size<w0.heap.size:=(by have h9:=hb0.size;(try simp at h9);omega);have hz01:w.heap.size+1<w0.heap.size:=(by have h9:=hb0.size;(try simp at h9);omega);have hz02:w.heap.size+1+1<w0.heap.size:=(by have h9:=hb0.size;(try simp at h9);omega))
  |(go_at_call 120;refine(toPn_b 0 a2 l2 c2 x.ps _ (h2.below (ar)) m2).mono ?_;rintro e' w1 ⟨b2,rfl,H2,hb1⟩;obtain⟨hc1,hf1,hs1⟩:=ac hb1;have hz10:w.heap.size<w1.heap.size:=(by have h9:=hb1.size;(try simp at h9);omega);have hz11:w.heap.size+1<w1.heap.size:=(by have h9:=hb1.size;(try simp at h9);omega);have hz12:w.heap.size+1+1<w1.heap.size:=(by have h9:=hb1.size;(try simp at h9);omega))
  |(go_at_call 121;refine(toLp_b 0 a3 l3 c3 x.ls _ (h3.below (ar)) m3).mono ?_;rintro e' w2 ⟨b3,rfl,H3,hb2⟩;obtain⟨hc2,hf2,hs2⟩:=ac hb2;have hz20:w.heap.size<w2.heap.size:=(by have h9:=hb2.size;(try simp at h9);omega);have hz21:w.heap.size+1<w2.heap.size:=(by have h9:=hb2.size;(try simp at h9);omega);have hz22:w.heap.size+1+1<w2.heap.size:=(by have h9:=hb2.size;(try simp at h9);omega)))
 have G0:eX w0 (w.heap.size+3) b0 l0 x.rd:=H0.less (jH)
 have G2:cQ w1 (w.heap.size+3) b2 l2 x.ps:=H2.less (jH)
 have G3:cS w2 (w.heap.size+3) b3 l3 x.ls:=H3.less (jH)
 refine bodyPost_ret (v:= .agg #[.slice b0 l0 l0,.int .i64 x.n,.slice b2 l2 l2,.slice b3 l3 l3]) (by simp(maxDischargeDepth:=9) [results,Tryz.results69,go_sem, *]) rfl ⟨b0,b2,b3,rfl,eX.less (B:=w.heap.size+3) ?_ (by omega),cQ.less (B:=w.heap.size+3) ?_ (by omega),cS.less (B:=w.heap.size+3) ?_ (by omega),?_⟩
 ·repeat(first|(with_reducible exact G0)|(with_reducible refine eX.set ?_ (jH))|(with_reducible refine eX.below ?_ hb2)|(with_reducible refine eX.below ?_ hb1))
 ·repeat(first|(with_reducible exact G2)|(with_reducible refine cQ.set ?_ (jH))|(with_reducible refine cQ.below ?_ hb2))
 ·repeat(first|(with_reducible exact G3)|(with_reducible refine cS.set ?_ (jH)))
 ·exact(ar)
set_option maxRecDepth 20000 in
set_option maxHeartbeats 1000000 in
theorem eqSk_one(B1 B2:Nat)(x:bC)(a0x a0y:Option Addr)(l0 c0x c0y:Nat)(a2x a2y:Option Addr)(l2 c2x c2y:Nat)(a3x a3y:Option Addr)(l3 c3x c3y:Nat)(w:World)(h0x:eX w B1 a0x l0 x.rd)(h0y:eX w B2 a0y l0 x.rd)(h2x:cQ w B1 a2x l2 x.ps)(h2y:cQ w B2 a2y l2 x.ps)(h3x:cS w B1 a3x l3 x.ls)(h3y:cS w B2 a3y l3 x.ls):Calls Tryz.prog 83 #[.agg #[.slice a0x l0 c0x,.int .i64 x.n,.slice a2x l2 c2x,.slice a3x l3 c3x],.agg #[.slice a0y l0 c0y,.int .i64 x.n,.slice a2y l2 c2y,.slice a3y l3 c3y]] w fun e w'=>e= .returned (.bool true)∧Below w.heap.size w w':=by
 go_enter Tryz.func83,Tryz.ntmps83
 go_wp2_with (first
  |(go_at_call 137;refine(eqTx_b B1 B2 a0x a0y l0 c0x c0y x.rd _ (h0x.below (ar)) (h0y.below (ar))).mono ?_;rintro e' w0 ⟨rfl,hb0⟩;obtain⟨hc0,hf0,hs0⟩:=ac hb0;have hz00:w.heap.size<w0.heap.size:=(by have h9:=hb0.size;(try simp at h9);omega);have hz01:w.heap.size+1<w0.heap.size:=(by have h9:=hb0.size;(try simp at h9);omega))
  |(go_at_call 10;refine(eqPn_b B1 B2 a2x a2y l2 c2x c2y x.ps _ (h2x.below (ar)) (h2y.below (ar))).mono ?_;rintro e' w1 ⟨rfl,hb1⟩;obtain⟨hc1,hf1,hs1⟩:=ac hb1;have hz10:w.heap.size<w1.heap.size:=(by have h9:=hb1.size;(try simp at h9);omega);have hz11:w.heap.size+1<w1.heap.size:=(by have h9:=hb1.size;(try simp at h9);omega))
  |(go_at_call 17;refine(eqLp_b B1 B2 a3x a3y l3 c3x c3y x.ls _ (h3x.below (ar)) (h3y.below (ar))).mono ?_;rintro e' w2 ⟨rfl,hb2⟩;obtain⟨hc2,hf2,hs2⟩:=ac hb2;have hz20:w.heap.size<w2.heap.size:=(by have h9:=hb2.size;(try simp at h9);omega);have hz21:w.heap.size+1<w2.heap.size:=(by have h9:=hb2.size;(try simp at h9);omega)))
 go_ret
 exact⟨rfl,(ar)⟩
set_option maxRecDepth 20000 in
set_option maxHeartbeats 1000000 in
theorem szSk_p(a:Option Addr)(len cap:Nat)(xs:List bC)(L:Int)(w:World)(h:fa w 0 a len xs)(h0:0≤L)(hL:L≤1048576):Calls Tryz.prog 28 #[.slice a len cap,.int .i64 L] w fun e w'=>gG (L - (fE xs:Int)) (len≤1048576∧∀x ∈ xs,x.sm) e∧Below w.heap.size w w':=by
 have hm:=h.2.1
 unfold maxLen at hm
 by_cases h1:(len:Int)≤L
 ·go_enter Tryz.func28,Tryz.ntmps28
  go_wp2
  go_loopw [1,5] (fun lv i wr=>∃(k:Nat) (l:Int),k≤len∧i= .int .i64 k∧lv= .int .i64 l∧0≤l∧l≤L - (fE (xs.take k):Int) - ((len:Int) - (k:Int))∧(∀(i:Nat) (x:bC),i<k→xs[i]? =some x→x.sm)∧Below w.heap.size w wr) (fun _ i _=>len - (intOf i).toNat)
  case atStart=>exact⟨0,_,Nat.zero_le _,rfl,rfl,by omega,by have:=cSk_0 xs;omega,fun i x hi=>absurd hi (by omega),Below.refl _ _⟩
  case round=>
   obtain⟨k,l,hk,rfl,rfl,hl0,hl1,hq,hbw⟩:=hrel
   by_cases hlt:k<len
   ·obtain⟨hxl,hml,hx⟩:=h
    obtain⟨g,o,rfl,_,hr⟩:=hx.resolve_left (by omega)
    obtain⟨x,hxk⟩:∃x,xs[k]? =some x:=⟨_,List.getElem?_eq_getElem (by omega)⟩
    have hX:=ab hxk
    have hct:=ab (cSk_take hxk)
    have hkl:((k+1:Nat):Int)=(k:Int)+1:=by omega
    have hKL:=ab hkl
    clear hkl
    have HQ:=ab hq
    obtain⟨a0,l0,c0,a2,l2,c2,a3,l3,c3,⟨c0z,c1z,c2z,c3z⟩,k0,k2,k3⟩:=(hr k _ hxk).below hbw
    have hsm:=ab (smSk_of x k0.len.1 k2.len.1 k3.len.1)
    have hcl:=ab (And.intro hxl (And.intro (show x.ps.length=l2 from k2.len.1) (show x.ls.length=l3 from k3.len.1)))
    clear hx hxk hr hq
    go_wp2_with fail
    refine(szSk_one x a0 l0 c0 a2 l2 c2 a3 l3 c3 l _ k0 k2 k3 hl0 (by omega)).mono ?_
    rintro e w1 ⟨⟨r,rfl,hr⟩,hb⟩
    rcases hr with rfl|⟨h2,h3,h4⟩
    ·go_wp2
     go_ret
     exact⟨⟨_,rfl,Or.inl rfl⟩,(ar)⟩
    ·have HC:Hid (r≤L - (fE (xs.take (k+1)):Int) - ((len:Int) - ((k+1:Nat):Int))):=ab (by
      have h8:=aa hct
      obtain⟨_,f0,f1⟩:=aa hcl
      omega)
     clear hct hcl hKL h3
     have HS:=ab (aa hsm h4)
     clear h4 hsm
     go_wp2
     go_roundw
     case rel=>
      refine⟨k+1,r,by omega,by go_num,rfl,h2,aa HC,fun i y hi hy=>?_,(ar)⟩
      by_cases he:i=k
      ·subst he
       rw[aa hX]at hy
       cases hy
       exact aa HS
      ·exact aa HQ i y (by omega) hy
     case measure=>simp[intOf];omega
   ·go_wp2
    go_ret
    refine⟨⟨_,rfl,Or.inr ⟨hl0,(by have h9:=hl1;rw[List.take_of_length_le (by have:=h.1;omega)]at h9;omega),by omega,fun x hx=>?_⟩⟩,hbw⟩
    obtain⟨i,hi,rfl⟩:=List.getElem_of_mem hx
    exact hq i _ (by have:=h.1;omega) (List.getElem?_eq_getElem hi)
 ·go_enter Tryz.func28,Tryz.ntmps28
  go_wp2
  go_ret
  exact⟨⟨_,rfl,Or.inl rfl⟩,Below.refl _ _⟩
theorem Tryz.infoSk:(Tryz.prog.info? 74).map (fun i=>(i.zero,i.size,i.bytes))=some (some (.agg #[.slice none 0 0,.int .i64 0,.slice none 0 0,.slice none 0 0]),4,80):=by kernel_rfl
theorem mkSk(len:Nat)(hl:len≤1048576):∃C:Array Value,C.size=len*4∧∀w:World,(Instr.makeSlice 44 (.int .i64 (len:Int)) (.int .i64 (len:Int))).run Tryz.prog w= .ok (.slice (some ⟨w.heap.size,0,none⟩) len len) (w.alloc (.cells C 74)):=by
 obtain⟨i0,hi,hz0,hz1,hz2⟩:=info_parts Tryz.infoSk
 refine⟨madeCells (Value.agg #[.slice none 0 0,.int .i64 0,.slice none 0 0,.slice none 0 0]).cells (len*i0.size),by rw[size_madeCells,hz1],fun w=>?_⟩
 have h:=run_make (P:=Tryz.prog) w 44 74 i0 _ Tryz.underlying44 hi hz0 .i64 .i64 len len (by omega) (Int.le_refl _) (by rw[hz2];omega) (by omega)
 simpa using h
set_option maxRecDepth 20000 in
set_option maxHeartbeats 1000000 in
theorem toSk_b(B:Nat)(a:Option Addr)(len cap:Nat)(xs:List bC)(w:World)(h:fa w B a len xs)(hl:len≤1048576∧∀x ∈ xs,x.sm):Calls Tryz.prog 35 #[.slice a len cap] w fun e w'=>∃a',e= .returned (.slice a' len len)∧fa w' w.heap.size a' len xs∧Below w.heap.size w w':=by
 obtain⟨hl,hq⟩:=hl
 replace h:=h.less (Nat.zero_le B)
 obtain⟨C,hC,hmk⟩:=mkSk len hl
 go_enter Tryz.func35,Tryz.ntmps35
 go_wp2
 go_loopw [4] (fun i wr=>∃k:Nat,k≤len∧i= .int .i64 k∧eG wr w.heap.size 74 len (xs.take k)∧Below w.heap.size w wr) (fun i _=>len - (intOf i).toNat)
 case atStart=>exact⟨0,Nat.zero_le _,rfl,eG.start hC xs,ai _ _⟩
 case round=>
  obtain⟨k,hk,rfl,hF,hbw⟩:=hrel
  by_cases hlt:k<len
  ·obtain⟨hxl,hml,hx⟩:=h
   obtain⟨g,o,rfl,_,hr⟩:=hx.resolve_left (by omega)
   obtain⟨x,hxk⟩:∃x,xs[k]? =some x:=⟨_,List.getElem?_eq_getElem (by omega)⟩
   have hX:=ab hxk
   have hqk:=hq x (List.mem_of_getElem? hxk)
   obtain⟨a0,l0,c0,a2,l2,c2,a3,l3,c3,⟨c0z,c1z,c2z,c3z⟩,k0,k2,k3⟩:=(hr k _ hxk).below hbw
   obtain⟨m0,m2,m3⟩:=of_smSk x k0.len.1 k2.len.1 k3.len.1 hqk
   obtain⟨u0,d0⟩:=hF.1.cell (i:=k*4) (by omega)
   have f0:=hF.1.frozen (i:=k*4)
   obtain⟨u1,d1⟩:=hF.1.cell (i:=k*4+1) (by omega)
   have f1:=hF.1.frozen (i:=k*4+1)
   obtain⟨u2,d2⟩:=hF.1.cell (i:=k*4+2) (by omega)
   have f2:=hF.1.frozen (i:=k*4+2)
   obtain⟨u3,d3⟩:=hF.1.cell (i:=k*4+3) (by omega)
   have f3:=hF.1.frozen (i:=k*4+3)
   have hz:=hF.1.lt
   clear hx hxk hr hqk
   go_wp2_with (go_at_call 69;refine(toSk_one x a0 l0 c0 a2 l2 c2 a3 l3 c3 _ k0 k2 k3 m0 m2 m3).mono ?_;rintro e w' ⟨b0,b2,b3,rfl,H0,H2,H3,hb⟩;obtain⟨hc,hf,hs⟩:=ac hb)
   go_roundw
   case rel=>exact⟨k+1,by omega,by go_num,hF.step hb hlt (aa hX) (H0.less (by omega)) (H2.less (by omega)) (H3.less (by omega)),below_setSk (ae hbw hb) (Nat.le_refl _)⟩
   case measure=>simp[intOf];omega
  ·go_wp2
   go_ret
   exact⟨_,rfl,hF.done (by have:=h.1;omega) h.1 h.2.1,hbw⟩
theorem hd_4_4{b0 b1 a0 a1 a2 a3 c0 c1 c2 c3:Nat}{k0 k1 k2 k3 l0 l1 l2 l3:Value}{W W':World}(h:((W.cell? ⟨b0,a0,none⟩=some k0∧W.cell? ⟨b0,a1,none⟩=some k1∧W.cell? ⟨b0,a2,none⟩=some k2∧W.cell? ⟨b0,a3,none⟩=some k3∧W.cell? ⟨b1,c0,none⟩=some l0∧W.cell? ⟨b1,c1,none⟩=some l1∧W.cell? ⟨b1,c2,none⟩=some l2∧W.cell? ⟨b1,c3,none⟩=some l3)∧b0<W.heap.size∧b1<W.heap.size))(hb:Below W.heap.size W W'):((W'.cell? ⟨b0,a0,none⟩=some k0∧W'.cell? ⟨b0,a1,none⟩=some k1∧W'.cell? ⟨b0,a2,none⟩=some k2∧W'.cell? ⟨b0,a3,none⟩=some k3∧W'.cell? ⟨b1,c0,none⟩=some l0∧W'.cell? ⟨b1,c1,none⟩=some l1∧W'.cell? ⟨b1,c2,none⟩=some l2∧W'.cell? ⟨b1,c3,none⟩=some l3)∧b0<W'.heap.size∧b1<W'.heap.size):=by
 obtain⟨h99,s0,s1⟩:=h
 have e0:∀z,W'.cell? ⟨b0,z,none⟩=W.cell? ⟨b0,z,none⟩:=fun z=>hb.cell s0
 have e1:∀z,W'.cell? ⟨b1,z,none⟩=W.cell? ⟨b1,z,none⟩:=fun z=>hb.cell s1
 refine⟨?_,Nat.lt_of_lt_of_le s0 hb.size,Nat.lt_of_lt_of_le s1 hb.size⟩
 simp only[e0,e1]
 exact h99
set_option maxRecDepth 20000 in
set_option maxHeartbeats 1000000 in
theorem eqSk_b(B1 B2:Nat)(a1 a2:Option Addr)(len cap1 cap2:Nat)(xs:List bC)(w:World)(h1:fa w B1 a1 len xs)(h2:fa w B2 a2 len xs):Calls Tryz.prog 43 #[.slice a1 len cap1,.slice a2 len cap2] w fun e w'=>e= .returned (.bool true)∧Below w.heap.size w w':=by
 have hm:=h1.2.1
 unfold maxLen at hm
 go_enter Tryz.func43,Tryz.ntmps43
 go_wp2
 go_loopw [5] (fun i wr=>∃k:Nat,k≤len∧i= .int .i64 k∧Below w.heap.size w wr) (fun i _=>len - (intOf i).toNat)
 case atStart=>exact⟨0,Nat.zero_le _,rfl,Below.refl _ _⟩
 case round=>
  obtain⟨k,hk,rfl,hbw⟩:=hrel
  by_cases hlt:k<len
  ·obtain⟨hl1,_,hx1⟩:=h1
   obtain⟨hl2,_,hx2⟩:=h2
   obtain⟨g1,o1,rfl,_,hr1⟩:=hx1.resolve_left (by omega)
   obtain⟨g2,o2,rfl,_,hr2⟩:=hx2.resolve_left (by omega)
   obtain⟨x,hxk⟩:∃x,xs[k]? =some x:=⟨_,List.getElem?_eq_getElem (by omega)⟩
   have t1:=(hr1 k _ hxk).below hbw
   have t2:=(hr2 k _ hxk).below hbw
   have hs1:=t1.lt
   have hs2:=t2.lt
   obtain⟨a0x,l0,c0x,a2x,l2,c2x,a3x,l3,c3x,⟨c0z,c1z,c2z,c3z⟩,k0x,k2x,k3x⟩:=t1
   obtain⟨a0y,l0y,c0y,a2y,l2y,c2y,a3y,l3y,c3y,⟨d0z,d1z,d2z,d3z⟩,k0y,k2y,k3y⟩:=t2
   obtain rfl:l0=l0y:=by have e1:=k0x.len.1;have e2:=k0y.len.1;omega
   obtain rfl:l2=l2y:=by have e1:=k2x.len.1;have e2:=k2y.len.1;omega
   obtain rfl:l3=l3y:=by have e1:=k3x.len.1;have e2:=k3y.len.1;omega
   have hS:((wr.cell? ⟨g1,o1+k*4,none⟩=some (.slice a0x l0 c0x)∧wr.cell? ⟨g1,o1+k*4+1,none⟩=some (.int .i64 x.n)∧wr.cell? ⟨g1,o1+k*4+2,none⟩=some (.slice a2x l2 c2x)∧wr.cell? ⟨g1,o1+k*4+3,none⟩=some (.slice a3x l3 c3x)∧wr.cell? ⟨g2,o2+k*4,none⟩=some (.slice a0y l0 c0y)∧wr.cell? ⟨g2,o2+k*4+1,none⟩=some (.int .i64 x.n)∧wr.cell? ⟨g2,o2+k*4+2,none⟩=some (.slice a2y l2 c2y)∧wr.cell? ⟨g2,o2+k*4+3,none⟩=some (.slice a3y l3 c3y))∧g1<wr.heap.size∧g2<wr.heap.size):=⟨⟨c0z,c1z,c2z,c3z,d0z,d1z,d2z,d3z⟩,hs1,hs2⟩
   clear hx1 hx2 hxk hr1 hr2
   go_wp2
   go_region_held3 (fun W=>((W.cell? ⟨g1,o1+k*4,none⟩=some (.slice a0x l0 c0x)∧W.cell? ⟨g1,o1+k*4+1,none⟩=some (.int .i64 x.n)∧W.cell? ⟨g1,o1+k*4+2,none⟩=some (.slice a2x l2 c2x)∧W.cell? ⟨g1,o1+k*4+3,none⟩=some (.slice a3x l3 c3x)∧W.cell? ⟨g2,o2+k*4,none⟩=some (.slice a0y l0 c0y)∧W.cell? ⟨g2,o2+k*4+1,none⟩=some (.int .i64 x.n)∧W.cell? ⟨g2,o2+k*4+2,none⟩=some (.slice a2y l2 c2y)∧W.cell? ⟨g2,o2+k*4+3,none⟩=some (.slice a3y l3 c3y))∧g1<W.heap.size∧g2<W.heap.size)) ((first|((repeat(first|(with_reducible assumption)|(with_reducible refine hd_4_4 ?_ (jF))|(with_reducible refine hd_4_4 ?_ (aj (Below.refl _ _)))|(with_reducible refine hd_4_4 ?_ (ai _ _))));done)|(refine⟨⟨?_,?_,?_,?_,?_,?_,?_,?_⟩,?_,?_⟩<;>first|(go_keep;done)|(simp;done)|(simp;omega)|omega)))
    (first
    |(go_at_call 83;refine(eqSk_one B1 B2 x a0x a0y l0 c0x c0y a2x a2y l2 c2x c2y a3x a3y l3 c3x c3y _ (k0x.below (ak)) (k0y.below (ak)) (k2x.below (ak)) (k2y.below (ak)) (k3x.below (ak)) (k3y.below (ak))).mono ?_;rintro e w' ⟨rfl,hb⟩;obtain⟨hc,hf,hs⟩:=ac hb))
   go_wp2
   go_roundw
   case rel=>exact⟨k+1,by omega,by go_num,(ak)⟩
   case measure=>simp[intOf];omega
  ·go_wp2
   go_ret
   exact⟨rfl,hbw⟩
end Go.Proofs.YtealpjmannopeaaGreat
