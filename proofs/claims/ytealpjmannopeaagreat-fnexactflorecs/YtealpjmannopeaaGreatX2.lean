/- Laid together: what the claim needs of the texts that were built one by one. -/
import Derived.Test.YtealpjmannopeaaGreatX1
import Derived.Test.YtealpjmannopeaaGreatX0
import Derived.Deep.Slices
import Derived.Lib.SmallJoins
import Derived.OwnWalk
import Derived.WalkSpells
import Derived.Deep.RegionHeld3
set_option linter.unusedVariables false
namespace Go.Proofs.YtealpjmannopeaaGreat
open Go.ChangeShapes Go.WideShapes Go.ChangeAt Go.RowKit
/-- A row of 7 numbers. -/
structure cq where
 kd:Int
 tm:Int
 ke:Int
 va:Int
 nn:Int
 st:Int
 en:Int
/-- A row lies in its cells; rows lie one behind the other; a slice's value holds rows. -/
def dA(W:World)(g o:Nat)(x:cq):Prop:=W.cell? ⟨g,o,none⟩=some (.int .i64 x.kd)∧W.cell? ⟨g,o+1,none⟩=some (.int .i64 x.tm)∧W.cell? ⟨g,o+2,none⟩=some (.int .i64 x.ke)∧W.cell? ⟨g,o+3,none⟩=some (.int .i64 x.va)∧W.cell? ⟨g,o+4,none⟩=some (.int .i64 x.nn)∧W.cell? ⟨g,o+5,none⟩=some (.int .i64 x.st)∧W.cell? ⟨g,o+6,none⟩=some (.int .i64 x.en)
def ex(W:World)(g o:Nat)(xs:List cq):Prop:=∀i x,xs[i]? =some x→dA W g (o+i*7) x
def eT(W:World)(a:Option Addr)(len:Nat)(xs:List cq):Prop:=xs.length=len∧len≤maxLen∧(len=0∨∃g o,a=some ⟨g,o,none⟩∧ex W g o xs)
theorem dA.lt{W:World}{g o:Nat}{x:cq}(h:dA W g o x):g<W.heap.size:=by
 obtain⟨h0,_⟩:=h
 rcases Nat.lt_or_ge g W.heap.size with hl|hg
 ·exact hl
 ·simp[World.cell?,Array.getElem?_eq_none hg]at h0
theorem ex.lt{W:World}{g o:Nat}{xs:List cq}(h:ex W g o xs)(hp:0<xs.length):g<W.heap.size:=(h 0 xs[0] (List.getElem?_eq_getElem hp)).lt
theorem dA.below{W W':World}{B g o:Nat}{x:cq}(h:dA W g o x)(hb:Below B W W')(hg:g<B):dA W' g o x:=by
 obtain⟨h0,h1,h2,h3,h4,h5,h6⟩:=h
 exact⟨(hb.cell (p:=⟨g,_,none⟩) hg).trans h0,(hb.cell (p:=⟨g,_,none⟩) hg).trans h1,(hb.cell (p:=⟨g,_,none⟩) hg).trans h2,(hb.cell (p:=⟨g,_,none⟩) hg).trans h3,(hb.cell (p:=⟨g,_,none⟩) hg).trans h4,(hb.cell (p:=⟨g,_,none⟩) hg).trans h5,(hb.cell (p:=⟨g,_,none⟩) hg).trans h6⟩
theorem ex.below{W W':World}{B g o:Nat}{xs:List cq}(h:ex W g o xs)(hb:Below B W W')(hg:0<xs.length→g<B):ex W' g o xs:=by
 intro i x hx
 have hlt:i<xs.length:=(List.getElem?_eq_some_iff.1 hx).1
 exact(h i x hx).below hb (hg (by omega))
theorem eT.below{W W':World}{a:Option Addr}{len:Nat}{xs:List cq}(h:eT W a len xs)(hb:Below W.heap.size W W'):eT W' a len xs:=by
 obtain⟨h1,h2,h3⟩:=h
 refine⟨h1,h2,?_⟩
 rcases h3 with h3|⟨g,o,ha,hr⟩
 ·exact Or.inl h3
 ·exact Or.inr ⟨g,o,ha,hr.below hb (fun hp=>hr.lt hp)⟩
theorem dA.grown{W W':World}{row:Option Nat}{g o:Nat}{x:cq}(h:dA W g o x)(hg:W.grownBy W' row)(hne:some g≠row):dA W' g o x:=by
 have hbk:=hg.block g h.lt hne
 obtain⟨h0,h1,h2,h3,h4,h5,h6⟩:=h
 exact⟨(World.cell?_of_block (w:=W) hbk).trans h0,(World.cell?_of_block (w:=W) hbk).trans h1,(World.cell?_of_block (w:=W) hbk).trans h2,(World.cell?_of_block (w:=W) hbk).trans h3,(World.cell?_of_block (w:=W) hbk).trans h4,(World.cell?_of_block (w:=W) hbk).trans h5,(World.cell?_of_block (w:=W) hbk).trans h6⟩
theorem eT.grown{W W':World}{row:Option Nat}{a:Option Addr}{n:Nat}{xs:List cq}(h:eT W a n xs)(hg:W.grownBy W' row)(hne:∀g o,0<n→a=some ⟨g,o,none⟩→some g≠row):eT W' a n xs:=by
 obtain⟨h1,h2,h3⟩:=h
 refine⟨h1,h2,?_⟩
 rcases h3 with h3|⟨g,o,ha,hr⟩
 ·exact Or.inl h3
 ·refine Or.inr ⟨g,o,ha,fun i x hx=>(hr i x hx).grown hg (hne g o ?_ ha)⟩
  have hlt:i<xs.length:=(List.getElem?_eq_some_iff.1 hx).1
  omega
/-- A row is stored; a block of rows, known whole. -/
def gY(W:World)(g o:Nat)(x:cq):World:=(((((((W.setCell ⟨g,o,none⟩ (.int .i64 x.kd)).setCell ⟨g,o+1,none⟩ (.int .i64 x.tm)).setCell ⟨g,o+2,none⟩ (.int .i64 x.ke)).setCell ⟨g,o+3,none⟩ (.int .i64 x.va)).setCell ⟨g,o+4,none⟩ (.int .i64 x.nn)).setCell ⟨g,o+5,none⟩ (.int .i64 x.st)).setCell ⟨g,o+6,none⟩ (.int .i64 x.en))
def cz(W:World)(g ty len:Nat):Prop:=∃cur,W.heap[g]? =some (.cells cur ty (0,0))∧cur.size=len*7
theorem cz.set{W:World}{g ty len i:Nat}(h:cz W g ty len)(v:Value):cz (W.setCell ⟨g,i,none⟩ v) g ty len:=by
 obtain⟨cur,h1,h2⟩:=h
 exact⟨_,Joins.block_setCell h1 v,by simp[h2]⟩
theorem cz.below{W W':World}{g ty len B:Nat}(h:cz W g ty len)(hb:Below B W W')(hg:g<B):cz W' g ty len:=by
 obtain⟨cur,h1,h2⟩:=h
 exact⟨cur,(hb.block g hg).trans h1,h2⟩
theorem cz.lt{W:World}{g ty len:Nat}(h:cz W g ty len):g<W.heap.size:=by
 obtain⟨cur,h1,h2⟩:=h
 exact(Array.getElem?_eq_some_iff.1 h1).1
theorem cz.cell{W:World}{g ty len i:Nat}(h:cz W g ty len)(hi:i<len*7):∃u,W.cell? ⟨g,i,none⟩=some u:=by
 obtain⟨cur,h1,h2⟩:=h
 exact⟨_,(cA h1 i).trans (Array.getElem?_eq_getElem (by omega))⟩
theorem cz.frozen{W:World}{g ty len i:Nat}(h:cz W g ty len):W.frozen? ⟨g,i,none⟩=false:=by
 obtain⟨cur,h1,h2⟩:=h
 exact Joins.unfrozen_of_block h1 i
theorem cz.cells{W:World}{g ty len k:Nat}(h:cz W g ty len)(hk:k<len):(∃u,W.cell? ⟨g,k*7,none⟩=some u)∧(∃u,W.cell? ⟨g,k*7+1,none⟩=some u)∧(∃u,W.cell? ⟨g,k*7+2,none⟩=some u)∧(∃u,W.cell? ⟨g,k*7+3,none⟩=some u)∧(∃u,W.cell? ⟨g,k*7+4,none⟩=some u)∧(∃u,W.cell? ⟨g,k*7+5,none⟩=some u)∧(∃u,W.cell? ⟨g,k*7+6,none⟩=some u):=⟨h.cell (by omega),h.cell (by omega),h.cell (by omega),h.cell (by omega),h.cell (by omega),h.cell (by omega),h.cell (by omega)⟩
theorem cz.sets{W:World}{g ty len o:Nat}(h:cz W g ty len)(x:cq):cz (gY W g o x) g ty len:=(((((((h.set _).set _).set _).set _).set _).set _).set _)
theorem aw{W:World}{g i j:Nat}{v:Value}(h:i≠j):(W.setCell ⟨g,i,none⟩ v).cell? ⟨g,j,none⟩=W.cell? ⟨g,j,none⟩:=World.cell?_setCell_other _ _ _ _ (by intro e;injection e with e1 e2;exact h e2)
theorem ey{W:World}{g ty len i:Nat}{v:Value}(h:cz W g ty len)(hi:i<len*7):(W.setCell ⟨g,i,none⟩ v).cell? ⟨g,i,none⟩=some v:=by
 obtain⟨u,hu⟩:=h.cell hi
 exact World.cell?_setCell_same _ _ _ hu
theorem setLp_this{W:World}{g ty len k:Nat}(h:cz W g ty len)(hk:k<len)(x:cq):dA (gY W g (k*7) x) g (k*7) x:=by
 unfold gY
 refine⟨?_,?_,?_,?_,?_,?_,?_⟩
 ·(repeat rw[aw (by omega)]);rw[ey h (by omega)]
 ·(repeat rw[aw (by omega)]);rw[ey (h.set _) (by omega)]
 ·(repeat rw[aw (by omega)]);rw[ey ((h.set _).set _) (by omega)]
 ·(repeat rw[aw (by omega)]);rw[ey (((h.set _).set _).set _) (by omega)]
 ·rw[aw (by omega),aw (by omega),ey ((((h.set _).set _).set _).set _) (by omega)]
 ·rw[aw (by omega),ey (((((h.set _).set _).set _).set _).set _) (by omega)]
 ·rw[ey ((((((h.set _).set _).set _).set _).set _).set _) (by omega)]
theorem setLp_ne{W:World}{g i k:Nat}{x y:cq}(h:dA W g (i*7) y)(hk:i≠k):dA (gY W g (k*7) x) g (i*7) y:=by
 unfold gY
 obtain⟨h0,h1,h2,h3,h4,h5,h6⟩:=h
 refine⟨?_,?_,?_,?_,?_,?_,?_⟩
 ·rw[aw (by omega),aw (by omega),aw (by omega),aw (by omega),aw (by omega),aw (by omega),aw (by omega)];exact h0
 ·rw[aw (by omega),aw (by omega),aw (by omega),aw (by omega),aw (by omega),aw (by omega),aw (by omega)];exact h1
 ·rw[aw (by omega),aw (by omega),aw (by omega),aw (by omega),aw (by omega),aw (by omega),aw (by omega)];exact h2
 ·rw[aw (by omega),aw (by omega),aw (by omega),aw (by omega),aw (by omega),aw (by omega),aw (by omega)];exact h3
 ·rw[aw (by omega),aw (by omega),aw (by omega),aw (by omega),aw (by omega),aw (by omega),aw (by omega)];exact h4
 ·rw[aw (by omega),aw (by omega),aw (by omega),aw (by omega),aw (by omega),aw (by omega),aw (by omega)];exact h5
 ·rw[aw (by omega),aw (by omega),aw (by omega),aw (by omega),aw (by omega),aw (by omega),aw (by omega)];exact h6
def WrLp(W:World)(a:Option Addr)(n cap:Nat):Prop:=n=0∨∃g,a=some ⟨g,0,none⟩∧cz W g 103 cap∧n≤cap
set_option maxHeartbeats 1000000 in
theorem eqLp_one(x:cq)(w:World):Calls Tryz.prog 50 #[.agg #[.int .i64 x.kd,.int .i64 x.tm,.int .i64 x.ke,.int .i64 x.va,.int .i64 x.nn,.int .i64 x.st,.int .i64 x.en],.agg #[.int .i64 x.kd,.int .i64 x.tm,.int .i64 x.ke,.int .i64 x.va,.int .i64 x.nn,.int .i64 x.st,.int .i64 x.en]] w fun e w'=>e= .returned (.bool true)∧Below w.heap.size w w':=by
 go_enter Tryz.func50,Tryz.ntmps50
 go_wp2_with (first
  |(go_at_call 53;refine(eqItmT _ _ _ _ _ _).mono ?_;rintro e w' ⟨rfl,hb⟩;obtain⟨hc,hf,hs⟩:=ac hb;(try have hz0:=zA hb w.heap.size);(try have hz1:=zA hb (w.heap.size+1)))
  |(go_at_call 79;refine(eqWinT _ _ _).mono ?_;rintro e w' ⟨rfl,hb⟩;obtain⟨hc,hf,hs⟩:=ac hb;(try have hz0:=zA hb w.heap.size);(try have hz1:=zA hb (w.heap.size+1))))
 go_ret
 exact⟨rfl,(ar)⟩
set_option maxRecDepth 20000 in
set_option maxHeartbeats 1000000 in
theorem eqLp_any(a1 a2:Option Addr)(len cap1 cap2:Nat)(xs:List cq)(w:World)(h1:eT w a1 len xs)(h2:eT w a2 len xs):Calls Tryz.prog 17 #[.slice a1 len cap1,.slice a2 len cap2] w fun e w'=>e= .returned (.bool true)∧Below w.heap.size w w':=by
 have hm:=h1.2.1
 unfold maxLen at hm
 go_enter Tryz.func17,Tryz.ntmps17
 go_wp2
 go_loopw [5] (fun i wr=>∃k:Nat,k≤len∧i= .int .i64 k∧Below w.heap.size w wr) (fun i _=>len - (intOf i).toNat)
 case atStart=>exact⟨0,Nat.zero_le _,rfl,Below.refl _ _⟩
 case round=>
  obtain⟨k,hk,rfl,hbw⟩:=hrel
  by_cases hlt:k<len
  ·obtain⟨hl1,_,hx1⟩:=h1
   obtain⟨hl2,_,hx2⟩:=h2
   obtain⟨g1,o1,rfl,hr1⟩:=hx1.resolve_left (by omega)
   obtain⟨g2,o2,rfl,hr2⟩:=hx2.resolve_left (by omega)
   obtain⟨x,hxk⟩:∃x,xs[k]? =some x:=⟨_,List.getElem?_eq_getElem (by omega)⟩
   have hg1:g1<w.heap.size:=hr1.lt (by omega)
   have hg2:g2<w.heap.size:=hr2.lt (by omega)
   have hs1:g1<wr.heap.size:=Nat.lt_of_lt_of_le hg1 hbw.size
   have hs2:g2<wr.heap.size:=Nat.lt_of_lt_of_le hg2 hbw.size
   have hS:((wr.cell? ⟨g1,o1+k*7,none⟩=some (.int .i64 x.kd)∧wr.cell? ⟨g1,o1+k*7+1,none⟩=some (.int .i64 x.tm)∧wr.cell? ⟨g1,o1+k*7+2,none⟩=some (.int .i64 x.ke)∧wr.cell? ⟨g1,o1+k*7+3,none⟩=some (.int .i64 x.va)∧wr.cell? ⟨g1,o1+k*7+4,none⟩=some (.int .i64 x.nn)∧wr.cell? ⟨g1,o1+k*7+5,none⟩=some (.int .i64 x.st)∧wr.cell? ⟨g1,o1+k*7+6,none⟩=some (.int .i64 x.en)∧wr.cell? ⟨g2,o2+k*7,none⟩=some (.int .i64 x.kd)∧wr.cell? ⟨g2,o2+k*7+1,none⟩=some (.int .i64 x.tm)∧wr.cell? ⟨g2,o2+k*7+2,none⟩=some (.int .i64 x.ke)∧wr.cell? ⟨g2,o2+k*7+3,none⟩=some (.int .i64 x.va)∧wr.cell? ⟨g2,o2+k*7+4,none⟩=some (.int .i64 x.nn)∧wr.cell? ⟨g2,o2+k*7+5,none⟩=some (.int .i64 x.st)∧wr.cell? ⟨g2,o2+k*7+6,none⟩=some (.int .i64 x.en))∧g1<wr.heap.size∧g2<wr.heap.size):=by
    obtain⟨c0,c1,c2,c3,c4,c5,c6⟩:=(hr1 k _ hxk).below hbw hg1
    obtain⟨d0,d1,d2,d3,d4,d5,d6⟩:=(hr2 k _ hxk).below hbw hg2
    exact⟨⟨c0,c1,c2,c3,c4,c5,c6,d0,d1,d2,d3,d4,d5,d6⟩,hs1,hs2⟩
   clear hx1 hx2 hxk hr1 hr2
   go_wp2
   go_region_held3 (fun W=>((W.cell? ⟨g1,o1+k*7,none⟩=some (.int .i64 x.kd)∧W.cell? ⟨g1,o1+k*7+1,none⟩=some (.int .i64 x.tm)∧W.cell? ⟨g1,o1+k*7+2,none⟩=some (.int .i64 x.ke)∧W.cell? ⟨g1,o1+k*7+3,none⟩=some (.int .i64 x.va)∧W.cell? ⟨g1,o1+k*7+4,none⟩=some (.int .i64 x.nn)∧W.cell? ⟨g1,o1+k*7+5,none⟩=some (.int .i64 x.st)∧W.cell? ⟨g1,o1+k*7+6,none⟩=some (.int .i64 x.en)∧W.cell? ⟨g2,o2+k*7,none⟩=some (.int .i64 x.kd)∧W.cell? ⟨g2,o2+k*7+1,none⟩=some (.int .i64 x.tm)∧W.cell? ⟨g2,o2+k*7+2,none⟩=some (.int .i64 x.ke)∧W.cell? ⟨g2,o2+k*7+3,none⟩=some (.int .i64 x.va)∧W.cell? ⟨g2,o2+k*7+4,none⟩=some (.int .i64 x.nn)∧W.cell? ⟨g2,o2+k*7+5,none⟩=some (.int .i64 x.st)∧W.cell? ⟨g2,o2+k*7+6,none⟩=some (.int .i64 x.en))∧g1<W.heap.size∧g2<W.heap.size)) ((first|((repeat(first|(with_reducible assumption)|(with_reducible refine gl ?_ (jF))|(with_reducible refine gl ?_ (aj (Below.refl _ _)))|(with_reducible refine gl ?_ (ai _ _))));done)|(refine⟨⟨?_,?_,?_,?_,?_,?_,?_,?_,?_,?_,?_,?_,?_,?_⟩,?_,?_⟩<;>first|(go_keep;done)|(simp;done)|(simp;omega)|omega)))
    (first
    |(go_at_call 50;refine(eqLp_one _ _).mono ?_;rintro e w' ⟨rfl,hb⟩;obtain⟨hc,hf,hs⟩:=ac hb))
   go_wp2
   go_roundw
   case rel=>exact⟨k+1,by omega,by go_num,(ar)⟩
   case measure=>simp[intOf];omega
  ·go_wp2
   go_ret
   exact⟨rfl,hbw⟩
end Go.Proofs.YtealpjmannopeaaGreat
namespace Go.Proofs.YtealpjmannopeaaGreat
open Go.ChangeShapes Go.WideShapes Go.ChangeAt Go.RowKit Go.Deep
/-- Each number is an int. -/
def cq.ok64(x:cq):Prop:=(-9223372036854775808≤x.kd∧x.kd≤9223372036854775807)∧(-9223372036854775808≤x.tm∧x.tm≤9223372036854775807)∧(-9223372036854775808≤x.ke∧x.ke≤9223372036854775807)∧(-9223372036854775808≤x.va∧x.va≤9223372036854775807)∧(-9223372036854775808≤x.nn∧x.nn≤9223372036854775807)∧(-9223372036854775808≤x.st∧x.st≤9223372036854775807)∧(-9223372036854775808≤x.en∧x.en≤9223372036854775807)
section
variable {H : Type} {enc : TypeId × Value → H} {P : Program} {w : World} {base : Nat} {spare : Nat → Bool} {held : Bool}
theorem cellsLp{a:Addr}{cs:List Value}(h:w.cells? base a 7=some cs)(f0:ef cs [false,false,false,false,false,false,false]):a.spot=none∧∃x:cq,dA w a.block a.off x∧x.ok64:=by
 obtain⟨z0,r0,rfl,y0,f1⟩:=aE f0
 clear f0
 obtain⟨z1,r1,rfl,y1,f2⟩:=aE f1
 clear f1
 obtain⟨z2,r2,rfl,y2,f3⟩:=aE f2
 clear f2
 obtain⟨z3,r3,rfl,y3,f4⟩:=aE f3
 clear f3
 obtain⟨z4,r4,rfl,y4,f5⟩:=aE f4
 clear f4
 obtain⟨z5,r5,rfl,y5,f6⟩:=aE f5
 clear f5
 obtain⟨z6,r6,rfl,y6,f7⟩:=aE f6
 clear f6
 obtain rfl:=fe f7
 obtain⟨_,hlen,hc⟩:=World.cells?_some h
 have c0:=hc 0 (by omega)
 have c1:=hc 1 (by omega)
 have c2:=hc 2 (by omega)
 have c3:=hc 3 (by omega)
 have c4:=hc 4 (by omega)
 have c5:=hc 5 (by omega)
 have c6:=hc 6 (by omega)
 obtain⟨g,o,sp⟩:=a
 have ha0:(⟨g,o,sp⟩:Addr).add 0=⟨g,o,sp⟩:=by simp[Addr.add]
 have hsp:sp=none:=World.cell?_spot (w:=w) (a:=⟨g,o,sp⟩) (v:= .int .i64 z0) (by rw[←ha0];simpa using c0)
 subst hsp
 exact⟨rfl,⟨z0,z1,z2,z3,z4,z5,z6⟩,⟨by simpa[Addr.add]using c0,by simpa[Addr.add]using c1,by simpa[Addr.add]using c2,by simpa[Addr.add]using c3,by simpa[Addr.add]using c4,by simpa[Addr.add]using c5,by simpa[Addr.add]using c6⟩,aW y0,aW y1,aW y2,aW y3,aW y4,aW y5,aW y6⟩
theorem openLp{t e:TypeId}{a:Option Addr}{len cap:Nat}{d:DataW H}{p:List MemPlace}(ht:P.underlying t=some (.slice e))(hk:bf P 5 e=some [false,false,false,false,false,false,false])(hC:P.cellsOf e=7)
  (h:DataW.Trod enc P w base spare held t (.slice a len cap) d p):∃xs:List cq,eT w a len xs∧∀x ∈ xs,x.ok64:=by
 obtain⟨fuel,hf⟩:=h
 rcases open_slice ht hf with⟨hcs,_⟩|⟨a',len',cap',m,n,D,Pl,hcs,_,hl,hm,hmm,_,hx⟩
 ·simp[Value.cells]at hcs
  obtain⟨rfl,rfl,rfl⟩:=hcs
  exact⟨[],⟨rfl,Nat.zero_le _,Or.inl rfl⟩,by simp⟩
 ·simp[Value.cells]at hcs
  obtain⟨rfl,rfl,rfl⟩:=hcs
  have hlm:len≤m:=by rw[hmm];split<;>omega
  have hall:∀i,i<len→∃x:cq,(i=0→a'.spot=none)∧dA w a'.block (a'.off+i*7) x∧x.ok64:=by
   intro i hi
   obtain⟨cs',h1,h2⟩:=hx i (by omega)
   rw[hC]at h1
   obtain⟨hsp,x,hxa,hxo⟩:=cellsLp h1 (dt 5 hk h2)
   have hb:(a'.add (i*7)).block=a'.block∧(a'.add (i*7)).off=a'.off+i*7:=by
    unfold Addr.add
    split
    ·exact⟨rfl,by omega⟩
    ·exact⟨rfl,rfl⟩
   rw[hb.1,hb.2]at hxa
   refine⟨x,fun h0=>?_,hxa,hxo⟩
   subst h0
   simpa[Addr.add]using hsp
  by_cases h0:len=0
  ·subst h0
   exact⟨[],⟨rfl,Nat.zero_le _,Or.inl rfl⟩,by simp⟩
  have hinh:Inhabited cq:=⟨⟨0,0,0,0,0,0,0⟩⟩
  obtain⟨f,hf'⟩:=choose_lt hall
  have hsp:=(hf' 0 (by omega)).1 rfl
  refine⟨(List.range len).map f,⟨by simp,by omega,Or.inr ⟨a'.block,a'.off,by cases a';simp_all,?_⟩⟩,?_⟩
  ·intro i x hix
   simp only[List.getElem?_map,Option.map_eq_some_iff]at hix
   obtain⟨j,hj,rfl⟩:=hix
   have hil:i<len:=by
    rcases Nat.lt_or_ge i len with h'|h'
    ·exact h'
    ·rw[List.getElem?_eq_none (by simpa using h')]at hj;cases hj
   rw[List.getElem?_eq_getElem (by simpa using hil)]at hj
   simp at hj
   subst hj
   exact(hf' i hil).2.1
  ·intro x hxm
   simp only[List.mem_map,List.mem_range]at hxm
   obtain⟨i,hi,rfl⟩:=hxm
   exact(hf' i hi).2.2
end
theorem Tryz.infoLp:(Tryz.prog.info? 103).map (fun i=>(i.zero,i.size,i.bytes))=some (some (.agg #[.int .i64 0,.int .i64 0,.int .i64 0,.int .i64 0,.int .i64 0,.int .i64 0,.int .i64 0]),7,56):=by kernel_rfl
theorem mkLp(len:Nat)(hl:len≤1048576):∃C:Array Value,C.size=len*7∧∀w:World,(Instr.makeSlice 58 (.int .i64 (len:Int)) (.int .i64 (len:Int))).run Tryz.prog w= .ok (.slice (some ⟨w.heap.size,0,none⟩) len len) (w.alloc (.cells C 103)):=by
 obtain⟨i0,hi,hz0,hz1,hz2⟩:=info_parts Tryz.infoLp
 refine⟨madeCells (Value.agg #[.int .i64 0,.int .i64 0,.int .i64 0,.int .i64 0,.int .i64 0,.int .i64 0,.int .i64 0]).cells (len*i0.size),by rw[size_madeCells,hz1],fun w=>?_⟩
 have h:=run_make (P:=Tryz.prog) w 58 103 i0 _ Tryz.underlying58 hi hz0 .i64 .i64 len len (by omega) (Int.le_refl _) (by rw[hz2];omega) (by omega)
 simpa using h
/-- The slice that is being filled. -/
def ez(W:World)(g ty len:Nat)(ys:List cq):Prop:=cz W g ty len∧∀i x,ys[i]? =some x→dA W g (i*7) x
theorem ez.step{wr w':World}{g ty len k:Nat}{xs:List cq}{x:cq}(h:ez wr g ty len (xs.take k))(hb:Below wr.heap.size wr w')(hk:k<len)(hx:xs[k]? =some x):ez (gY w' g (k*7) x) g ty len (xs.take (k+1)):=by
 have hB:=h.1.below hb h.1.lt
 refine⟨hB.sets x,fun i y hy=>?_⟩
 have hik:i<k+1:=by
  rcases Nat.lt_or_ge i (k+1)with h'|h'
  ·exact h'
  ·rw[List.getElem?_eq_none (jJ)]at hy;cases hy
 rw[List.getElem?_take_of_lt hik]at hy
 by_cases he:i=k
 ·subst he
  rw[hx]at hy
  cases hy
  exact setLp_this hB hk x
 ·refine setLp_ne ?_ he
  exact(h.2 i y (by rw[List.getElem?_take_of_lt (by omega)];exact hy)).below hb h.1.lt
theorem ez.start{w:World}{ty len:Nat}{C:Array Value}(hC:C.size=len*7)(xs:List cq):ez (w.alloc (.cells C ty)) w.heap.size ty len (xs.take 0):=
 ⟨⟨C,by show(w.heap.push _)[w.heap.size]? =_;simp,hC⟩,fun i x h=>by simp at h⟩
theorem ez.done{W:World}{g ty len k:Nat}{xs:List cq}(h:ez W g ty len (xs.take k))(hk:xs.length≤k):ex W g 0 xs:=by
 intro i x hx
 rw[List.take_of_length_le hk]at h
 simpa using h.2 i x hx
theorem below_setLp{B g o:Nat}{W W':World}{x:cq}(h:Below B W W')(hg:B≤g):Below B W (gY W' g o x):=(((((((h.setCell hg _).setCell hg _).setCell hg _).setCell hg _).setCell hg _).setCell hg _).setCell hg _)
set_option maxRecDepth 20000 in
set_option maxHeartbeats 1000000 in
theorem toLp_one(kd tm ke va nn st en:Int)(w:World):Calls Tryz.prog 151 #[.agg #[.int .i64 kd,.int .i64 tm,.int .i64 ke,.int .i64 va,.int .i64 nn,.int .i64 st,.int .i64 en]] w fun e w'=>e= .returned (.agg #[.int .i64 kd,.int .i64 tm,.int .i64 ke,.int .i64 va,.int .i64 nn,.int .i64 st,.int .i64 en])∧Below w.heap.size w w':=by
 go_enter Tryz.func151,Tryz.ntmps151
 go_wp2_with (first
  |(go_at_call 115;refine(toItmT _ _ _ _ _ _).mono ?_;rintro e w' ⟨rfl,hb⟩;obtain⟨hc,hf,hs⟩:=ac hb;(try have hz0:=zA hb w.heap.size);(try have hz1:=zA hb (w.heap.size+1));(try have hz2:=zA hb (w.heap.size+1+1)))
  |(go_at_call 180;refine(gk _ _ _).mono ?_;rintro e w' ⟨rfl,hb⟩;obtain⟨hc,hf,hs⟩:=ac hb;(try have hz0:=zA hb w.heap.size);(try have hz1:=zA hb (w.heap.size+1));(try have hz2:=zA hb (w.heap.size+1+1))))
 refine bodyPost_ret (v:= .agg #[.int .i64 kd,.int .i64 tm,.int .i64 ke,.int .i64 va,.int .i64 nn,.int .i64 st,.int .i64 en]) (by simp(maxDischargeDepth:=9) [results,Tryz.results151,go_sem, *]) rfl ⟨rfl,?_⟩
 exact(ar)
set_option maxRecDepth 20000 in
set_option maxHeartbeats 1000000 in
theorem toLp_at(a:Option Addr)(len cap:Nat)(xs:List cq)(w:World)(h:eT w a len xs)(hl:len≤1048576):Calls Tryz.prog 121 #[.slice a len cap] w fun e w'=>e= .returned (.slice (some ⟨w.heap.size,0,none⟩) len len)∧ex w' w.heap.size 0 xs∧cz w' w.heap.size 103 len∧Below w.heap.size w w':=by
 obtain⟨C,hC,hmk⟩:=mkLp len hl
 go_enter Tryz.func121,Tryz.ntmps121
 go_wp2
 go_loopw [4] (fun i wr=>∃k:Nat,k≤len∧i= .int .i64 k∧ez wr w.heap.size 103 len (xs.take k)∧Below w.heap.size w wr) (fun i _=>len - (intOf i).toNat)
 case atStart=>exact⟨0,Nat.zero_le _,rfl,ez.start hC xs,ai _ _⟩
 case round=>
  obtain⟨k,hk,rfl,hF,hbw⟩:=hrel
  by_cases hlt:k<len
  ·obtain⟨hxl,hml,hx⟩:=h
   obtain⟨g,o,rfl,hr⟩:=hx.resolve_left (by omega)
   obtain⟨x,hxk⟩:∃x,xs[k]? =some x:=⟨_,List.getElem?_eq_getElem (by omega)⟩
   have hg:g<w.heap.size:=hr.lt (by omega)
   have hX:=ab hxk
   obtain⟨c0,c1,c2,c3,c4,c5,c6⟩:=(hr k _ hxk).below hbw hg
   obtain⟨⟨u0,d0⟩,⟨u1,d1⟩,⟨u2,d2⟩,⟨u3,d3⟩,⟨u4,d4⟩,⟨u5,d5⟩,⟨u6,d6⟩⟩:=hF.1.cells hlt
   have f0:=hF.1.frozen (i:=k*7)
   have f1:=hF.1.frozen (i:=k*7+1)
   have f2:=hF.1.frozen (i:=k*7+2)
   have f3:=hF.1.frozen (i:=k*7+3)
   have f4:=hF.1.frozen (i:=k*7+4)
   have f5:=hF.1.frozen (i:=k*7+5)
   have f6:=hF.1.frozen (i:=k*7+6)
   have hz:=hF.1.lt
   clear hx hxk
   go_wp2_with (go_at_call 151;refine(toLp_one _ _ _ _ _ _ _ _).mono ?_;rintro e w' ⟨rfl,hb⟩;obtain⟨hc,hf,hs⟩:=ac hb)
   go_roundw
   case rel=>exact⟨k+1,by omega,by go_num,hF.step hb hlt (aa hX),below_setLp (ae hbw hb) (Nat.le_refl _)⟩
   case measure=>simp[intOf];omega
  ·go_wp2
   go_ret
   exact⟨rfl,hF.done (by have:=h.1;omega),hF.1,hbw⟩
theorem LpRs_of{W:World}{g len:Nat}{xs:List cq}(h1:xs.length=len)(h2:len≤maxLen)(h:ex W g 0 xs):eT W (some ⟨g,0,none⟩) len xs:=⟨h1,h2,Or.inr ⟨g,0,rfl,h⟩⟩
theorem toLp_any(a:Option Addr)(len cap:Nat)(xs:List cq)(w:World)(h:eT w a len xs)(hl:len≤1048576):Calls Tryz.prog 121 #[.slice a len cap] w fun e w'=>∃a',e= .returned (.slice a' len len)∧eT w' a' len xs∧WrLp w' a' len len∧(∀g o,0<len→a'=some ⟨g,o,none⟩→w.heap.size≤g)∧Below w.heap.size w w':=
 (toLp_at a len cap xs w h hl).mono fun e w' ⟨h1,h2,h3,h4⟩=>⟨_,h1,LpRs_of h.1 h.2.1 h2,Or.inr ⟨_,rfl,h3,Nat.le_refl _⟩,fun g o _ e'=>by simp at e';omega,h4⟩
/-- A block that is not below B, and (but for B = 0) none of whose cells is frozen. -/
def BG(W:World)(B g:Nat):Prop:=B≤g∧(0<B→∃c t,W.heap[g]? =some (.cells c t (0,0)))
theorem BG.below{W W':World}{B g:Nat}(h:BG W B g)(hb:Below W.heap.size W W'):BG W' B g:=⟨h.1,fun h0=>by
 obtain⟨c,t,e⟩:=h.2 h0
 exact⟨c,t,(hb.block g (Array.getElem?_eq_some_iff.1 e).1).trans e⟩⟩
theorem BG.less{W:World}{B B' g:Nat}(h:BG W B g)(hB:B'≤B):BG W B' g:=⟨Nat.le_trans hB h.1,fun h0=>h.2 (by omega)⟩
theorem BG.set{W:World}{B g:Nat}{p:Addr}{v:Value}(h:BG W B g)(hp:p.block<B):BG (W.setCell p v) B g:=⟨h.1,fun h0=>by
 obtain⟨c,t,e⟩:=h.2 h0
 have h9:=h.1
 exact⟨c,t,(Below.heap_setCell _ _ _ _ (by omega)).trans e⟩⟩
theorem BG.zero(W:World)(g:Nat):BG W 0 g:=⟨Nat.zero_le _,fun h=>absurd h (Nat.lt_irrefl 0)⟩
theorem BG.of{W:World}{B g:Nat}{c:Array Value}{t:TypeId}(hB:B≤g)(e:W.heap[g]? =some (.cells c t (0,0))):BG W B g:=⟨hB,fun _=>⟨c,t,e⟩⟩
theorem BG.free{W:World}{B g i:Nat}(h:BG W B g)(h0:0<B):W.frozen? ⟨g,i,none⟩=false:=by
 obtain⟨c,t,e⟩:=h.2 h0
 exact Joins.unfrozen_of_block e i
/-- Such rows, in a block that is not below B. -/
def dN(W:World)(B:Nat)(a:Option Addr)(n:Nat)(xs:List bK):Prop:=dm W a n xs∧∀g o,0<n→a=some ⟨g,o,none⟩→BG W B g
theorem dN.below{W W':World}{B:Nat}{a:Option Addr}{n:Nat}{xs:List bK}(h:dN W B a n xs)(hb:Below W.heap.size W W'):dN W' B a n xs:=⟨h.1.below hb,fun g o hn ha=>(h.2 g o hn ha).below hb⟩
theorem dN.less{W:World}{B B':Nat}{a:Option Addr}{n:Nat}{xs:List bK}(h:dN W B a n xs)(hB:B'≤B):dN W B' a n xs:=⟨h.1,fun g o hn ha=>(h.2 g o hn ha).less hB⟩
theorem dN.len{W:World}{B:Nat}{a:Option Addr}{n:Nat}{xs:List bK}(h:dN W B a n xs):xs.length=n∧n≤maxLen:=⟨h.1.1,h.1.2.1⟩
theorem dN.set{W:World}{B:Nat}{p:Addr}{v:Value}{a:Option Addr}{n:Nat}{xs:List bK}(h:dN W B a n xs)(hp:p.block<B):dN (W.setCell p v) B a n xs:=⟨h.1.grown (co p v) (fun g o hn ha=>by have:=(h.2 g o hn ha).1;simp;omega),fun g o hn ha=>(h.2 g o hn ha).set hp⟩
/-- Such rows, in a block that is not below B. -/
def bn(W:World)(B:Nat)(a:Option Addr)(n:Nat)(xs:List Int):Prop:=fB W a n xs∧∀g o,0<n→a=some ⟨g,o,none⟩→BG W B g
theorem bn.below{W W':World}{B:Nat}{a:Option Addr}{n:Nat}{xs:List Int}(h:bn W B a n xs)(hb:Below W.heap.size W W'):bn W' B a n xs:=⟨h.1.below hb,fun g o hn ha=>(h.2 g o hn ha).below hb⟩
theorem bn.less{W:World}{B B':Nat}{a:Option Addr}{n:Nat}{xs:List Int}(h:bn W B a n xs)(hB:B'≤B):bn W B' a n xs:=⟨h.1,fun g o hn ha=>(h.2 g o hn ha).less hB⟩
theorem bn.len{W:World}{B:Nat}{a:Option Addr}{n:Nat}{xs:List Int}(h:bn W B a n xs):xs.length=n∧n≤maxLen:=⟨h.1.1,h.1.2.1⟩
theorem bn.set{W:World}{B:Nat}{p:Addr}{v:Value}{a:Option Addr}{n:Nat}{xs:List Int}(h:bn W B a n xs)(hp:p.block<B):bn (W.setCell p v) B a n xs:=⟨h.1.keepB (S:=fun b=>b=p.block) (fA.set (S:=fun b=>b=p.block) (p:=p) (fA.refl _ W) rfl v) (fun g o hn ha=>by have:=(h.2 g o hn ha).1;omega),fun g o hn ha=>(h.2 g o hn ha).set hp⟩
/-- Such rows, in a block that is not below B. -/
def dO(W:World)(B:Nat)(a:Option Addr)(n:Nat)(xs:List Bool):Prop:=gH W a n xs∧∀g o,0<n→a=some ⟨g,o,none⟩→BG W B g
theorem dO.below{W W':World}{B:Nat}{a:Option Addr}{n:Nat}{xs:List Bool}(h:dO W B a n xs)(hb:Below W.heap.size W W'):dO W' B a n xs:=⟨h.1.below hb,fun g o hn ha=>(h.2 g o hn ha).below hb⟩
theorem dO.less{W:World}{B B':Nat}{a:Option Addr}{n:Nat}{xs:List Bool}(h:dO W B a n xs)(hB:B'≤B):dO W B' a n xs:=⟨h.1,fun g o hn ha=>(h.2 g o hn ha).less hB⟩
theorem dO.len{W:World}{B:Nat}{a:Option Addr}{n:Nat}{xs:List Bool}(h:dO W B a n xs):xs.length=n∧n≤maxLen:=⟨h.1.1,h.1.2.1⟩
theorem dO.set{W:World}{B:Nat}{p:Addr}{v:Value}{a:Option Addr}{n:Nat}{xs:List Bool}(h:dO W B a n xs)(hp:p.block<B):dO (W.setCell p v) B a n xs:=⟨h.1.keepB (S:=fun b=>b=p.block) (fA.set (S:=fun b=>b=p.block) (p:=p) (fA.refl _ W) rfl v) (fun g o hn ha=>by have:=(h.2 g o hn ha).1;omega),fun g o hn ha=>(h.2 g o hn ha).set hp⟩
/-- Such rows, in a block that is not below B. -/
def gI(W:World)(B:Nat)(a:Option Addr)(n:Nat)(xs:List bF):Prop:=bG W a n xs∧∀g o,0<n→a=some ⟨g,o,none⟩→BG W B g
theorem gI.below{W W':World}{B:Nat}{a:Option Addr}{n:Nat}{xs:List bF}(h:gI W B a n xs)(hb:Below W.heap.size W W'):gI W' B a n xs:=⟨h.1.below hb,fun g o hn ha=>(h.2 g o hn ha).below hb⟩
theorem gI.less{W:World}{B B':Nat}{a:Option Addr}{n:Nat}{xs:List bF}(h:gI W B a n xs)(hB:B'≤B):gI W B' a n xs:=⟨h.1,fun g o hn ha=>(h.2 g o hn ha).less hB⟩
theorem gI.len{W:World}{B:Nat}{a:Option Addr}{n:Nat}{xs:List bF}(h:gI W B a n xs):xs.length=n∧n≤maxLen:=⟨h.1.1,h.1.2.1⟩
theorem gI.set{W:World}{B:Nat}{p:Addr}{v:Value}{a:Option Addr}{n:Nat}{xs:List bF}(h:gI W B a n xs)(hp:p.block<B):gI (W.setCell p v) B a n xs:=⟨h.1.grown (co p v) (fun g o hn ha=>by have:=(h.2 g o hn ha).1;simp;omega),fun g o hn ha=>(h.2 g o hn ha).set hp⟩
/-- Such rows, in a block that is not below B. -/
def cQ(W:World)(B:Nat)(a:Option Addr)(n:Nat)(xs:List cx):Prop:=eS W a n xs∧∀g o,0<n→a=some ⟨g,o,none⟩→BG W B g
theorem cQ.below{W W':World}{B:Nat}{a:Option Addr}{n:Nat}{xs:List cx}(h:cQ W B a n xs)(hb:Below W.heap.size W W'):cQ W' B a n xs:=⟨h.1.below hb,fun g o hn ha=>(h.2 g o hn ha).below hb⟩
theorem cQ.less{W:World}{B B':Nat}{a:Option Addr}{n:Nat}{xs:List cx}(h:cQ W B a n xs)(hB:B'≤B):cQ W B' a n xs:=⟨h.1,fun g o hn ha=>(h.2 g o hn ha).less hB⟩
theorem cQ.len{W:World}{B:Nat}{a:Option Addr}{n:Nat}{xs:List cx}(h:cQ W B a n xs):xs.length=n∧n≤maxLen:=⟨h.1.1,h.1.2.1⟩
theorem cQ.set{W:World}{B:Nat}{p:Addr}{v:Value}{a:Option Addr}{n:Nat}{xs:List cx}(h:cQ W B a n xs)(hp:p.block<B):cQ (W.setCell p v) B a n xs:=⟨h.1.grown (co p v) (fun g o hn ha=>by have:=(h.2 g o hn ha).1;simp;omega),fun g o hn ha=>(h.2 g o hn ha).set hp⟩
/-- Such rows, in a block that is not below B. -/
def cS(W:World)(B:Nat)(a:Option Addr)(n:Nat)(xs:List cq):Prop:=eT W a n xs∧∀g o,0<n→a=some ⟨g,o,none⟩→BG W B g
theorem cS.below{W W':World}{B:Nat}{a:Option Addr}{n:Nat}{xs:List cq}(h:cS W B a n xs)(hb:Below W.heap.size W W'):cS W' B a n xs:=⟨h.1.below hb,fun g o hn ha=>(h.2 g o hn ha).below hb⟩
theorem cS.less{W:World}{B B':Nat}{a:Option Addr}{n:Nat}{xs:List cq}(h:cS W B a n xs)(hB:B'≤B):cS W B' a n xs:=⟨h.1,fun g o hn ha=>(h.2 g o hn ha).less hB⟩
theorem cS.len{W:World}{B:Nat}{a:Option Addr}{n:Nat}{xs:List cq}(h:cS W B a n xs):xs.length=n∧n≤maxLen:=⟨h.1.1,h.1.2.1⟩
theorem cS.set{W:World}{B:Nat}{p:Addr}{v:Value}{a:Option Addr}{n:Nat}{xs:List cq}(h:cS W B a n xs)(hp:p.block<B):cS (W.setCell p v) B a n xs:=⟨h.1.grown (co p v) (fun g o hn ha=>by have:=(h.2 g o hn ha).1;simp;omega),fun g o hn ha=>(h.2 g o hn ha).set hp⟩
theorem toIn_b(B:Nat)(a:Option Addr)(n c:Nat)(xs:List Int)(w:World)(h:bn w B a n xs)(hl:n≤1048576):Calls Tryz.prog 70 #[.slice a n c] w fun e w'=>∃a',e= .returned (.slice a' n n)∧bn w' w.heap.size a' n xs∧Below w.heap.size w w':=
 (toIn_any a n c xs w h.1 hl).mono fun e w' ⟨a',he,H,R,ge,hb⟩=>⟨a',he,⟨H,fun g o hn ha=>by
   have hg:=ge g o hn ha
   rcases R with h0|⟨g2,e2,⟨c2,h2,_⟩⟩
   ·omega
   ·rw[e2]at ha
    cases ha
    exact BG.of hg h2⟩,hb⟩
theorem eqIn_b(B1 B2:Nat)(a1 a2:Option Addr)(n c1 c2:Nat)(xs:List Int)(w:World)(h1:bn w B1 a1 n xs)(h2:bn w B2 a2 n xs):Calls Tryz.prog 84 #[.slice a1 n c1,.slice a2 n c2] w fun e w'=>e= .returned (.bool true)∧Below w.heap.size w w':=eqIn_any a1 a2 n c1 c2 xs w h1.1 h2.1
theorem toBo_b(B:Nat)(a:Option Addr)(n c:Nat)(xs:List Bool)(w:World)(h:dO w B a n xs)(hl:n≤1048576):Calls Tryz.prog 71 #[.slice a n c] w fun e w'=>∃a',e= .returned (.slice a' n n)∧dO w' w.heap.size a' n xs∧Below w.heap.size w w':=
 (toBo_any a n c xs w h.1 hl).mono fun e w' ⟨a',he,H,R,ge,hb⟩=>⟨a',he,⟨H,fun g o hn ha=>by
   have hg:=ge g o hn ha
   rcases R with h0|⟨g2,e2,⟨c2,h2,_⟩⟩
   ·omega
   ·rw[e2]at ha
    cases ha
    exact BG.of hg h2⟩,hb⟩
theorem eqBo_b(B1 B2:Nat)(a1 a2:Option Addr)(n c1 c2:Nat)(xs:List Bool)(w:World)(h1:dO w B1 a1 n xs)(h2:dO w B2 a2 n xs):Calls Tryz.prog 85 #[.slice a1 n c1,.slice a2 n c2] w fun e w'=>e= .returned (.bool true)∧Below w.heap.size w w':=eqBo_any a1 a2 n c1 c2 xs w h1.1 h2.1
theorem toIw_b(B:Nat)(a:Option Addr)(n c:Nat)(xs:List bF)(w:World)(h:gI w B a n xs)(hl:n≤1048576):Calls Tryz.prog 66 #[.slice a n c] w fun e w'=>∃a',e= .returned (.slice a' n n)∧gI w' w.heap.size a' n xs∧Below w.heap.size w w':=
 (toIw_any a n c xs w h.1 hl).mono fun e w' ⟨a',he,H,R,ge,hb⟩=>⟨a',he,⟨H,fun g o hn ha=>by
   have hg:=ge g o hn ha
   rcases R with h0|⟨g2,e2,⟨c2,h2,_⟩,_⟩
   ·omega
   ·rw[e2]at ha
    cases ha
    exact BG.of hg h2⟩,hb⟩
theorem eqIw_b(B1 B2:Nat)(a1 a2:Option Addr)(n c1 c2:Nat)(xs:List bF)(w:World)(h1:gI w B1 a1 n xs)(h2:gI w B2 a2 n xs):Calls Tryz.prog 22 #[.slice a1 n c1,.slice a2 n c2] w fun e w'=>e= .returned (.bool true)∧Below w.heap.size w w':=fi a1 a2 n c1 c2 xs w h1.1 h2.1
theorem toPn_b(B:Nat)(a:Option Addr)(n c:Nat)(xs:List cx)(w:World)(h:cQ w B a n xs)(hl:n≤1048576):Calls Tryz.prog 120 #[.slice a n c] w fun e w'=>∃a',e= .returned (.slice a' n n)∧cQ w' w.heap.size a' n xs∧Below w.heap.size w w':=
 (toPn_any a n c xs w h.1 hl).mono fun e w' ⟨a',he,H,R,ge,hb⟩=>⟨a',he,⟨H,fun g o hn ha=>by
   have hg:=ge g o hn ha
   rcases R with h0|⟨g2,e2,⟨c2,h2,_⟩,_⟩
   ·omega
   ·rw[e2]at ha
    cases ha
    exact BG.of hg h2⟩,hb⟩
theorem eqPn_b(B1 B2:Nat)(a1 a2:Option Addr)(n c1 c2:Nat)(xs:List cx)(w:World)(h1:cQ w B1 a1 n xs)(h2:cQ w B2 a2 n xs):Calls Tryz.prog 10 #[.slice a1 n c1,.slice a2 n c2] w fun e w'=>e= .returned (.bool true)∧Below w.heap.size w w':=eqPn_any a1 a2 n c1 c2 xs w h1.1 h2.1
theorem toLp_b(B:Nat)(a:Option Addr)(n c:Nat)(xs:List cq)(w:World)(h:cS w B a n xs)(hl:n≤1048576):Calls Tryz.prog 121 #[.slice a n c] w fun e w'=>∃a',e= .returned (.slice a' n n)∧cS w' w.heap.size a' n xs∧Below w.heap.size w w':=
 (toLp_any a n c xs w h.1 hl).mono fun e w' ⟨a',he,H,R,ge,hb⟩=>⟨a',he,⟨H,fun g o hn ha=>by
   have hg:=ge g o hn ha
   rcases R with h0|⟨g2,e2,⟨c2,h2,_⟩,_⟩
   ·omega
   ·rw[e2]at ha
    cases ha
    exact BG.of hg h2⟩,hb⟩
theorem eqLp_b(B1 B2:Nat)(a1 a2:Option Addr)(n c1 c2:Nat)(xs:List cq)(w:World)(h1:cS w B1 a1 n xs)(h2:cS w B2 a2 n xs):Calls Tryz.prog 17 #[.slice a1 n c1,.slice a2 n c2] w fun e w'=>e= .returned (.bool true)∧Below w.heap.size w w':=eqLp_any a1 a2 n c1 c2 xs w h1.1 h2.1
theorem szIn_p(a:Option Addr)(len cap:Nat)(L:Int)(w:World)(h:len≤maxLen)(h0:0≤L)(hL:L≤1048576):Calls Tryz.prog 57 #[.slice a len cap,.int .i64 L] w fun e w'=>gG (L - (len:Int)) (len≤1048576) e∧w'=w:=by
 unfold maxLen at h
 by_cases h1:(len:Int)≤L
 ·go_enter Tryz.func57,Tryz.ntmps57
  go_wp2
  go_ret
  exact⟨⟨_,rfl,Or.inr ⟨by omega,by omega,by omega⟩⟩,rfl⟩
 ·go_enter Tryz.func57,Tryz.ntmps57
  go_wp2
  go_ret
  exact⟨⟨_,rfl,Or.inl rfl⟩,rfl⟩
theorem szBo_p(a:Option Addr)(len cap:Nat)(L:Int)(w:World)(h:len≤maxLen)(h0:0≤L)(hL:L≤1048576):Calls Tryz.prog 58 #[.slice a len cap,.int .i64 L] w fun e w'=>gG (L - (len:Int)) (len≤1048576) e∧w'=w:=by
 unfold maxLen at h
 by_cases h1:(len:Int)≤L
 ·go_enter Tryz.func58,Tryz.ntmps58
  go_wp2
  go_ret
  exact⟨⟨_,rfl,Or.inr ⟨by omega,by omega,by omega⟩⟩,rfl⟩
 ·go_enter Tryz.func58,Tryz.ntmps58
  go_wp2
  go_ret
  exact⟨⟨_,rfl,Or.inl rfl⟩,rfl⟩
theorem szIw_p(a:Option Addr)(len cap:Nat)(L:Int)(w:World)(h:len≤maxLen)(h0:0≤L)(hL:L≤1048576):Calls Tryz.prog 54 #[.slice a len cap,.int .i64 L] w fun e w'=>gG (L - (len:Int)) (len≤1048576) e∧w'=w:=by
 unfold maxLen at h
 by_cases h1:(len:Int)≤L
 ·go_enter Tryz.func54,Tryz.ntmps54
  go_wp2
  go_ret
  exact⟨⟨_,rfl,Or.inr ⟨by omega,by omega,by omega⟩⟩,rfl⟩
 ·go_enter Tryz.func54,Tryz.ntmps54
  go_wp2
  go_ret
  exact⟨⟨_,rfl,Or.inl rfl⟩,rfl⟩
theorem szPn_p(a:Option Addr)(len cap:Nat)(L:Int)(w:World)(h:len≤maxLen)(h0:0≤L)(hL:L≤1048576):Calls Tryz.prog 101 #[.slice a len cap,.int .i64 L] w fun e w'=>gG (L - (len:Int)) (len≤1048576) e∧w'=w:=by
 unfold maxLen at h
 by_cases h1:(len:Int)≤L
 ·go_enter Tryz.func101,Tryz.ntmps101
  go_wp2
  go_ret
  exact⟨⟨_,rfl,Or.inr ⟨by omega,by omega,by omega⟩⟩,rfl⟩
 ·go_enter Tryz.func101,Tryz.ntmps101
  go_wp2
  go_ret
  exact⟨⟨_,rfl,Or.inl rfl⟩,rfl⟩
theorem szLp_p(a:Option Addr)(len cap:Nat)(L:Int)(w:World)(h:len≤maxLen)(h0:0≤L)(hL:L≤1048576):Calls Tryz.prog 102 #[.slice a len cap,.int .i64 L] w fun e w'=>gG (L - (len:Int)) (len≤1048576) e∧w'=w:=by
 unfold maxLen at h
 by_cases h1:(len:Int)≤L
 ·go_enter Tryz.func102,Tryz.ntmps102
  go_wp2
  go_ret
  exact⟨⟨_,rfl,Or.inr ⟨by omega,by omega,by omega⟩⟩,rfl⟩
 ·go_enter Tryz.func102,Tryz.ntmps102
  go_wp2
  go_ret
  exact⟨⟨_,rfl,Or.inl rfl⟩,rfl⟩
theorem szOr_p(a:Option Addr)(len cap:Nat)(L:Int)(w:World)(h:len≤maxLen)(h0:0≤L)(hL:L≤1048576):Calls Tryz.prog 142 #[.slice a len cap,.int .i64 L] w fun e w'=>gG (L - (len:Int)) (len≤1048576) e∧w'=w:=by
 by_cases h1:(len:Int)≤L
 ·exact(szOr_le a len cap L w hL h1).mono fun e w' ⟨he,hw⟩=>⟨⟨_,he,Or.inr ⟨by omega,by omega,by omega⟩⟩,hw⟩
 ·exact(szOr_gt a len cap L w h h0 hL h1).mono fun e w' ⟨he,hw⟩=>⟨⟨_,he,Or.inl rfl⟩,hw⟩
theorem szSt_p(m:Int)(a:Option Addr)(len cap:Nat)(L:Int)(w:World)(h:len≤maxLen)(h0:0≤L)(hL:L≤1048576):Calls Tryz.prog 98 #[.agg #[.int .i64 m,.slice a len cap],.int .i64 L] w fun e w'=>gG (L - (len:Int)) (len≤1048576) e∧Below w.heap.size w w':=by
 go_enter Tryz.func98,Tryz.ntmps98
 go_wp2_with fail
 refine(szOr_p a len cap L _ h h0 hL).mono ?_
 rintro e w1 ⟨⟨r,rfl,hr⟩,hw⟩
 obtain rfl:=hw.symm
 clear hw
 rcases hr with rfl|⟨h2,h3,h4⟩
 ·go_wp2
  go_ret
  exact⟨⟨_,rfl,Or.inl rfl⟩,(ar)⟩
 ·go_wp2
  go_ret
  exact⟨⟨_,rfl,Or.inr ⟨h2,h3,h4⟩⟩,(ar)⟩
theorem toSt_b(B:Nat)(m:Int)(a:Option Addr)(n c:Nat)(xs:List bK)(w:World)(h:dN w B a n xs)(hl:n≤1048576):Calls Tryz.prog 117 #[.agg #[.int .i64 m,.slice a n c]] w fun e w'=>∃a',e= .returned (.agg #[.int .i64 m,.slice a' n n])∧dN w' w.heap.size a' n xs∧Below w.heap.size w w':=
 (toSt_any m a n c xs w h.1 hl).mono fun e w' ⟨a',he,H,R,ge,hb⟩=>⟨a',he,⟨H,fun g o hn ha=>by
   have hg:=ge g o hn ha
   rcases R with h0|⟨g2,e2,⟨c2,h2,_⟩,_⟩
   ·omega
   ·rw[e2]at ha
    cases ha
    exact BG.of hg h2⟩,hb⟩
theorem eqSt_b(B1 B2:Nat)(m:Int)(a1 a2:Option Addr)(n c1 c2:Nat)(xs:List bK)(w:World)(h1:dN w B1 a1 n xs)(h2:dN w B2 a2 n xs):Calls Tryz.prog 135 #[.agg #[.int .i64 m,.slice a1 n c1],.agg #[.int .i64 m,.slice a2 n c2]] w fun e w'=>e= .returned (.bool true)∧Below w.heap.size w w':=eqSt_any m a1 a2 n c1 c2 xs w h1.1 h2.1
theorem dh{b0 b1 a0 a1 a2 c0 c1 c2:Nat}{k0 k1 k2 l0 l1 l2:Value}{W W':World}(h:((W.cell? ⟨b0,a0,none⟩=some k0∧W.cell? ⟨b0,a1,none⟩=some k1∧W.cell? ⟨b0,a2,none⟩=some k2∧W.cell? ⟨b1,c0,none⟩=some l0∧W.cell? ⟨b1,c1,none⟩=some l1∧W.cell? ⟨b1,c2,none⟩=some l2)∧b0<W.heap.size∧b1<W.heap.size))(hb:Below W.heap.size W W'):((W'.cell? ⟨b0,a0,none⟩=some k0∧W'.cell? ⟨b0,a1,none⟩=some k1∧W'.cell? ⟨b0,a2,none⟩=some k2∧W'.cell? ⟨b1,c0,none⟩=some l0∧W'.cell? ⟨b1,c1,none⟩=some l1∧W'.cell? ⟨b1,c2,none⟩=some l2)∧b0<W'.heap.size∧b1<W'.heap.size):=by
 obtain⟨h99,s0,s1⟩:=h
 have e0:∀z,W'.cell? ⟨b0,z,none⟩=W.cell? ⟨b0,z,none⟩:=fun z=>hb.cell s0
 have e1:∀z,W'.cell? ⟨b1,z,none⟩=W.cell? ⟨b1,z,none⟩:=fun z=>hb.cell s1
 refine⟨?_,Nat.lt_of_lt_of_le s0 hb.size,Nat.lt_of_lt_of_le s1 hb.size⟩
 simp only[e0,e1]
 exact h99
/-- A channel. -/
structure bH where
 q:List bF
 ma:Int
 hd:Bool
/-- A channel lies in its cells, its items in a block that is not below B; channels lie one behind the other; a slice's value holds channels. -/
def eU(W:World)(B g o:Nat)(x:bH):Prop:=∃a len cap,W.cell? ⟨g,o,none⟩=some (.slice a len cap)∧W.cell? ⟨g,o+1,none⟩=some (.int .i64 x.ma)∧W.cell? ⟨g,o+2,none⟩=some (.bool x.hd)∧bG W a len x.q∧∀g' o',0<len→a=some ⟨g',o',none⟩→BG W B g'
def dc(W:World)(B:Nat)(a:Option Addr)(len:Nat)(xs:List bH):Prop:=xs.length=len∧len≤maxLen∧(len=0∨∃g o,a=some ⟨g,o,none⟩∧BG W B g∧∀i x,xs[i]? =some x→eU W B g (o+i*3) x)
theorem eU.lt{W:World}{B g o:Nat}{x:bH}(h:eU W B g o x):g<W.heap.size:=by
 obtain⟨a,len,cap,h0,_⟩:=h
 exact aA h0
theorem eU.below{W W':World}{B g o:Nat}{x:bH}(h:eU W B g o x)(hb:Below W.heap.size W W'):eU W' B g o x:=by
 have hg:=h.lt
 obtain⟨a,len,cap,h0,h1,h2,h3,h4⟩:=h
 exact⟨a,len,cap,(hb.cell (p:=⟨g,_,none⟩) hg).trans h0,(hb.cell (p:=⟨g,_,none⟩) hg).trans h1,(hb.cell (p:=⟨g,_,none⟩) hg).trans h2,h3.below hb,fun g' o' hp ha=>(h4 g' o' hp ha).below hb⟩
theorem eU.less{W:World}{B B' g o:Nat}{x:bH}(h:eU W B g o x)(hB:B'≤B):eU W B' g o x:=by
 obtain⟨a,len,cap,h0,h1,h2,h3,h4⟩:=h
 exact⟨a,len,cap,h0,h1,h2,h3,fun g' o' hp ha=>(h4 g' o' hp ha).less hB⟩
theorem eU.set{W:World}{B g o:Nat}{p:Addr}{v:Value}{x:bH}(h:eU W B g o x)(hg:p.block≠g)(hp:p.block<B):eU (W.setCell p v) B g o x:=by
 obtain⟨a,len,cap,h0,h1,h2,h3,h4⟩:=h
 exact⟨a,len,cap,(aH hg).trans h0,(aH hg).trans h1,(aH hg).trans h2,h3.grown (co p v) (fun g' o' hn ha=>by have:=(h4 g' o' hn ha).1;simp;omega),fun g' o' hn ha=>(h4 g' o' hn ha).set hp⟩
theorem dc.below{W W':World}{B:Nat}{a:Option Addr}{len:Nat}{xs:List bH}(h:dc W B a len xs)(hb:Below W.heap.size W W'):dc W' B a len xs:=by
 obtain⟨h1,h2,h3⟩:=h
 refine⟨h1,h2,?_⟩
 rcases h3 with h3|⟨g,o,ha,hB,hr⟩
 ·exact Or.inl h3
 ·exact Or.inr ⟨g,o,ha,hB.below hb,fun i x hx=>(hr i x hx).below hb⟩
theorem dc.less{W:World}{B B':Nat}{a:Option Addr}{len:Nat}{xs:List bH}(h:dc W B a len xs)(hB:B'≤B):dc W B' a len xs:=by
 obtain⟨h1,h2,h3⟩:=h
 refine⟨h1,h2,?_⟩
 rcases h3 with h3|⟨g,o,ha,hb,hr⟩
 ·exact Or.inl h3
 ·exact Or.inr ⟨g,o,ha,hb.less hB,fun i x hx=>(hr i x hx).less hB⟩
theorem dc.set{W:World}{B:Nat}{p:Addr}{v:Value}{a:Option Addr}{len:Nat}{xs:List bH}(h:dc W B a len xs)(hp:p.block<B):dc (W.setCell p v) B a len xs:=by
 obtain⟨h1,h2,h3⟩:=h
 refine⟨h1,h2,?_⟩
 rcases h3 with h3|⟨g,o,ha,hb,hr⟩
 ·exact Or.inl h3
 ·exact Or.inr ⟨g,o,ha,hb.set hp,fun i x hx=>(hr i x hx).set (by have:=hb.1;omega) hp⟩
/-- A block of channels, known whole; one that is being filled. -/
def iK(W:World)(g o:Nat)(v0 v1 v2:Value):World:=(((W.setCell ⟨g,o,none⟩ v0).setCell ⟨g,o+1,none⟩ v1).setCell ⟨g,o+2,none⟩ v2)
def dd(W:World)(g ty len:Nat):Prop:=∃cur,W.heap[g]? =some (.cells cur ty (0,0))∧cur.size=len*3
theorem dd.set{W:World}{g ty len i:Nat}(h:dd W g ty len)(v:Value):dd (W.setCell ⟨g,i,none⟩ v) g ty len:=by
 obtain⟨cur,h1,h2⟩:=h
 exact⟨_,Joins.block_setCell h1 v,by simp[h2]⟩
theorem dd.below{W W':World}{g ty len B:Nat}(h:dd W g ty len)(hb:Below B W W')(hg:g<B):dd W' g ty len:=by
 obtain⟨cur,h1,h2⟩:=h
 exact⟨cur,(hb.block g hg).trans h1,h2⟩
theorem dd.lt{W:World}{g ty len:Nat}(h:dd W g ty len):g<W.heap.size:=by
 obtain⟨cur,h1,h2⟩:=h
 exact(Array.getElem?_eq_some_iff.1 h1).1
theorem dd.cell{W:World}{g ty len i:Nat}(h:dd W g ty len)(hi:i<len*3):∃u,W.cell? ⟨g,i,none⟩=some u:=by
 obtain⟨cur,h1,h2⟩:=h
 exact⟨_,(cA h1 i).trans (Array.getElem?_eq_getElem (by omega))⟩
theorem dd.frozen{W:World}{g ty len i:Nat}(h:dd W g ty len):W.frozen? ⟨g,i,none⟩=false:=by
 obtain⟨cur,h1,h2⟩:=h
 exact Joins.unfrozen_of_block h1 i
theorem dd.cells{W:World}{g ty len k:Nat}(h:dd W g ty len)(hk:k<len):(∃u,W.cell? ⟨g,k*3,none⟩=some u)∧(∃u,W.cell? ⟨g,k*3+1,none⟩=some u)∧(∃u,W.cell? ⟨g,k*3+2,none⟩=some u):=⟨h.cell (by omega),h.cell (by omega),h.cell (by omega)⟩
theorem jc{W:World}{g ty len i:Nat}{v:Value}(h:dd W g ty len)(hi:i<len*3):(W.setCell ⟨g,i,none⟩ v).cell? ⟨g,i,none⟩=some v:=by
 obtain⟨u,hu⟩:=h.cell hi
 exact World.cell?_setCell_same _ _ _ hu
theorem bG.setT{W:World}{g o:Nat}{v:Value}{a:Option Addr}{len:Nat}{q:List bF}(h:bG W a len q)(h4:∀g' o',0<len→a=some ⟨g',o',none⟩→g<g'):bG (W.setCell ⟨g,o,none⟩ v) a len q:=h.grown (co _ v) (fun g' o' hn ha=>by have:=h4 g' o' hn ha;simp;omega)
theorem setTi_this{W:World}{g ty len k:Nat}{x:bH}{a:Option Addr}{l c:Nat}(h:dd W g ty len)(hk:k<len)(hq:bG W a l x.q)(h4:∀g' o',0<l→a=some ⟨g',o',none⟩→BG W (g+1) g'):eU (iK W g (k*3) (.slice a l c) (.int .i64 x.ma) (.bool x.hd)) (g+1) g (k*3) x:=by
 unfold iK
 have h5:∀g' o',0<l→a=some ⟨g',o',none⟩→g<g':=fun g' o' hp ha=>(h4 g' o' hp ha).1
 refine⟨a,l,c,?_,?_,?_,((hq.setT h5).setT h5).setT h5,fun g' o' hp ha=>(((h4 g' o' hp ha).set (by simp)).set (by simp)).set (by simp)⟩
 ·rw[am (by omega),am (by omega),jc h (by omega)]
 ·rw[am (by omega),jc (h.set _) (by omega)]
 ·rw[jc ((h.set _).set _) (by omega)]
theorem setTi_ne{W:World}{g i k:Nat}{y:bH}{v0 v1 v2:Value}(h:eU W (g+1) g (i*3) y)(hk:i≠k):eU (iK W g (k*3) v0 v1 v2) (g+1) g (i*3) y:=by
 unfold iK
 obtain⟨a,len,cap,h0,h1,h2,h3,h4⟩:=h
 have h5:∀g' o',0<len→a=some ⟨g',o',none⟩→g<g':=fun g' o' hp ha=>(h4 g' o' hp ha).1
 refine⟨a,len,cap,?_,?_,?_,((h3.setT h5).setT h5).setT h5,fun g' o' hp ha=>(((h4 g' o' hp ha).set (by simp)).set (by simp)).set (by simp)⟩
 ·rw[am (by omega),am (by omega),am (by omega)];exact h0
 ·rw[am (by omega),am (by omega),am (by omega)];exact h1
 ·rw[am (by omega),am (by omega),am (by omega)];exact h2
def eA(W:World)(g ty len:Nat)(ys:List bH):Prop:=dd W g ty len∧∀i x,ys[i]? =some x→eU W (g+1) g (i*3) x
theorem eA.step{wr w':World}{g ty len k:Nat}{xs:List bH}{x:bH}{a:Option Addr}{l c:Nat}(h:eA wr g ty len (xs.take k))(hb:Below wr.heap.size wr w')(hk:k<len)(hx:xs[k]? =some x)(hq:bG w' a l x.q)(h4:∀g' o',0<l→a=some ⟨g',o',none⟩→BG w' (g+1) g'):eA (iK w' g (k*3) (.slice a l c) (.int .i64 x.ma) (.bool x.hd)) g ty len (xs.take (k+1)):=by
 have hB:=h.1.below hb h.1.lt
 refine⟨((hB.set _).set _).set _,fun i y hy=>?_⟩
 have hik:i<k+1:=by
  rcases Nat.lt_or_ge i (k+1)with h'|h'
  ·exact h'
  ·rw[List.getElem?_eq_none (jJ)]at hy;cases hy
 rw[List.getElem?_take_of_lt hik]at hy
 by_cases he:i=k
 ·subst he
  rw[hx]at hy
  cases hy
  exact setTi_this hB hk hq h4
 ·refine setTi_ne ?_ he
  exact(h.2 i y (by rw[List.getElem?_take_of_lt (by omega)];exact hy)).below hb
theorem eA.start{w:World}{ty len:Nat}{C:Array Value}(hC:C.size=len*3)(xs:List bH):eA (w.alloc (.cells C ty)) w.heap.size ty len (xs.take 0):=
 ⟨⟨C,by show(w.heap.push _)[w.heap.size]? =_;simp,hC⟩,fun i x h=>by simp at h⟩
theorem eA.done{W:World}{g ty len k:Nat}{xs:List bH}(h:eA W g ty len (xs.take k))(hk:xs.length≤k)(hl:xs.length=len)(hm:len≤maxLen):dc W g (some ⟨g,0,none⟩) len xs:=by
 refine⟨hl,hm,Or.inr ⟨g,0,rfl,(by obtain⟨c9,e9,_⟩:=h.1;exact BG.of (Nat.le_refl _) e9),fun i x hx=>?_⟩⟩
 rw[List.take_of_length_le hk]at h
 have:=(h.2 i x hx).less (B':=g) (by omega)
 simpa using this
theorem below_setTi{B g o:Nat}{W W':World}{v0 v1 v2:Value}(h:Below B W W')(hg:B≤g):Below B W (iK W' g o v0 v1 v2):=((h.setCell hg _).setCell hg _).setCell hg _
section
variable {H : Type} {enc : TypeId × Value → H} {P : Program} {w : World} {base : Nat} {spare : Nat → Bool} {held : Bool}
def bH.ok64(x:bH):Prop:=(-9223372036854775808≤x.ma∧x.ma≤9223372036854775807)∧∀y ∈ x.q,y.ok64
theorem cellsTi{a:Addr}{cs:List Value}{tq:TypeId}{e:TypeId}(htq:P.underlying tq=some (.slice e))(hk2:bf P 5 e=some [false,false,false,false,false])(hC2:P.cellsOf e=5)(h:w.cells? base a 3=some cs)(f0:cj enc P w base spare held cs [.s tq,.i,.b]):a.spot=none∧∃x:bH,eU w 0 a.block a.off x∧x.ok64:=by
 obtain⟨qa,ql,qc,d,p,r0,rfl,y0,f1⟩:=fitT_s f0
 obtain⟨z1,r1,rfl,y1,f2⟩:=fitT_i f1
 obtain⟨z2,r2,rfl,f3⟩:=fitT_b f2
 obtain rfl:=fitT_nil f3
 clear f0 f1 f2 f3
 obtain⟨q,hq,hqo⟩:=openIw htq hk2 hC2 y0
 obtain⟨_,hlen,hc⟩:=World.cells?_some h
 have c0:=hc 0 (by omega)
 have c1:=hc 1 (by omega)
 have c2:=hc 2 (by omega)
 obtain⟨g,o,sp⟩:=a
 have ha0:(⟨g,o,sp⟩:Addr).add 0=⟨g,o,sp⟩:=by simp[Addr.add]
 have hsp:sp=none:=World.cell?_spot (w:=w) (a:=⟨g,o,sp⟩) (v:= .slice qa ql qc) (by rw[←ha0];simpa using c0)
 subst hsp
 exact⟨rfl,⟨q,z1,z2⟩,⟨qa,ql,qc,by simpa[Addr.add]using c0,by simpa[Addr.add]using c1,by simpa[Addr.add]using c2,hq,fun g9 _ _ _=>BG.zero _ g9⟩,aW y1,hqo⟩
theorem openTi{t e tq eq:TypeId}{a:Option Addr}{len cap:Nat}{d:DataW H}{p:List MemPlace}(ht:P.underlying t=some (.slice e))(hk:dw P 5 e=some [.s tq,.i,.b])(hC:P.cellsOf e=3)(htq:P.underlying tq=some (.slice eq))(hk2:bf P 5 eq=some [false,false,false,false,false])(hC2:P.cellsOf eq=5)
  (h:DataW.Trod enc P w base spare held t (.slice a len cap) d p):∃xs:List bH,dc w 0 a len xs∧∀x ∈ xs,x.ok64:=by
 obtain⟨fuel,hf⟩:=h
 rcases open_slice ht hf with⟨hcs,_⟩|⟨a',len',cap',m,n,D,Pl,hcs,_,hl,hm,hmm,_,hx⟩
 ·simp[Value.cells]at hcs
  obtain⟨rfl,rfl,rfl⟩:=hcs
  exact⟨[],⟨rfl,Nat.zero_le _,Or.inl rfl⟩,by simp⟩
 ·simp[Value.cells]at hcs
  obtain⟨rfl,rfl,rfl⟩:=hcs
  have hlm:len≤m:=by rw[hmm];split<;>omega
  have hall:∀i,i<len→∃x:bH,(i=0→a'.spot=none)∧eU w 0 a'.block (a'.off+i*3) x∧x.ok64:=by
   intro i hi
   obtain⟨cs',h1,h2⟩:=hx i (by omega)
   rw[hC]at h1
   obtain⟨hsp,x,hxa,hxo⟩:=cellsTi htq hk2 hC2 h1 (cH 5 hk h2)
   have hb:(a'.add (i*3)).block=a'.block∧(a'.add (i*3)).off=a'.off+i*3:=by
    unfold Addr.add
    split
    ·exact⟨rfl,by omega⟩
    ·exact⟨rfl,rfl⟩
   rw[hb.1,hb.2]at hxa
   refine⟨x,fun h0=>?_,hxa,hxo⟩
   subst h0
   simpa[Addr.add]using hsp
  by_cases h0:len=0
  ·subst h0
   exact⟨[],⟨rfl,Nat.zero_le _,Or.inl rfl⟩,by simp⟩
  have hinh:Inhabited bH:=⟨⟨[],0,false⟩⟩
  obtain⟨f,hf'⟩:=choose_lt hall
  have hsp:=(hf' 0 (by omega)).1 rfl
  refine⟨(List.range len).map f,⟨by simp,by omega,Or.inr ⟨a'.block,a'.off,by cases a';simp_all,BG.zero _ _,?_⟩⟩,?_⟩
  ·intro i x hix
   simp only[List.getElem?_map,Option.map_eq_some_iff]at hix
   obtain⟨j,hj,rfl⟩:=hix
   have hil:i<len:=by
    rcases Nat.lt_or_ge i len with h'|h'
    ·exact h'
    ·rw[List.getElem?_eq_none (by simpa using h')]at hj;cases hj
   rw[List.getElem?_eq_getElem (by simpa using hil)]at hj
   simp at hj
   subst hj
   exact(hf' i hil).2.1
  ·intro x hxm
   simp only[List.mem_map,List.mem_range]at hxm
   obtain⟨i,hi,rfl⟩:=hxm
   exact(hf' i hi).2.2
end
/-- How many elements there are, in all of it. -/
def eV:List bH→Nat
 | []=>0
 |x :: xs=>(1+(x.q.length))+eV xs
theorem cTi_app(xs ys:List bH):eV (xs++ys)=eV xs+eV ys:=by
 induction xs with
 |nil=>simp[eV]
 |cons x xs ih=>
  show(1+(x.q.length))+eV (xs++ys)=(1+(x.q.length))+eV xs+eV ys
  omega
theorem cTi_take{xs:List bH}{i:Nat}{x:bH}(h:xs[i]? =some x):eV (xs.take (i+1))=eV (xs.take i)+(1+(x.q.length)):=by
 rw[List.take_add_one,h,cTi_app]
 simp[eV]
theorem cTi_0(xs:List bH):eV (xs.take 0)=0:=by simp[eV]
theorem szTi_one(x:bH)(a:Option Addr)(len cap:Nat)(L:Int)(w:World)(h:len≤maxLen)(h0:0≤L)(hL:L≤1048576):Calls Tryz.prog 141 #[.agg #[.slice a len cap,.int .i64 x.ma,.bool x.hd],.int .i64 L] w fun e w'=>gG (L - ((len:Nat):Int)) (len≤1048576) e∧Below w.heap.size w w':=by
 go_enter Tryz.func141,Tryz.ntmps141
 go_wp2_with fail
 refine(szIw_p a len cap L _ h h0 hL).mono ?_
 rintro e w1 ⟨⟨r,rfl,hr⟩,hw⟩
 obtain rfl:=hw.symm
 clear hw
 rcases hr with rfl|⟨h2,h3,h4⟩
 ·go_wp2
  go_ret
  exact⟨⟨_,rfl,Or.inl rfl⟩,(ar)⟩
 ·go_wp2
  go_ret
  exact⟨⟨_,rfl,Or.inr ⟨h2,h3,h4⟩⟩,(ar)⟩
set_option maxRecDepth 20000 in
set_option maxHeartbeats 1000000 in
theorem szTi_any(a:Option Addr)(len cap:Nat)(xs:List bH)(L:Int)(w:World)(h:dc w 0 a len xs)(h0:0≤L)(hL:L≤1048576):Calls Tryz.prog 97 #[.slice a len cap,.int .i64 L] w fun e w'=>gG (L - (eV xs:Int)) (len≤1048576∧∀x ∈ xs,x.q.length≤1048576) e∧Below w.heap.size w w':=by
 have hm:=h.2.1
 unfold maxLen at hm
 by_cases h1:(len:Int)≤L
 ·go_enter Tryz.func97,Tryz.ntmps97
  go_wp2
  go_loopw [1,5] (fun lv i wr=>∃(k:Nat) (l:Int),k≤len∧i= .int .i64 k∧lv= .int .i64 l∧0≤l∧l≤L - (eV (xs.take k):Int) - ((len:Int) - (k:Int))∧(∀i x,i<k→xs[i]? =some x→x.q.length≤1048576)∧Below w.heap.size w wr) (fun _ i _=>len - (intOf i).toNat)
  case atStart=>exact⟨0,_,Nat.zero_le _,rfl,rfl,by omega,by have:=cTi_0 xs;omega,fun i x hi=>absurd hi (by omega),Below.refl _ _⟩
  case round=>
   obtain⟨k,l,hk,rfl,rfl,hl0,hl1,hq,hbw⟩:=hrel
   by_cases hlt:k<len
   ·obtain⟨hxl,hml,hx⟩:=h
    obtain⟨g,o,rfl,_,hr⟩:=hx.resolve_left (by omega)
    obtain⟨x,hxk⟩:∃x,xs[k]? =some x:=⟨_,List.getElem?_eq_getElem (by omega)⟩
    have hX:=ab hxk
    have hct:=ab (cTi_take hxk)
    have hkl:((k+1:Nat):Int)=(k:Int)+1:=by omega
    have hKL:=ab hkl
    clear hkl
    have HQ:=ab hq
    obtain⟨qa,ql,qc,c0,c1,c2,hqi,_⟩:=(hr k _ hxk).below hbw
    have hqm:=hqi.2.1
    have hql:=hqi.1
    have hcl:=ab (And.intro hxl (show x.q.length=ql from hql))
    clear hx hxk hr hq hqi
    go_wp2_with fail
    refine(szTi_one x qa ql qc l _ hqm hl0 (by omega)).mono ?_
    rintro e w1 ⟨⟨r,rfl,hr⟩,hb⟩
    rcases hr with rfl|⟨h2,h3,h4⟩
    ·go_wp2
     go_ret
     exact⟨⟨_,rfl,Or.inl rfl⟩,(ar)⟩
    ·have HC:Hid (r≤L - (eV (xs.take (k+1)):Int) - ((len:Int) - ((k+1:Nat):Int))):=ab (by
      have h8:=aa hct
      obtain⟨_,f0⟩:=aa hcl
      omega)
     clear hct hcl hKL h3
     go_wp2
     go_roundw
     case rel=>
      refine⟨k+1,r,by omega,by go_num,rfl,h2,aa HC,fun i y hi hy=>?_,(ar)⟩
      by_cases he:i=k
      ·subst he
       rw[aa hX]at hy
       cases hy
       omega
      ·exact aa HQ i y (by omega) hy
     case measure=>simp[intOf];omega
   ·go_wp2
    go_ret
    refine⟨⟨_,rfl,Or.inr ⟨hl0,(by have h9:=hl1;rw[List.take_of_length_le (by have:=h.1;omega)]at h9;omega),by omega,fun x hx=>?_⟩⟩,hbw⟩
    obtain⟨i,hi,rfl⟩:=List.getElem_of_mem hx
    exact hq i _ (by have:=h.1;omega) (List.getElem?_eq_getElem hi)
 ·go_enter Tryz.func97,Tryz.ntmps97
  go_wp2
  go_ret
  exact⟨⟨_,rfl,Or.inl rfl⟩,Below.refl _ _⟩
set_option maxRecDepth 20000 in
set_option maxHeartbeats 1000000 in
theorem toTi_one(x:bH)(a:Option Addr)(len cap:Nat)(w:World)(h:bG w a len x.q)(hl:len≤1048576):Calls Tryz.prog 148 #[.agg #[.slice a len cap,.int .i64 x.ma,.bool x.hd]] w fun e w'=>∃a',e= .returned (.agg #[.slice a' len len,.int .i64 x.ma,.bool x.hd])∧bG w' a' len x.q∧(∀g o,0<len→a'=some ⟨g,o,none⟩→BG w' w.heap.size g)∧Below w.heap.size w w':=by
 go_enter Tryz.func148,Tryz.ntmps148
 go_wp2_with (go_at_call 66;refine(toIw_any a len cap x.q _ (h.below (ar)) hl).mono ?_;rintro e' w' ⟨a',rfl,H,R,ge,hb⟩;obtain⟨hc,hf,hs⟩:=ac hb;have hz0:w.heap.size+1<w'.heap.size:=(zB hb);have hz1:w.heap.size+1+1<w'.heap.size:=(zB hb))
 have ge':∀g o,0<len→a'=some ⟨g,o,none⟩→w.heap.size+1+1<g:=fun g o hp ha=>by have:=ge g o hp ha;simp at this;omega
 refine bodyPost_ret (v:= .agg #[.slice a' len len,.int .i64 x.ma,.bool x.hd]) (by simp(maxDischargeDepth:=9) [results,Tryz.results148,go_sem, *]) rfl ⟨a',rfl,?_,fun g o hp ha=>?_,?_⟩
 ·repeat(first|(with_reducible exact H)|with_reducible refine bG.setT ?_ (fun g o hp ha=>by have:=ge' g o hp ha;(try simp);omega))
 ·have hg9:=ge' g o hp ha
  have hB9:BG w' (w.heap.size+1+1+1) g:=by
   rcases R with h0|⟨g2,e2,⟨c2,h2,_⟩,_⟩
   ·omega
   ·rw[e2]at ha
    cases ha
    exact BG.of (by omega) h2
  refine BG.less (B:=w.heap.size+1+1+1) ?_ (by omega)
  repeat(first|(with_reducible exact hB9)|refine BG.set ?_ (sA))
 ·exact(ar)
theorem Tryz.infoTi:(Tryz.prog.info? 192).map (fun i=>(i.zero,i.size,i.bytes))=some (some (.agg #[.slice none 0 0,.int .i64 0,.bool false]),3,40):=by kernel_rfl
theorem mkTi(len:Nat)(hl:len≤1048576):∃C:Array Value,C.size=len*3∧∀w:World,(Instr.makeSlice 133 (.int .i64 (len:Int)) (.int .i64 (len:Int))).run Tryz.prog w= .ok (.slice (some ⟨w.heap.size,0,none⟩) len len) (w.alloc (.cells C 192)):=by
 obtain⟨i0,hi,hz0,hz1,hz2⟩:=info_parts Tryz.infoTi
 refine⟨madeCells (Value.agg #[.slice none 0 0,.int .i64 0,.bool false]).cells (len*i0.size),by rw[size_madeCells,hz1],fun w=>?_⟩
 have h:=run_make (P:=Tryz.prog) w 133 192 i0 _ Tryz.underlying133 hi hz0 .i64 .i64 len len (by omega) (Int.le_refl _) (by rw[hz2];omega) (by omega)
 simpa using h
set_option maxRecDepth 20000 in
set_option maxHeartbeats 1000000 in
theorem toTi_any(a:Option Addr)(len cap:Nat)(xs:List bH)(w:World)(h:dc w 0 a len xs)(hl:len≤1048576)(hq:∀x ∈ xs,x.q.length≤1048576):Calls Tryz.prog 116 #[.slice a len cap] w fun e w'=>∃a',e= .returned (.slice a' len len)∧dc w' w.heap.size a' len xs∧Below w.heap.size w w':=by
 obtain⟨C,hC,hmk⟩:=mkTi len hl
 go_enter Tryz.func116,Tryz.ntmps116
 go_wp2
 go_loopw [4] (fun i wr=>∃k:Nat,k≤len∧i= .int .i64 k∧eA wr w.heap.size 192 len (xs.take k)∧Below w.heap.size w wr) (fun i _=>len - (intOf i).toNat)
 case atStart=>exact⟨0,Nat.zero_le _,rfl,eA.start hC xs,ai _ _⟩
 case round=>
  obtain⟨k,hk,rfl,hF,hbw⟩:=hrel
  by_cases hlt:k<len
  ·obtain⟨hxl,hml,hx⟩:=h
   obtain⟨g,o,rfl,_,hr⟩:=hx.resolve_left (by omega)
   obtain⟨x,hxk⟩:∃x,xs[k]? =some x:=⟨_,List.getElem?_eq_getElem (by omega)⟩
   have hX:=ab hxk
   have hqk:=hq x (List.mem_of_getElem? hxk)
   obtain⟨qa,ql,qc,c0,c1,c2,hqi,_⟩:=(hr k _ hxk).below hbw
   have hql:ql≤1048576:=by have:=hqi.1;omega
   obtain⟨⟨u0,d0⟩,⟨u1,d1⟩,⟨u2,d2⟩⟩:=hF.1.cells hlt
   have f0:=hF.1.frozen (i:=k*3)
   have f1:=hF.1.frozen (i:=k*3+1)
   have f2:=hF.1.frozen (i:=k*3+2)
   have hz:=hF.1.lt
   clear hx hxk hr
   go_wp2_with (go_at_call 148;refine(toTi_one x qa ql qc _ hqi hql).mono ?_;rintro e w' ⟨a',rfl,H,ge,hb⟩;obtain⟨hc,hf,hs⟩:=ac hb)
   go_roundw
   case rel=>exact⟨k+1,by omega,by go_num,hF.step hb hlt (aa hX) H (fun g' o' hp ha=>(ge g' o' hp ha).less (by omega)),below_setTi (ae hbw hb) (Nat.le_refl _)⟩
   case measure=>simp[intOf];omega
  ·go_wp2
   go_ret
   exact⟨_,rfl,hF.done (by have:=h.1;omega) h.1 h.2.1,hbw⟩
theorem eqTi_one(x:bH)(a1 a2:Option Addr)(len cap1 cap2:Nat)(w:World)(h1:bG w a1 len x.q)(h2:bG w a2 len x.q):Calls Tryz.prog 176 #[.agg #[.slice a1 len cap1,.int .i64 x.ma,.bool x.hd],.agg #[.slice a2 len cap2,.int .i64 x.ma,.bool x.hd]] w fun e w'=>e= .returned (.bool true)∧Below w.heap.size w w':=by
 go_enter Tryz.func176,Tryz.ntmps176
 go_wp2_with (go_at_call 22;refine(fi a1 a2 len cap1 cap2 x.q _ (h1.below (ar)) (h2.below (ar))).mono ?_;rintro e' w' ⟨rfl,hb⟩;obtain⟨hc,hf,hs⟩:=ac hb;have hz0:w.heap.size<w'.heap.size:=(zB hb);have hz1:w.heap.size+1<w'.heap.size:=(zB hb))
 go_ret
 exact⟨rfl,(ar)⟩
set_option maxRecDepth 20000 in
set_option maxHeartbeats 1000000 in
theorem eqTi_any(B1 B2:Nat)(a1 a2:Option Addr)(len cap1 cap2:Nat)(xs:List bH)(w:World)(h1:dc w B1 a1 len xs)(h2:dc w B2 a2 len xs):Calls Tryz.prog 134 #[.slice a1 len cap1,.slice a2 len cap2] w fun e w'=>e= .returned (.bool true)∧Below w.heap.size w w':=by
 have hm:=h1.2.1
 unfold maxLen at hm
 go_enter Tryz.func134,Tryz.ntmps134
 go_wp2
 go_loopw [5] (fun i wr=>∃k:Nat,k≤len∧i= .int .i64 k∧Below w.heap.size w wr) (fun i _=>len - (intOf i).toNat)
 case atStart=>exact⟨0,Nat.zero_le _,rfl,Below.refl _ _⟩
 case round=>
  obtain⟨k,hk,rfl,hbw⟩:=hrel
  by_cases hlt:k<len
  ·obtain⟨hl1,_,hx1⟩:=h1
   obtain⟨hl2,_,hx2⟩:=h2
   obtain⟨g1,o1,rfl,_,hr1⟩:=hx1.resolve_left (by omega)
   obtain⟨g2,o2,rfl,_,hr2⟩:=hx2.resolve_left (by omega)
   obtain⟨x,hxk⟩:∃x,xs[k]? =some x:=⟨_,List.getElem?_eq_getElem (by omega)⟩
   have t1:=(hr1 k _ hxk).below hbw
   have t2:=(hr2 k _ hxk).below hbw
   have hs1:=t1.lt
   have hs2:=t2.lt
   obtain⟨qa1,ql,qc1,c0,c1,c2,q1,_⟩:=t1
   obtain⟨qa2,ql2,qc2,d0,d1,d2,q2,_⟩:=t2
   obtain rfl:ql2=ql:=by have e1:=q1.1;have e2:=q2.1;omega
   have hS:((wr.cell? ⟨g1,o1+k*3,none⟩=some (.slice qa1 ql2 qc1)∧wr.cell? ⟨g1,o1+k*3+1,none⟩=some (.int .i64 x.ma)∧wr.cell? ⟨g1,o1+k*3+2,none⟩=some (.bool x.hd)∧wr.cell? ⟨g2,o2+k*3,none⟩=some (.slice qa2 ql2 qc2)∧wr.cell? ⟨g2,o2+k*3+1,none⟩=some (.int .i64 x.ma)∧wr.cell? ⟨g2,o2+k*3+2,none⟩=some (.bool x.hd))∧g1<wr.heap.size∧g2<wr.heap.size):=⟨⟨c0,c1,c2,d0,d1,d2⟩,hs1,hs2⟩
   clear hx1 hx2 hxk hr1 hr2
   go_wp2
   go_region_held3 (fun W=>((W.cell? ⟨g1,o1+k*3,none⟩=some (.slice qa1 ql2 qc1)∧W.cell? ⟨g1,o1+k*3+1,none⟩=some (.int .i64 x.ma)∧W.cell? ⟨g1,o1+k*3+2,none⟩=some (.bool x.hd)∧W.cell? ⟨g2,o2+k*3,none⟩=some (.slice qa2 ql2 qc2)∧W.cell? ⟨g2,o2+k*3+1,none⟩=some (.int .i64 x.ma)∧W.cell? ⟨g2,o2+k*3+2,none⟩=some (.bool x.hd))∧g1<W.heap.size∧g2<W.heap.size)) ((first|((repeat(first|(with_reducible assumption)|(with_reducible refine dh ?_ (jF))|(with_reducible refine dh ?_ (aj (Below.refl _ _)))|(with_reducible refine dh ?_ (ai _ _))));done)|(refine⟨⟨?_,?_,?_,?_,?_,?_⟩,?_,?_⟩<;>first|(go_keep;done)|(simp;done)|(simp;omega)|omega)))
    (first
    |(go_at_call 176;refine(eqTi_one x qa1 qa2 ql2 qc1 qc2 _ (q1.below (ak)) (q2.below (ak))).mono ?_;rintro e w' ⟨rfl,hb⟩;obtain⟨hc,hf,hs⟩:=ac hb))
   go_wp2
   go_roundw
   case rel=>exact⟨k+1,by omega,by go_num,(ar)⟩
   case measure=>simp[intOf];omega
  ·go_wp2
   go_ret
   exact⟨rfl,hbw⟩
end Go.Proofs.YtealpjmannopeaaGreat
