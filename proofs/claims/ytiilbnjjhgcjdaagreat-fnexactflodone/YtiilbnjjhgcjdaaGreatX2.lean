/- Laid together: what the claim needs of the texts that were built one by one. -/
import Derived.Test.YtiilbnjjhgcjdaaGreatX1
import Derived.Test.YtiilbnjjhgcjdaaGreatX0
import Derived.Deep.Slices
import Derived.Lib.SmallJoins
import Derived.OwnWalk
import Derived.WalkSpells
import Derived.Deep.RegionHeld3
set_option linter.unusedVariables false
namespace Go.Proofs.YtiilbnjjhgcjdaaGreat
open Go.ChangeShapes Go.WideShapes Go.ChangeAt Go.RowKit
/-- A row of 7 numbers. -/
structure ch where
 kd:Int
 tm:Int
 ke:Int
 va:Int
 nn:Int
 st:Int
 en:Int
/-- A row lies in its cells; rows lie one behind the other; a slice's value holds rows. -/
def dl(W:World)(g o:Nat)(x:ch):Prop:=W.cell? ⟨g,o,none⟩=some (.int .i64 x.kd)∧W.cell? ⟨g,o+1,none⟩=some (.int .i64 x.tm)∧W.cell? ⟨g,o+2,none⟩=some (.int .i64 x.ke)∧W.cell? ⟨g,o+3,none⟩=some (.int .i64 x.va)∧W.cell? ⟨g,o+4,none⟩=some (.int .i64 x.nn)∧W.cell? ⟨g,o+5,none⟩=some (.int .i64 x.st)∧W.cell? ⟨g,o+6,none⟩=some (.int .i64 x.en)
def eh(W:World)(g o:Nat)(xs:List ch):Prop:=∀i x,xs[i]? =some x→dl W g (o+i*7) x
def eF(W:World)(a:Option Addr)(len:Nat)(xs:List ch):Prop:=xs.length=len∧len≤maxLen∧(len=0∨∃g o,a=some ⟨g,o,none⟩∧eh W g o xs)
theorem dl.lt{W:World}{g o:Nat}{x:ch}(h:dl W g o x):g<W.heap.size:=by
 obtain⟨h0,_⟩:=h
 rcases Nat.lt_or_ge g W.heap.size with hl|hg
 ·exact hl
 ·simp[World.cell?,Array.getElem?_eq_none hg]at h0
theorem eh.lt{W:World}{g o:Nat}{xs:List ch}(h:eh W g o xs)(hp:0<xs.length):g<W.heap.size:=(h 0 xs[0] (List.getElem?_eq_getElem hp)).lt
theorem dl.below{W W':World}{B g o:Nat}{x:ch}(h:dl W g o x)(hb:Below B W W')(hg:g<B):dl W' g o x:=by
 obtain⟨h0,h1,h2,h3,h4,h5,h6⟩:=h
 exact⟨(hb.cell (p:=⟨g,_,none⟩) hg).trans h0,(hb.cell (p:=⟨g,_,none⟩) hg).trans h1,(hb.cell (p:=⟨g,_,none⟩) hg).trans h2,(hb.cell (p:=⟨g,_,none⟩) hg).trans h3,(hb.cell (p:=⟨g,_,none⟩) hg).trans h4,(hb.cell (p:=⟨g,_,none⟩) hg).trans h5,(hb.cell (p:=⟨g,_,none⟩) hg).trans h6⟩
theorem eh.below{W W':World}{B g o:Nat}{xs:List ch}(h:eh W g o xs)(hb:Below B W W')(hg:0<xs.length→g<B):eh W' g o xs:=by
 intro i x hx
 have hlt:i<xs.length:=(List.getElem?_eq_some_iff.1 hx).1
 exact(h i x hx).below hb (hg (by omega))
theorem eF.below{W W':World}{a:Option Addr}{len:Nat}{xs:List ch}(h:eF W a len xs)(hb:Below W.heap.size W W'):eF W' a len xs:=by
 obtain⟨h1,h2,h3⟩:=h
 refine⟨h1,h2,?_⟩
 rcases h3 with h3|⟨g,o,ha,hr⟩
 ·exact Or.inl h3
 ·exact Or.inr ⟨g,o,ha,hr.below hb (fun hp=>hr.lt hp)⟩
theorem dl.grown{W W':World}{row:Option Nat}{g o:Nat}{x:ch}(h:dl W g o x)(hg:W.grownBy W' row)(hne:some g≠row):dl W' g o x:=by
 have hbk:=hg.block g h.lt hne
 obtain⟨h0,h1,h2,h3,h4,h5,h6⟩:=h
 exact⟨(World.cell?_of_block (w:=W) hbk).trans h0,(World.cell?_of_block (w:=W) hbk).trans h1,(World.cell?_of_block (w:=W) hbk).trans h2,(World.cell?_of_block (w:=W) hbk).trans h3,(World.cell?_of_block (w:=W) hbk).trans h4,(World.cell?_of_block (w:=W) hbk).trans h5,(World.cell?_of_block (w:=W) hbk).trans h6⟩
theorem eF.grown{W W':World}{row:Option Nat}{a:Option Addr}{n:Nat}{xs:List ch}(h:eF W a n xs)(hg:W.grownBy W' row)(hne:∀g o,0<n→a=some ⟨g,o,none⟩→some g≠row):eF W' a n xs:=by
 obtain⟨h1,h2,h3⟩:=h
 refine⟨h1,h2,?_⟩
 rcases h3 with h3|⟨g,o,ha,hr⟩
 ·exact Or.inl h3
 ·refine Or.inr ⟨g,o,ha,fun i x hx=>(hr i x hx).grown hg (hne g o ?_ ha)⟩
  have hlt:i<xs.length:=(List.getElem?_eq_some_iff.1 hx).1
  omega
/-- A row is stored; a block of rows, known whole. -/
def gk(W:World)(g o:Nat)(x:ch):World:=(((((((W.setCell ⟨g,o,none⟩ (.int .i64 x.kd)).setCell ⟨g,o+1,none⟩ (.int .i64 x.tm)).setCell ⟨g,o+2,none⟩ (.int .i64 x.ke)).setCell ⟨g,o+3,none⟩ (.int .i64 x.va)).setCell ⟨g,o+4,none⟩ (.int .i64 x.nn)).setCell ⟨g,o+5,none⟩ (.int .i64 x.st)).setCell ⟨g,o+6,none⟩ (.int .i64 x.en))
def ci(W:World)(g ty len:Nat):Prop:=∃cur,W.heap[g]? =some (.cells cur ty (0,0))∧cur.size=len*7
theorem ci.set{W:World}{g ty len i:Nat}(h:ci W g ty len)(v:Value):ci (W.setCell ⟨g,i,none⟩ v) g ty len:=by
 obtain⟨cur,h1,h2⟩:=h
 exact⟨_,Joins.block_setCell h1 v,by simp[h2]⟩
theorem ci.below{W W':World}{g ty len B:Nat}(h:ci W g ty len)(hb:Below B W W')(hg:g<B):ci W' g ty len:=by
 obtain⟨cur,h1,h2⟩:=h
 exact⟨cur,(hb.block g hg).trans h1,h2⟩
theorem ci.lt{W:World}{g ty len:Nat}(h:ci W g ty len):g<W.heap.size:=by
 obtain⟨cur,h1,h2⟩:=h
 exact(Array.getElem?_eq_some_iff.1 h1).1
theorem ci.cell{W:World}{g ty len i:Nat}(h:ci W g ty len)(hi:i<len*7):∃u,W.cell? ⟨g,i,none⟩=some u:=by
 obtain⟨cur,h1,h2⟩:=h
 exact⟨_,(cA h1 i).trans (Array.getElem?_eq_getElem (by omega))⟩
theorem ci.frozen{W:World}{g ty len i:Nat}(h:ci W g ty len):W.frozen? ⟨g,i,none⟩=false:=by
 obtain⟨cur,h1,h2⟩:=h
 exact Joins.unfrozen_of_block h1 i
theorem ci.cells{W:World}{g ty len k:Nat}(h:ci W g ty len)(hk:k<len):(∃u,W.cell? ⟨g,k*7,none⟩=some u)∧(∃u,W.cell? ⟨g,k*7+1,none⟩=some u)∧(∃u,W.cell? ⟨g,k*7+2,none⟩=some u)∧(∃u,W.cell? ⟨g,k*7+3,none⟩=some u)∧(∃u,W.cell? ⟨g,k*7+4,none⟩=some u)∧(∃u,W.cell? ⟨g,k*7+5,none⟩=some u)∧(∃u,W.cell? ⟨g,k*7+6,none⟩=some u):=⟨h.cell (by omega),h.cell (by omega),h.cell (by omega),h.cell (by omega),h.cell (by omega),h.cell (by omega),h.cell (by omega)⟩
theorem ci.sets{W:World}{g ty len o:Nat}(h:ci W g ty len)(x:ch):ci (gk W g o x) g ty len:=(((((((h.set _).set _).set _).set _).set _).set _).set _)
theorem aw{W:World}{g i j:Nat}{v:Value}(h:i≠j):(W.setCell ⟨g,i,none⟩ v).cell? ⟨g,j,none⟩=W.cell? ⟨g,j,none⟩:=World.cell?_setCell_other _ _ _ _ (by intro e;injection e with e1 e2;exact h e2)
theorem ei{W:World}{g ty len i:Nat}{v:Value}(h:ci W g ty len)(hi:i<len*7):(W.setCell ⟨g,i,none⟩ v).cell? ⟨g,i,none⟩=some v:=by
 obtain⟨u,hu⟩:=h.cell hi
 exact World.cell?_setCell_same _ _ _ hu
theorem setLp_this{W:World}{g ty len k:Nat}(h:ci W g ty len)(hk:k<len)(x:ch):dl (gk W g (k*7) x) g (k*7) x:=by
 unfold gk
 refine⟨?_,?_,?_,?_,?_,?_,?_⟩
 ·(repeat rw[aw (by omega)]);rw[ei h (by omega)]
 ·(repeat rw[aw (by omega)]);rw[ei (h.set _) (by omega)]
 ·(repeat rw[aw (by omega)]);rw[ei ((h.set _).set _) (by omega)]
 ·(repeat rw[aw (by omega)]);rw[ei (((h.set _).set _).set _) (by omega)]
 ·rw[aw (by omega),aw (by omega),ei ((((h.set _).set _).set _).set _) (by omega)]
 ·rw[aw (by omega),ei (((((h.set _).set _).set _).set _).set _) (by omega)]
 ·rw[ei ((((((h.set _).set _).set _).set _).set _).set _) (by omega)]
theorem setLp_ne{W:World}{g i k:Nat}{x y:ch}(h:dl W g (i*7) y)(hk:i≠k):dl (gk W g (k*7) x) g (i*7) y:=by
 unfold gk
 obtain⟨h0,h1,h2,h3,h4,h5,h6⟩:=h
 refine⟨?_,?_,?_,?_,?_,?_,?_⟩
 ·rw[aw (by omega),aw (by omega),aw (by omega),aw (by omega),aw (by omega),aw (by omega),aw (by omega)];exact h0
 ·rw[aw (by omega),aw (by omega),aw (by omega),aw (by omega),aw (by omega),aw (by omega),aw (by omega)];exact h1
 ·rw[aw (by omega),aw (by omega),aw (by omega),aw (by omega),aw (by omega),aw (by omega),aw (by omega)];exact h2
 ·rw[aw (by omega),aw (by omega),aw (by omega),aw (by omega),aw (by omega),aw (by omega),aw (by omega)];exact h3
 ·rw[aw (by omega),aw (by omega),aw (by omega),aw (by omega),aw (by omega),aw (by omega),aw (by omega)];exact h4
 ·rw[aw (by omega),aw (by omega),aw (by omega),aw (by omega),aw (by omega),aw (by omega),aw (by omega)];exact h5
 ·rw[aw (by omega),aw (by omega),aw (by omega),aw (by omega),aw (by omega),aw (by omega),aw (by omega)];exact h6
def WrLp(W:World)(a:Option Addr)(n cap:Nat):Prop:=n=0∨∃g,a=some ⟨g,0,none⟩∧ci W g 120 cap∧n≤cap
set_option maxHeartbeats 1000000 in
theorem eqLp_one(x:ch)(w:World):Calls Tryz.prog 67 #[.agg #[.int .i64 x.kd,.int .i64 x.tm,.int .i64 x.ke,.int .i64 x.va,.int .i64 x.nn,.int .i64 x.st,.int .i64 x.en],.agg #[.int .i64 x.kd,.int .i64 x.tm,.int .i64 x.ke,.int .i64 x.va,.int .i64 x.nn,.int .i64 x.st,.int .i64 x.en]] w fun e w'=>e= .returned (.bool true)∧Below w.heap.size w w':=by
 go_enter Tryz.func67,Tryz.ntmps67
 go_wp2_with (first
  |(go_at_call 70;refine(eqItmT _ _ _ _ _ _).mono ?_;rintro e w' ⟨rfl,hb⟩;obtain⟨hc,hf,hs⟩:=ac hb;(try have hz0:=zA hb w.heap.size);(try have hz1:=zA hb (w.heap.size+1)))
  |(go_at_call 117;refine(eqWinT _ _ _).mono ?_;rintro e w' ⟨rfl,hb⟩;obtain⟨hc,hf,hs⟩:=ac hb;(try have hz0:=zA hb w.heap.size);(try have hz1:=zA hb (w.heap.size+1))))
 go_ret
 exact⟨rfl,(ar)⟩
set_option maxRecDepth 20000 in
set_option maxHeartbeats 1000000 in
theorem eqLp_any(a1 a2:Option Addr)(len cap1 cap2:Nat)(xs:List ch)(w:World)(h1:eF w a1 len xs)(h2:eF w a2 len xs):Calls Tryz.prog 22 #[.slice a1 len cap1,.slice a2 len cap2] w fun e w'=>e= .returned (.bool true)∧Below w.heap.size w w':=by
 have hm:=h1.2.1
 unfold maxLen at hm
 go_enter Tryz.func22,Tryz.ntmps22
 go_wp2
 go_loopw [5] (fun i wr=>∃k:Nat,k≤len∧i= .int .i64 k∧Below w.heap.size w wr) (fun i _=>len - (intOf i).toNat)
 case atStart=>exact⟨0,Nat.zero_le _,rfl,Below.refl _ _⟩
 case round=>
  obtain⟨k,hk,rfl,hbw⟩:=hrel
  by_cases hlt:k<len
  ·obtain⟨hl1,_,hx1⟩:=h1
   obtain⟨hl2,_,hx2⟩:=h2
   obtain⟨g1,o1,rfl,hr1⟩:=hx1.resolve_left (by omega)
   obtain⟨g2,o2,rfl,hr2⟩:=hx2.resolve_left (by omega)
   obtain⟨x,hxk⟩:∃x,xs[k]? =some x:=⟨_,List.getElem?_eq_getElem (by omega)⟩
   have hg1:g1<w.heap.size:=hr1.lt (by omega)
   have hg2:g2<w.heap.size:=hr2.lt (by omega)
   have hs1:g1<wr.heap.size:=Nat.lt_of_lt_of_le hg1 hbw.size
   have hs2:g2<wr.heap.size:=Nat.lt_of_lt_of_le hg2 hbw.size
   have hS:((wr.cell? ⟨g1,o1+k*7,none⟩=some (.int .i64 x.kd)∧wr.cell? ⟨g1,o1+k*7+1,none⟩=some (.int .i64 x.tm)∧wr.cell? ⟨g1,o1+k*7+2,none⟩=some (.int .i64 x.ke)∧wr.cell? ⟨g1,o1+k*7+3,none⟩=some (.int .i64 x.va)∧wr.cell? ⟨g1,o1+k*7+4,none⟩=some (.int .i64 x.nn)∧wr.cell? ⟨g1,o1+k*7+5,none⟩=some (.int .i64 x.st)∧wr.cell? ⟨g1,o1+k*7+6,none⟩=some (.int .i64 x.en)∧wr.cell? ⟨g2,o2+k*7,none⟩=some (.int .i64 x.kd)∧wr.cell? ⟨g2,o2+k*7+1,none⟩=some (.int .i64 x.tm)∧wr.cell? ⟨g2,o2+k*7+2,none⟩=some (.int .i64 x.ke)∧wr.cell? ⟨g2,o2+k*7+3,none⟩=some (.int .i64 x.va)∧wr.cell? ⟨g2,o2+k*7+4,none⟩=some (.int .i64 x.nn)∧wr.cell? ⟨g2,o2+k*7+5,none⟩=some (.int .i64 x.st)∧wr.cell? ⟨g2,o2+k*7+6,none⟩=some (.int .i64 x.en))∧g1<wr.heap.size∧g2<wr.heap.size):=by
    obtain⟨c0,c1,c2,c3,c4,c5,c6⟩:=(hr1 k _ hxk).below hbw hg1
    obtain⟨d0,d1,d2,d3,d4,d5,d6⟩:=(hr2 k _ hxk).below hbw hg2
    exact⟨⟨c0,c1,c2,c3,c4,c5,c6,d0,d1,d2,d3,d4,d5,d6⟩,hs1,hs2⟩
   clear hx1 hx2 hxk hr1 hr2
   go_wp2
   go_region_held3 (fun W=>((W.cell? ⟨g1,o1+k*7,none⟩=some (.int .i64 x.kd)∧W.cell? ⟨g1,o1+k*7+1,none⟩=some (.int .i64 x.tm)∧W.cell? ⟨g1,o1+k*7+2,none⟩=some (.int .i64 x.ke)∧W.cell? ⟨g1,o1+k*7+3,none⟩=some (.int .i64 x.va)∧W.cell? ⟨g1,o1+k*7+4,none⟩=some (.int .i64 x.nn)∧W.cell? ⟨g1,o1+k*7+5,none⟩=some (.int .i64 x.st)∧W.cell? ⟨g1,o1+k*7+6,none⟩=some (.int .i64 x.en)∧W.cell? ⟨g2,o2+k*7,none⟩=some (.int .i64 x.kd)∧W.cell? ⟨g2,o2+k*7+1,none⟩=some (.int .i64 x.tm)∧W.cell? ⟨g2,o2+k*7+2,none⟩=some (.int .i64 x.ke)∧W.cell? ⟨g2,o2+k*7+3,none⟩=some (.int .i64 x.va)∧W.cell? ⟨g2,o2+k*7+4,none⟩=some (.int .i64 x.nn)∧W.cell? ⟨g2,o2+k*7+5,none⟩=some (.int .i64 x.st)∧W.cell? ⟨g2,o2+k*7+6,none⟩=some (.int .i64 x.en))∧g1<W.heap.size∧g2<W.heap.size)) ((first|((repeat(first|(with_reducible assumption)|(with_reducible refine fF ?_ (iP))|(with_reducible refine fF ?_ (ag (Below.refl _ _)))|(with_reducible refine fF ?_ (ai _ _))));done)|(refine⟨⟨?_,?_,?_,?_,?_,?_,?_,?_,?_,?_,?_,?_,?_,?_⟩,?_,?_⟩<;>first|(go_keep;done)|(simp;done)|(simp;omega)|omega)))
    (first
    |(go_at_call 67;refine(eqLp_one _ _).mono ?_;rintro e w' ⟨rfl,hb⟩;obtain⟨hc,hf,hs⟩:=ac hb))
   go_wp2
   go_roundw
   case rel=>exact⟨k+1,by omega,by go_num,(ar)⟩
   case measure=>simp[intOf];omega
  ·go_wp2
   go_ret
   exact⟨rfl,hbw⟩
end Go.Proofs.YtiilbnjjhgcjdaaGreat
namespace Go.Proofs.YtiilbnjjhgcjdaaGreat
open Go.ChangeShapes Go.WideShapes Go.ChangeAt Go.RowKit Go.Deep
/-- Each number is an int. -/
def ch.ok64(x:ch):Prop:=(-9223372036854775808≤x.kd∧x.kd≤9223372036854775807)∧(-9223372036854775808≤x.tm∧x.tm≤9223372036854775807)∧(-9223372036854775808≤x.ke∧x.ke≤9223372036854775807)∧(-9223372036854775808≤x.va∧x.va≤9223372036854775807)∧(-9223372036854775808≤x.nn∧x.nn≤9223372036854775807)∧(-9223372036854775808≤x.st∧x.st≤9223372036854775807)∧(-9223372036854775808≤x.en∧x.en≤9223372036854775807)
section
variable {H : Type} {enc : TypeId × Value → H} {P : Program} {w : World} {base : Nat} {spare : Nat → Bool} {held : Bool}
theorem cellsLp{a:Addr}{cs:List Value}(h:w.cells? base a 7=some cs)(f0:dV cs [false,false,false,false,false,false,false]):a.spot=none∧∃x:ch,dl w a.block a.off x∧x.ok64:=by
 obtain⟨z0,r0,rfl,y0,f1⟩:=aC f0
 clear f0
 obtain⟨z1,r1,rfl,y1,f2⟩:=aC f1
 clear f1
 obtain⟨z2,r2,rfl,y2,f3⟩:=aC f2
 clear f2
 obtain⟨z3,r3,rfl,y3,f4⟩:=aC f3
 clear f3
 obtain⟨z4,r4,rfl,y4,f5⟩:=aC f4
 clear f4
 obtain⟨z5,r5,rfl,y5,f6⟩:=aC f5
 clear f5
 obtain⟨z6,r6,rfl,y6,f7⟩:=aC f6
 clear f6
 obtain rfl:=eP f7
 obtain⟨_,hlen,hc⟩:=World.cells?_some h
 have c0:=hc 0 (by omega)
 have c1:=hc 1 (by omega)
 have c2:=hc 2 (by omega)
 have c3:=hc 3 (by omega)
 have c4:=hc 4 (by omega)
 have c5:=hc 5 (by omega)
 have c6:=hc 6 (by omega)
 obtain⟨g,o,sp⟩:=a
 have ha0:(⟨g,o,sp⟩:Addr).add 0=⟨g,o,sp⟩:=by simp[Addr.add]
 have hsp:sp=none:=World.cell?_spot (w:=w) (a:=⟨g,o,sp⟩) (v:= .int .i64 z0) (by rw[←ha0];simpa using c0)
 subst hsp
 exact⟨rfl,⟨z0,z1,z2,z3,z4,z5,z6⟩,⟨by simpa[Addr.add]using c0,by simpa[Addr.add]using c1,by simpa[Addr.add]using c2,by simpa[Addr.add]using c3,by simpa[Addr.add]using c4,by simpa[Addr.add]using c5,by simpa[Addr.add]using c6⟩,aV y0,aV y1,aV y2,aV y3,aV y4,aV y5,aV y6⟩
theorem openLp{t e:TypeId}{a:Option Addr}{len cap:Nat}{d:DataW H}{p:List MemPlace}(ht:P.underlying t=some (.slice e))(hk:bc P 5 e=some [false,false,false,false,false,false,false])(hC:P.cellsOf e=7)
  (h:DataW.Trod enc P w base spare held t (.slice a len cap) d p):∃xs:List ch,eF w a len xs∧∀x ∈ xs,x.ok64:=by
 obtain⟨fuel,hf⟩:=h
 rcases open_slice ht hf with⟨hcs,_⟩|⟨a',len',cap',m,n,D,Pl,hcs,_,hl,hm,hmm,_,hx⟩
 ·simp[Value.cells]at hcs
  obtain⟨rfl,rfl,rfl⟩:=hcs
  exact⟨[],⟨rfl,Nat.zero_le _,Or.inl rfl⟩,by simp⟩
 ·simp[Value.cells]at hcs
  obtain⟨rfl,rfl,rfl⟩:=hcs
  have hlm:len≤m:=by rw[hmm];split<;>omega
  have hall:∀i,i<len→∃x:ch,(i=0→a'.spot=none)∧dl w a'.block (a'.off+i*7) x∧x.ok64:=by
   intro i hi
   obtain⟨cs',h1,h2⟩:=hx i (by omega)
   rw[hC]at h1
   obtain⟨hsp,x,hxa,hxo⟩:=cellsLp h1 (de 5 hk h2)
   have hb:(a'.add (i*7)).block=a'.block∧(a'.add (i*7)).off=a'.off+i*7:=by
    unfold Addr.add
    split
    ·exact⟨rfl,by omega⟩
    ·exact⟨rfl,rfl⟩
   rw[hb.1,hb.2]at hxa
   refine⟨x,fun h0=>?_,hxa,hxo⟩
   subst h0
   simpa[Addr.add]using hsp
  by_cases h0:len=0
  ·subst h0
   exact⟨[],⟨rfl,Nat.zero_le _,Or.inl rfl⟩,by simp⟩
  have hinh:Inhabited ch:=⟨⟨0,0,0,0,0,0,0⟩⟩
  obtain⟨f,hf'⟩:=choose_lt hall
  have hsp:=(hf' 0 (by omega)).1 rfl
  refine⟨(List.range len).map f,⟨by simp,by omega,Or.inr ⟨a'.block,a'.off,by cases a';simp_all,?_⟩⟩,?_⟩
  ·intro i x hix
   simp only[List.getElem?_map,Option.map_eq_some_iff]at hix
   obtain⟨j,hj,rfl⟩:=hix
   have hil:i<len:=by
    rcases Nat.lt_or_ge i len with h'|h'
    ·exact h'
    ·rw[List.getElem?_eq_none (by simpa using h')]at hj;cases hj
   rw[List.getElem?_eq_getElem (by simpa using hil)]at hj
   simp at hj
   subst hj
   exact(hf' i hil).2.1
  ·intro x hxm
   simp only[List.mem_map,List.mem_range]at hxm
   obtain⟨i,hi,rfl⟩:=hxm
   exact(hf' i hi).2.2
end
theorem Tryz.infoLp:(Tryz.prog.info? 120).map (fun i=>(i.zero,i.size,i.bytes))=some (some (.agg #[.int .i64 0,.int .i64 0,.int .i64 0,.int .i64 0,.int .i64 0,.int .i64 0,.int .i64 0]),7,56):=by kernel_rfl
theorem mkLp(len:Nat)(hl:len≤1048576):∃C:Array Value,C.size=len*7∧∀w:World,(Instr.makeSlice 59 (.int .i64 (len:Int)) (.int .i64 (len:Int))).run Tryz.prog w= .ok (.slice (some ⟨w.heap.size,0,none⟩) len len) (w.alloc (.cells C 120)):=by
 obtain⟨i0,hi,hz0,hz1,hz2⟩:=info_parts Tryz.infoLp
 refine⟨madeCells (Value.agg #[.int .i64 0,.int .i64 0,.int .i64 0,.int .i64 0,.int .i64 0,.int .i64 0,.int .i64 0]).cells (len*i0.size),by rw[size_madeCells,hz1],fun w=>?_⟩
 have h:=run_make (P:=Tryz.prog) w 59 120 i0 _ Tryz.underlying59 hi hz0 .i64 .i64 len len (by omega) (Int.le_refl _) (by rw[hz2];omega) (by omega)
 simpa using h
/-- The slice that is being filled. -/
def ej(W:World)(g ty len:Nat)(ys:List ch):Prop:=ci W g ty len∧∀i x,ys[i]? =some x→dl W g (i*7) x
theorem ej.step{wr w':World}{g ty len k:Nat}{xs:List ch}{x:ch}(h:ej wr g ty len (xs.take k))(hb:Below wr.heap.size wr w')(hk:k<len)(hx:xs[k]? =some x):ej (gk w' g (k*7) x) g ty len (xs.take (k+1)):=by
 have hB:=h.1.below hb h.1.lt
 refine⟨hB.sets x,fun i y hy=>?_⟩
 have hik:i<k+1:=by
  rcases Nat.lt_or_ge i (k+1)with h'|h'
  ·exact h'
  ·rw[List.getElem?_eq_none (iT)]at hy;cases hy
 rw[List.getElem?_take_of_lt hik]at hy
 by_cases he:i=k
 ·subst he
  rw[hx]at hy
  cases hy
  exact setLp_this hB hk x
 ·refine setLp_ne ?_ he
  exact(h.2 i y (by rw[List.getElem?_take_of_lt (by omega)];exact hy)).below hb h.1.lt
theorem ej.start{w:World}{ty len:Nat}{C:Array Value}(hC:C.size=len*7)(xs:List ch):ej (w.alloc (.cells C ty)) w.heap.size ty len (xs.take 0):=
 ⟨⟨C,by show(w.heap.push _)[w.heap.size]? =_;simp,hC⟩,fun i x h=>by simp at h⟩
theorem ej.done{W:World}{g ty len k:Nat}{xs:List ch}(h:ej W g ty len (xs.take k))(hk:xs.length≤k):eh W g 0 xs:=by
 intro i x hx
 rw[List.take_of_length_le hk]at h
 simpa using h.2 i x hx
theorem below_setLp{B g o:Nat}{W W':World}{x:ch}(h:Below B W W')(hg:B≤g):Below B W (gk W' g o x):=(((((((h.setCell hg _).setCell hg _).setCell hg _).setCell hg _).setCell hg _).setCell hg _).setCell hg _)
set_option maxRecDepth 20000 in
set_option maxHeartbeats 1000000 in
theorem toLp_one(kd tm ke va nn st en:Int)(w:World):Calls Tryz.prog 188 #[.agg #[.int .i64 kd,.int .i64 tm,.int .i64 ke,.int .i64 va,.int .i64 nn,.int .i64 st,.int .i64 en]] w fun e w'=>e= .returned (.agg #[.int .i64 kd,.int .i64 tm,.int .i64 ke,.int .i64 va,.int .i64 nn,.int .i64 st,.int .i64 en])∧Below w.heap.size w w':=by
 go_enter Tryz.func188,Tryz.ntmps188
 go_wp2_with (first
  |(go_at_call 142;refine(toItmT _ _ _ _ _ _).mono ?_;rintro e w' ⟨rfl,hb⟩;obtain⟨hc,hf,hs⟩:=ac hb;(try have hz0:=zA hb w.heap.size);(try have hz1:=zA hb (w.heap.size+1));(try have hz2:=zA hb (w.heap.size+1+1)))
  |(go_at_call 209;refine(fE _ _ _).mono ?_;rintro e w' ⟨rfl,hb⟩;obtain⟨hc,hf,hs⟩:=ac hb;(try have hz0:=zA hb w.heap.size);(try have hz1:=zA hb (w.heap.size+1));(try have hz2:=zA hb (w.heap.size+1+1))))
 refine bodyPost_ret (v:= .agg #[.int .i64 kd,.int .i64 tm,.int .i64 ke,.int .i64 va,.int .i64 nn,.int .i64 st,.int .i64 en]) (by simp(maxDischargeDepth:=9) [results,Tryz.results188,go_sem, *]) rfl ⟨rfl,?_⟩
 exact(ar)
set_option maxRecDepth 20000 in
set_option maxHeartbeats 1000000 in
theorem toLp_at(a:Option Addr)(len cap:Nat)(xs:List ch)(w:World)(h:eF w a len xs)(hl:len≤1048576):Calls Tryz.prog 148 #[.slice a len cap] w fun e w'=>e= .returned (.slice (some ⟨w.heap.size,0,none⟩) len len)∧eh w' w.heap.size 0 xs∧ci w' w.heap.size 120 len∧Below w.heap.size w w':=by
 obtain⟨C,hC,hmk⟩:=mkLp len hl
 go_enter Tryz.func148,Tryz.ntmps148
 go_wp2
 go_loopw [4] (fun i wr=>∃k:Nat,k≤len∧i= .int .i64 k∧ej wr w.heap.size 120 len (xs.take k)∧Below w.heap.size w wr) (fun i _=>len - (intOf i).toNat)
 case atStart=>exact⟨0,Nat.zero_le _,rfl,ej.start hC xs,ai _ _⟩
 case round=>
  obtain⟨k,hk,rfl,hF,hbw⟩:=hrel
  by_cases hlt:k<len
  ·obtain⟨hxl,hml,hx⟩:=h
   obtain⟨g,o,rfl,hr⟩:=hx.resolve_left (by omega)
   obtain⟨x,hxk⟩:∃x,xs[k]? =some x:=⟨_,List.getElem?_eq_getElem (by omega)⟩
   have hg:g<w.heap.size:=hr.lt (by omega)
   have hX:=ab hxk
   obtain⟨c0,c1,c2,c3,c4,c5,c6⟩:=(hr k _ hxk).below hbw hg
   obtain⟨⟨u0,d0⟩,⟨u1,d1⟩,⟨u2,d2⟩,⟨u3,d3⟩,⟨u4,d4⟩,⟨u5,d5⟩,⟨u6,d6⟩⟩:=hF.1.cells hlt
   have f0:=hF.1.frozen (i:=k*7)
   have f1:=hF.1.frozen (i:=k*7+1)
   have f2:=hF.1.frozen (i:=k*7+2)
   have f3:=hF.1.frozen (i:=k*7+3)
   have f4:=hF.1.frozen (i:=k*7+4)
   have f5:=hF.1.frozen (i:=k*7+5)
   have f6:=hF.1.frozen (i:=k*7+6)
   have hz:=hF.1.lt
   clear hx hxk
   go_wp2_with (go_at_call 188;refine(toLp_one _ _ _ _ _ _ _ _).mono ?_;rintro e w' ⟨rfl,hb⟩;obtain⟨hc,hf,hs⟩:=ac hb)
   go_roundw
   case rel=>exact⟨k+1,by omega,by go_num,hF.step hb hlt (aa hX),below_setLp (ad hbw hb) (Nat.le_refl _)⟩
   case measure=>simp[intOf];omega
  ·go_wp2
   go_ret
   exact⟨rfl,hF.done (by have:=h.1;omega),hF.1,hbw⟩
theorem LpRs_of{W:World}{g len:Nat}{xs:List ch}(h1:xs.length=len)(h2:len≤maxLen)(h:eh W g 0 xs):eF W (some ⟨g,0,none⟩) len xs:=⟨h1,h2,Or.inr ⟨g,0,rfl,h⟩⟩
theorem toLp_any(a:Option Addr)(len cap:Nat)(xs:List ch)(w:World)(h:eF w a len xs)(hl:len≤1048576):Calls Tryz.prog 148 #[.slice a len cap] w fun e w'=>∃a',e= .returned (.slice a' len len)∧eF w' a' len xs∧WrLp w' a' len len∧(∀g o,0<len→a'=some ⟨g,o,none⟩→w.heap.size≤g)∧Below w.heap.size w w':=
 (toLp_at a len cap xs w h hl).mono fun e w' ⟨h1,h2,h3,h4⟩=>⟨_,h1,LpRs_of h.1 h.2.1 h2,Or.inr ⟨_,rfl,h3,Nat.le_refl _⟩,fun g o _ e'=>by simp at e';omega,h4⟩
/-- Such rows, in a block that is not below B. -/
def dC(W:World)(B:Nat)(a:Option Addr)(n:Nat)(xs:List bz):Prop:=dc W a n xs∧∀g o,0<n→a=some ⟨g,o,none⟩→B≤g
theorem dC.below{W W':World}{B:Nat}{a:Option Addr}{n:Nat}{xs:List bz}(h:dC W B a n xs)(hb:Below W.heap.size W W'):dC W' B a n xs:=⟨h.1.below hb,h.2⟩
theorem dC.less{W:World}{B B':Nat}{a:Option Addr}{n:Nat}{xs:List bz}(h:dC W B a n xs)(hB:B'≤B):dC W B' a n xs:=⟨h.1,fun g o hn ha=>Nat.le_trans hB (h.2 g o hn ha)⟩
theorem dC.len{W:World}{B:Nat}{a:Option Addr}{n:Nat}{xs:List bz}(h:dC W B a n xs):xs.length=n∧n≤maxLen:=⟨h.1.1,h.1.2.1⟩
theorem dC.set{W:World}{B:Nat}{p:Addr}{v:Value}{a:Option Addr}{n:Nat}{xs:List bz}(h:dC W B a n xs)(hp:p.block<B):dC (W.setCell p v) B a n xs:=⟨h.1.grown (cc p v) (fun g o hn ha=>by have:=h.2 g o hn ha;simp;omega),h.2⟩
/-- Such rows, in a block that is not below B. -/
def bo(W:World)(B:Nat)(a:Option Addr)(n:Nat)(xs:List Int):Prop:=fb W a n xs∧∀g o,0<n→a=some ⟨g,o,none⟩→B≤g
theorem bo.below{W W':World}{B:Nat}{a:Option Addr}{n:Nat}{xs:List Int}(h:bo W B a n xs)(hb:Below W.heap.size W W'):bo W' B a n xs:=⟨h.1.below hb,h.2⟩
theorem bo.less{W:World}{B B':Nat}{a:Option Addr}{n:Nat}{xs:List Int}(h:bo W B a n xs)(hB:B'≤B):bo W B' a n xs:=⟨h.1,fun g o hn ha=>Nat.le_trans hB (h.2 g o hn ha)⟩
theorem bo.len{W:World}{B:Nat}{a:Option Addr}{n:Nat}{xs:List Int}(h:bo W B a n xs):xs.length=n∧n≤maxLen:=⟨h.1.1,h.1.2.1⟩
theorem bo.set{W:World}{B:Nat}{p:Addr}{v:Value}{a:Option Addr}{n:Nat}{xs:List Int}(h:bo W B a n xs)(hp:p.block<B):bo (W.setCell p v) B a n xs:=⟨h.1.keepB (S:=fun b=>b=p.block) (fa.set (S:=fun b=>b=p.block) (p:=p) (fa.refl _ W) rfl v) (fun g o hn ha=>by have:=h.2 g o hn ha;omega),h.2⟩
/-- Such rows, in a block that is not below B. -/
def dN(W:World)(B:Nat)(a:Option Addr)(n:Nat)(xs:List Bool):Prop:=fW W a n xs∧∀g o,0<n→a=some ⟨g,o,none⟩→B≤g
theorem dN.below{W W':World}{B:Nat}{a:Option Addr}{n:Nat}{xs:List Bool}(h:dN W B a n xs)(hb:Below W.heap.size W W'):dN W' B a n xs:=⟨h.1.below hb,h.2⟩
theorem dN.less{W:World}{B B':Nat}{a:Option Addr}{n:Nat}{xs:List Bool}(h:dN W B a n xs)(hB:B'≤B):dN W B' a n xs:=⟨h.1,fun g o hn ha=>Nat.le_trans hB (h.2 g o hn ha)⟩
theorem dN.len{W:World}{B:Nat}{a:Option Addr}{n:Nat}{xs:List Bool}(h:dN W B a n xs):xs.length=n∧n≤maxLen:=⟨h.1.1,h.1.2.1⟩
theorem dN.set{W:World}{B:Nat}{p:Addr}{v:Value}{a:Option Addr}{n:Nat}{xs:List Bool}(h:dN W B a n xs)(hp:p.block<B):dN (W.setCell p v) B a n xs:=⟨h.1.keepB (S:=fun b=>b=p.block) (fa.set (S:=fun b=>b=p.block) (p:=p) (fa.refl _ W) rfl v) (fun g o hn ha=>by have:=h.2 g o hn ha;omega),h.2⟩
/-- Such rows, in a block that is not below B. -/
def gl(W:World)(B:Nat)(a:Option Addr)(n:Nat)(xs:List cH):Prop:=cw W a n xs∧∀g o,0<n→a=some ⟨g,o,none⟩→B≤g
theorem gl.below{W W':World}{B:Nat}{a:Option Addr}{n:Nat}{xs:List cH}(h:gl W B a n xs)(hb:Below W.heap.size W W'):gl W' B a n xs:=⟨h.1.below hb,h.2⟩
theorem gl.less{W:World}{B B':Nat}{a:Option Addr}{n:Nat}{xs:List cH}(h:gl W B a n xs)(hB:B'≤B):gl W B' a n xs:=⟨h.1,fun g o hn ha=>Nat.le_trans hB (h.2 g o hn ha)⟩
theorem gl.len{W:World}{B:Nat}{a:Option Addr}{n:Nat}{xs:List cH}(h:gl W B a n xs):xs.length=n∧n≤maxLen:=⟨h.1.1,h.1.2.1⟩
theorem gl.set{W:World}{B:Nat}{p:Addr}{v:Value}{a:Option Addr}{n:Nat}{xs:List cH}(h:gl W B a n xs)(hp:p.block<B):gl (W.setCell p v) B a n xs:=⟨h.1.grown (cc p v) (fun g o hn ha=>by have:=h.2 g o hn ha;simp;omega),h.2⟩
/-- Such rows, in a block that is not below B. -/
def cG(W:World)(B:Nat)(a:Option Addr)(n:Nat)(xs:List cl):Prop:=eE W a n xs∧∀g o,0<n→a=some ⟨g,o,none⟩→B≤g
theorem cG.below{W W':World}{B:Nat}{a:Option Addr}{n:Nat}{xs:List cl}(h:cG W B a n xs)(hb:Below W.heap.size W W'):cG W' B a n xs:=⟨h.1.below hb,h.2⟩
theorem cG.less{W:World}{B B':Nat}{a:Option Addr}{n:Nat}{xs:List cl}(h:cG W B a n xs)(hB:B'≤B):cG W B' a n xs:=⟨h.1,fun g o hn ha=>Nat.le_trans hB (h.2 g o hn ha)⟩
theorem cG.len{W:World}{B:Nat}{a:Option Addr}{n:Nat}{xs:List cl}(h:cG W B a n xs):xs.length=n∧n≤maxLen:=⟨h.1.1,h.1.2.1⟩
theorem cG.set{W:World}{B:Nat}{p:Addr}{v:Value}{a:Option Addr}{n:Nat}{xs:List cl}(h:cG W B a n xs)(hp:p.block<B):cG (W.setCell p v) B a n xs:=⟨h.1.grown (cc p v) (fun g o hn ha=>by have:=h.2 g o hn ha;simp;omega),h.2⟩
/-- Such rows, in a block that is not below B. -/
def cJ(W:World)(B:Nat)(a:Option Addr)(n:Nat)(xs:List ch):Prop:=eF W a n xs∧∀g o,0<n→a=some ⟨g,o,none⟩→B≤g
theorem cJ.below{W W':World}{B:Nat}{a:Option Addr}{n:Nat}{xs:List ch}(h:cJ W B a n xs)(hb:Below W.heap.size W W'):cJ W' B a n xs:=⟨h.1.below hb,h.2⟩
theorem cJ.less{W:World}{B B':Nat}{a:Option Addr}{n:Nat}{xs:List ch}(h:cJ W B a n xs)(hB:B'≤B):cJ W B' a n xs:=⟨h.1,fun g o hn ha=>Nat.le_trans hB (h.2 g o hn ha)⟩
theorem cJ.len{W:World}{B:Nat}{a:Option Addr}{n:Nat}{xs:List ch}(h:cJ W B a n xs):xs.length=n∧n≤maxLen:=⟨h.1.1,h.1.2.1⟩
theorem cJ.set{W:World}{B:Nat}{p:Addr}{v:Value}{a:Option Addr}{n:Nat}{xs:List ch}(h:cJ W B a n xs)(hp:p.block<B):cJ (W.setCell p v) B a n xs:=⟨h.1.grown (cc p v) (fun g o hn ha=>by have:=h.2 g o hn ha;simp;omega),h.2⟩
theorem toIn_b(B:Nat)(a:Option Addr)(n c:Nat)(xs:List Int)(w:World)(h:bo w B a n xs)(hl:n≤1048576):Calls Tryz.prog 95 #[.slice a n c] w fun e w'=>∃a',e= .returned (.slice a' n n)∧bo w' w.heap.size a' n xs∧Below w.heap.size w w':=
 (toIn_any a n c xs w h.1 hl).mono fun e w' ⟨a',he,H,R,ge,hb⟩=>⟨a',he,⟨H,ge⟩,hb⟩
theorem eqIn_b(B1 B2:Nat)(a1 a2:Option Addr)(n c1 c2:Nat)(xs:List Int)(w:World)(h1:bo w B1 a1 n xs)(h2:bo w B2 a2 n xs):Calls Tryz.prog 113 #[.slice a1 n c1,.slice a2 n c2] w fun e w'=>e= .returned (.bool true)∧Below w.heap.size w w':=eqIn_any a1 a2 n c1 c2 xs w h1.1 h2.1
theorem toBo_b(B:Nat)(a:Option Addr)(n c:Nat)(xs:List Bool)(w:World)(h:dN w B a n xs)(hl:n≤1048576):Calls Tryz.prog 96 #[.slice a n c] w fun e w'=>∃a',e= .returned (.slice a' n n)∧dN w' w.heap.size a' n xs∧Below w.heap.size w w':=
 (toBo_any a n c xs w h.1 hl).mono fun e w' ⟨a',he,H,R,ge,hb⟩=>⟨a',he,⟨H,ge⟩,hb⟩
theorem eqBo_b(B1 B2:Nat)(a1 a2:Option Addr)(n c1 c2:Nat)(xs:List Bool)(w:World)(h1:dN w B1 a1 n xs)(h2:dN w B2 a2 n xs):Calls Tryz.prog 114 #[.slice a1 n c1,.slice a2 n c2] w fun e w'=>e= .returned (.bool true)∧Below w.heap.size w w':=eqBo_any a1 a2 n c1 c2 xs w h1.1 h2.1
theorem toIw_b(B:Nat)(a:Option Addr)(n c:Nat)(xs:List cH)(w:World)(h:gl w B a n xs)(hl:n≤1048576):Calls Tryz.prog 91 #[.slice a n c] w fun e w'=>∃a',e= .returned (.slice a' n n)∧gl w' w.heap.size a' n xs∧Below w.heap.size w w':=
 (toIw_any a n c xs w h.1 hl).mono fun e w' ⟨a',he,H,R,ge,hb⟩=>⟨a',he,⟨H,ge⟩,hb⟩
theorem eqIw_b(B1 B2:Nat)(a1 a2:Option Addr)(n c1 c2:Nat)(xs:List cH)(w:World)(h1:gl w B1 a1 n xs)(h2:gl w B2 a2 n xs):Calls Tryz.prog 27 #[.slice a1 n c1,.slice a2 n c2] w fun e w'=>e= .returned (.bool true)∧Below w.heap.size w w':=eqIw_any a1 a2 n c1 c2 xs w h1.1 h2.1
theorem toPn_b(B:Nat)(a:Option Addr)(n c:Nat)(xs:List cl)(w:World)(h:cG w B a n xs)(hl:n≤1048576):Calls Tryz.prog 147 #[.slice a n c] w fun e w'=>∃a',e= .returned (.slice a' n n)∧cG w' w.heap.size a' n xs∧Below w.heap.size w w':=
 (toPn_any a n c xs w h.1 hl).mono fun e w' ⟨a',he,H,R,ge,hb⟩=>⟨a',he,⟨H,ge⟩,hb⟩
theorem eqPn_b(B1 B2:Nat)(a1 a2:Option Addr)(n c1 c2:Nat)(xs:List cl)(w:World)(h1:cG w B1 a1 n xs)(h2:cG w B2 a2 n xs):Calls Tryz.prog 16 #[.slice a1 n c1,.slice a2 n c2] w fun e w'=>e= .returned (.bool true)∧Below w.heap.size w w':=eqPn_any a1 a2 n c1 c2 xs w h1.1 h2.1
theorem toLp_b(B:Nat)(a:Option Addr)(n c:Nat)(xs:List ch)(w:World)(h:cJ w B a n xs)(hl:n≤1048576):Calls Tryz.prog 148 #[.slice a n c] w fun e w'=>∃a',e= .returned (.slice a' n n)∧cJ w' w.heap.size a' n xs∧Below w.heap.size w w':=
 (toLp_any a n c xs w h.1 hl).mono fun e w' ⟨a',he,H,R,ge,hb⟩=>⟨a',he,⟨H,ge⟩,hb⟩
theorem eqLp_b(B1 B2:Nat)(a1 a2:Option Addr)(n c1 c2:Nat)(xs:List ch)(w:World)(h1:cJ w B1 a1 n xs)(h2:cJ w B2 a2 n xs):Calls Tryz.prog 22 #[.slice a1 n c1,.slice a2 n c2] w fun e w'=>e= .returned (.bool true)∧Below w.heap.size w w':=eqLp_any a1 a2 n c1 c2 xs w h1.1 h2.1
theorem szIn_p(a:Option Addr)(len cap:Nat)(L:Int)(w:World)(h:len≤maxLen)(h0:0≤L)(hL:L≤1048576):Calls Tryz.prog 76 #[.slice a len cap,.int .i64 L] w fun e w'=>fV L (len≤1048576) e∧w'=w:=by
 unfold maxLen at h
 by_cases h1:(len:Int)≤L
 ·go_enter Tryz.func76,Tryz.ntmps76
  go_wp2
  go_ret
  exact⟨⟨_,rfl,Or.inr ⟨by omega,by omega,by omega⟩⟩,rfl⟩
 ·go_enter Tryz.func76,Tryz.ntmps76
  go_wp2
  go_ret
  exact⟨⟨_,rfl,Or.inl rfl⟩,rfl⟩
theorem szBo_p(a:Option Addr)(len cap:Nat)(L:Int)(w:World)(h:len≤maxLen)(h0:0≤L)(hL:L≤1048576):Calls Tryz.prog 77 #[.slice a len cap,.int .i64 L] w fun e w'=>fV L (len≤1048576) e∧w'=w:=by
 unfold maxLen at h
 by_cases h1:(len:Int)≤L
 ·go_enter Tryz.func77,Tryz.ntmps77
  go_wp2
  go_ret
  exact⟨⟨_,rfl,Or.inr ⟨by omega,by omega,by omega⟩⟩,rfl⟩
 ·go_enter Tryz.func77,Tryz.ntmps77
  go_wp2
  go_ret
  exact⟨⟨_,rfl,Or.inl rfl⟩,rfl⟩
theorem szIw_p(a:Option Addr)(len cap:Nat)(L:Int)(w:World)(h:len≤maxLen)(h0:0≤L)(hL:L≤1048576):Calls Tryz.prog 73 #[.slice a len cap,.int .i64 L] w fun e w'=>fV L (len≤1048576) e∧w'=w:=by
 unfold maxLen at h
 by_cases h1:(len:Int)≤L
 ·go_enter Tryz.func73,Tryz.ntmps73
  go_wp2
  go_ret
  exact⟨⟨_,rfl,Or.inr ⟨by omega,by omega,by omega⟩⟩,rfl⟩
 ·go_enter Tryz.func73,Tryz.ntmps73
  go_wp2
  go_ret
  exact⟨⟨_,rfl,Or.inl rfl⟩,rfl⟩
theorem szPn_p(a:Option Addr)(len cap:Nat)(L:Int)(w:World)(h:len≤maxLen)(h0:0≤L)(hL:L≤1048576):Calls Tryz.prog 134 #[.slice a len cap,.int .i64 L] w fun e w'=>fV L (len≤1048576) e∧w'=w:=by
 unfold maxLen at h
 by_cases h1:(len:Int)≤L
 ·go_enter Tryz.func134,Tryz.ntmps134
  go_wp2
  go_ret
  exact⟨⟨_,rfl,Or.inr ⟨by omega,by omega,by omega⟩⟩,rfl⟩
 ·go_enter Tryz.func134,Tryz.ntmps134
  go_wp2
  go_ret
  exact⟨⟨_,rfl,Or.inl rfl⟩,rfl⟩
theorem szLp_p(a:Option Addr)(len cap:Nat)(L:Int)(w:World)(h:len≤maxLen)(h0:0≤L)(hL:L≤1048576):Calls Tryz.prog 135 #[.slice a len cap,.int .i64 L] w fun e w'=>fV L (len≤1048576) e∧w'=w:=by
 unfold maxLen at h
 by_cases h1:(len:Int)≤L
 ·go_enter Tryz.func135,Tryz.ntmps135
  go_wp2
  go_ret
  exact⟨⟨_,rfl,Or.inr ⟨by omega,by omega,by omega⟩⟩,rfl⟩
 ·go_enter Tryz.func135,Tryz.ntmps135
  go_wp2
  go_ret
  exact⟨⟨_,rfl,Or.inl rfl⟩,rfl⟩
theorem szOr_p(a:Option Addr)(len cap:Nat)(L:Int)(w:World)(h:len≤maxLen)(h0:0≤L)(hL:L≤1048576):Calls Tryz.prog 183 #[.slice a len cap,.int .i64 L] w fun e w'=>fV L (len≤1048576) e∧w'=w:=by
 by_cases h1:(len:Int)≤L
 ·exact(szOr_le a len cap L w hL h1).mono fun e w' ⟨he,hw⟩=>⟨⟨_,he,Or.inr ⟨by omega,by omega,by omega⟩⟩,hw⟩
 ·exact(szOr_gt a len cap L w h h0 hL h1).mono fun e w' ⟨he,hw⟩=>⟨⟨_,he,Or.inl rfl⟩,hw⟩
theorem szSt_p(m:Int)(a:Option Addr)(len cap:Nat)(L:Int)(w:World)(h:len≤maxLen)(h0:0≤L)(hL:L≤1048576):Calls Tryz.prog 131 #[.agg #[.int .i64 m,.slice a len cap],.int .i64 L] w fun e w'=>fV L (len≤1048576) e∧Below w.heap.size w w':=by
 go_enter Tryz.func131,Tryz.ntmps131
 go_wp2_with fail
 refine(szOr_p a len cap L _ h h0 hL).mono ?_
 rintro e w1 ⟨⟨r,rfl,hr⟩,hw⟩
 obtain rfl:=hw.symm
 clear hw
 rcases hr with rfl|⟨h2,h3,h4⟩
 ·go_wp2
  go_ret
  exact⟨⟨_,rfl,Or.inl rfl⟩,(ar)⟩
 ·go_wp2
  go_ret
  exact⟨⟨_,rfl,Or.inr ⟨h2,h3,h4⟩⟩,(ar)⟩
theorem toSt_b(B:Nat)(m:Int)(a:Option Addr)(n c:Nat)(xs:List bz)(w:World)(h:dC w B a n xs)(hl:n≤1048576):Calls Tryz.prog 144 #[.agg #[.int .i64 m,.slice a n c]] w fun e w'=>∃a',e= .returned (.agg #[.int .i64 m,.slice a' n n])∧dC w' w.heap.size a' n xs∧Below w.heap.size w w':=
 (toSt_any m a n c xs w h.1 hl).mono fun e w' ⟨a',he,H,R,ge,hb⟩=>⟨a',he,⟨H,ge⟩,hb⟩
theorem eqSt_b(B1 B2:Nat)(m:Int)(a1 a2:Option Addr)(n c1 c2:Nat)(xs:List bz)(w:World)(h1:dC w B1 a1 n xs)(h2:dC w B2 a2 n xs):Calls Tryz.prog 175 #[.agg #[.int .i64 m,.slice a1 n c1],.agg #[.int .i64 m,.slice a2 n c2]] w fun e w'=>e= .returned (.bool true)∧Below w.heap.size w w':=eqSt_any m a1 a2 n c1 c2 xs w h1.1 h2.1
theorem cY{b0 b1 a0 a1 a2 c0 c1 c2:Nat}{k0 k1 k2 l0 l1 l2:Value}{W W':World}(h:((W.cell? ⟨b0,a0,none⟩=some k0∧W.cell? ⟨b0,a1,none⟩=some k1∧W.cell? ⟨b0,a2,none⟩=some k2∧W.cell? ⟨b1,c0,none⟩=some l0∧W.cell? ⟨b1,c1,none⟩=some l1∧W.cell? ⟨b1,c2,none⟩=some l2)∧b0<W.heap.size∧b1<W.heap.size))(hb:Below W.heap.size W W'):((W'.cell? ⟨b0,a0,none⟩=some k0∧W'.cell? ⟨b0,a1,none⟩=some k1∧W'.cell? ⟨b0,a2,none⟩=some k2∧W'.cell? ⟨b1,c0,none⟩=some l0∧W'.cell? ⟨b1,c1,none⟩=some l1∧W'.cell? ⟨b1,c2,none⟩=some l2)∧b0<W'.heap.size∧b1<W'.heap.size):=by
 obtain⟨h99,s0,s1⟩:=h
 have e0:∀z,W'.cell? ⟨b0,z,none⟩=W.cell? ⟨b0,z,none⟩:=fun z=>hb.cell s0
 have e1:∀z,W'.cell? ⟨b1,z,none⟩=W.cell? ⟨b1,z,none⟩:=fun z=>hb.cell s1
 refine⟨?_,Nat.lt_of_lt_of_le s0 hb.size,Nat.lt_of_lt_of_le s1 hb.size⟩
 simp only[e0,e1]
 exact h99
/-- A channel. -/
structure bK where
 q:List cH
 ma:Int
 hd:Bool
/-- A channel lies in its cells, its items in a block that is not below B; channels lie one behind the other; a slice's value holds channels. -/
def eG(W:World)(B g o:Nat)(x:bK):Prop:=∃a len cap,W.cell? ⟨g,o,none⟩=some (.slice a len cap)∧W.cell? ⟨g,o+1,none⟩=some (.int .i64 x.ma)∧W.cell? ⟨g,o+2,none⟩=some (.bool x.hd)∧cw W a len x.q∧∀g' o',0<len→a=some ⟨g',o',none⟩→B≤g'
def cT(W:World)(B:Nat)(a:Option Addr)(len:Nat)(xs:List bK):Prop:=xs.length=len∧len≤maxLen∧(len=0∨∃g o,a=some ⟨g,o,none⟩∧B≤g∧∀i x,xs[i]? =some x→eG W B g (o+i*3) x)
theorem eG.lt{W:World}{B g o:Nat}{x:bK}(h:eG W B g o x):g<W.heap.size:=by
 obtain⟨a,len,cap,h0,_⟩:=h
 exact bg h0
theorem eG.below{W W':World}{B g o:Nat}{x:bK}(h:eG W B g o x)(hb:Below W.heap.size W W'):eG W' B g o x:=by
 have hg:=h.lt
 obtain⟨a,len,cap,h0,h1,h2,h3,h4⟩:=h
 exact⟨a,len,cap,(hb.cell (p:=⟨g,_,none⟩) hg).trans h0,(hb.cell (p:=⟨g,_,none⟩) hg).trans h1,(hb.cell (p:=⟨g,_,none⟩) hg).trans h2,h3.below hb,h4⟩
theorem eG.less{W:World}{B B' g o:Nat}{x:bK}(h:eG W B g o x)(hB:B'≤B):eG W B' g o x:=by
 obtain⟨a,len,cap,h0,h1,h2,h3,h4⟩:=h
 exact⟨a,len,cap,h0,h1,h2,h3,fun g' o' hp ha=>Nat.le_trans hB (h4 g' o' hp ha)⟩
theorem eG.set{W:World}{B g o:Nat}{p:Addr}{v:Value}{x:bK}(h:eG W B g o x)(hg:p.block≠g)(hp:p.block<B):eG (W.setCell p v) B g o x:=by
 obtain⟨a,len,cap,h0,h1,h2,h3,h4⟩:=h
 exact⟨a,len,cap,(aF hg).trans h0,(aF hg).trans h1,(aF hg).trans h2,h3.grown (cc p v) (fun g' o' hn ha=>by have:=h4 g' o' hn ha;simp;omega),h4⟩
theorem cT.below{W W':World}{B:Nat}{a:Option Addr}{len:Nat}{xs:List bK}(h:cT W B a len xs)(hb:Below W.heap.size W W'):cT W' B a len xs:=by
 obtain⟨h1,h2,h3⟩:=h
 refine⟨h1,h2,?_⟩
 rcases h3 with h3|⟨g,o,ha,hB,hr⟩
 ·exact Or.inl h3
 ·exact Or.inr ⟨g,o,ha,hB,fun i x hx=>(hr i x hx).below hb⟩
theorem cT.less{W:World}{B B':Nat}{a:Option Addr}{len:Nat}{xs:List bK}(h:cT W B a len xs)(hB:B'≤B):cT W B' a len xs:=by
 obtain⟨h1,h2,h3⟩:=h
 refine⟨h1,h2,?_⟩
 rcases h3 with h3|⟨g,o,ha,hb,hr⟩
 ·exact Or.inl h3
 ·exact Or.inr ⟨g,o,ha,Nat.le_trans hB hb,fun i x hx=>(hr i x hx).less hB⟩
theorem cT.set{W:World}{B:Nat}{p:Addr}{v:Value}{a:Option Addr}{len:Nat}{xs:List bK}(h:cT W B a len xs)(hp:p.block<B):cT (W.setCell p v) B a len xs:=by
 obtain⟨h1,h2,h3⟩:=h
 refine⟨h1,h2,?_⟩
 rcases h3 with h3|⟨g,o,ha,hb,hr⟩
 ·exact Or.inl h3
 ·exact Or.inr ⟨g,o,ha,hb,fun i x hx=>(hr i x hx).set (by omega) hp⟩
/-- A block of channels, known whole; one that is being filled. -/
def gJ(W:World)(g o:Nat)(v0 v1 v2:Value):World:=(((W.setCell ⟨g,o,none⟩ v0).setCell ⟨g,o+1,none⟩ v1).setCell ⟨g,o+2,none⟩ v2)
def cU(W:World)(g ty len:Nat):Prop:=∃cur,W.heap[g]? =some (.cells cur ty (0,0))∧cur.size=len*3
theorem cU.set{W:World}{g ty len i:Nat}(h:cU W g ty len)(v:Value):cU (W.setCell ⟨g,i,none⟩ v) g ty len:=by
 obtain⟨cur,h1,h2⟩:=h
 exact⟨_,Joins.block_setCell h1 v,by simp[h2]⟩
theorem cU.below{W W':World}{g ty len B:Nat}(h:cU W g ty len)(hb:Below B W W')(hg:g<B):cU W' g ty len:=by
 obtain⟨cur,h1,h2⟩:=h
 exact⟨cur,(hb.block g hg).trans h1,h2⟩
theorem cU.lt{W:World}{g ty len:Nat}(h:cU W g ty len):g<W.heap.size:=by
 obtain⟨cur,h1,h2⟩:=h
 exact(Array.getElem?_eq_some_iff.1 h1).1
theorem cU.cell{W:World}{g ty len i:Nat}(h:cU W g ty len)(hi:i<len*3):∃u,W.cell? ⟨g,i,none⟩=some u:=by
 obtain⟨cur,h1,h2⟩:=h
 exact⟨_,(cA h1 i).trans (Array.getElem?_eq_getElem (by omega))⟩
theorem cU.frozen{W:World}{g ty len i:Nat}(h:cU W g ty len):W.frozen? ⟨g,i,none⟩=false:=by
 obtain⟨cur,h1,h2⟩:=h
 exact Joins.unfrozen_of_block h1 i
theorem cU.cells{W:World}{g ty len k:Nat}(h:cU W g ty len)(hk:k<len):(∃u,W.cell? ⟨g,k*3,none⟩=some u)∧(∃u,W.cell? ⟨g,k*3+1,none⟩=some u)∧(∃u,W.cell? ⟨g,k*3+2,none⟩=some u):=⟨h.cell (by omega),h.cell (by omega),h.cell (by omega)⟩
theorem im{W:World}{g ty len i:Nat}{v:Value}(h:cU W g ty len)(hi:i<len*3):(W.setCell ⟨g,i,none⟩ v).cell? ⟨g,i,none⟩=some v:=by
 obtain⟨u,hu⟩:=h.cell hi
 exact World.cell?_setCell_same _ _ _ hu
theorem cw.setT{W:World}{g o:Nat}{v:Value}{a:Option Addr}{len:Nat}{q:List cH}(h:cw W a len q)(h4:∀g' o',0<len→a=some ⟨g',o',none⟩→g<g'):cw (W.setCell ⟨g,o,none⟩ v) a len q:=h.grown (cc _ v) (fun g' o' hn ha=>by have:=h4 g' o' hn ha;simp;omega)
theorem setTi_this{W:World}{g ty len k:Nat}{x:bK}{a:Option Addr}{l c:Nat}(h:cU W g ty len)(hk:k<len)(hq:cw W a l x.q)(h4:∀g' o',0<l→a=some ⟨g',o',none⟩→g+1≤g'):eG (gJ W g (k*3) (.slice a l c) (.int .i64 x.ma) (.bool x.hd)) (g+1) g (k*3) x:=by
 unfold gJ
 refine⟨a,l,c,?_,?_,?_,((hq.setT h4).setT h4).setT h4,h4⟩
 ·rw[al (by omega),al (by omega),im h (by omega)]
 ·rw[al (by omega),im (h.set _) (by omega)]
 ·rw[im ((h.set _).set _) (by omega)]
theorem setTi_ne{W:World}{g i k:Nat}{y:bK}{v0 v1 v2:Value}(h:eG W (g+1) g (i*3) y)(hk:i≠k):eG (gJ W g (k*3) v0 v1 v2) (g+1) g (i*3) y:=by
 unfold gJ
 obtain⟨a,len,cap,h0,h1,h2,h3,h4⟩:=h
 refine⟨a,len,cap,?_,?_,?_,((h3.setT h4).setT h4).setT h4,h4⟩
 ·rw[al (by omega),al (by omega),al (by omega)];exact h0
 ·rw[al (by omega),al (by omega),al (by omega)];exact h1
 ·rw[al (by omega),al (by omega),al (by omega)];exact h2
def el(W:World)(g ty len:Nat)(ys:List bK):Prop:=cU W g ty len∧∀i x,ys[i]? =some x→eG W (g+1) g (i*3) x
theorem el.step{wr w':World}{g ty len k:Nat}{xs:List bK}{x:bK}{a:Option Addr}{l c:Nat}(h:el wr g ty len (xs.take k))(hb:Below wr.heap.size wr w')(hk:k<len)(hx:xs[k]? =some x)(hq:cw w' a l x.q)(h4:∀g' o',0<l→a=some ⟨g',o',none⟩→g+1≤g'):el (gJ w' g (k*3) (.slice a l c) (.int .i64 x.ma) (.bool x.hd)) g ty len (xs.take (k+1)):=by
 have hB:=h.1.below hb h.1.lt
 refine⟨((hB.set _).set _).set _,fun i y hy=>?_⟩
 have hik:i<k+1:=by
  rcases Nat.lt_or_ge i (k+1)with h'|h'
  ·exact h'
  ·rw[List.getElem?_eq_none (iT)]at hy;cases hy
 rw[List.getElem?_take_of_lt hik]at hy
 by_cases he:i=k
 ·subst he
  rw[hx]at hy
  cases hy
  exact setTi_this hB hk hq h4
 ·refine setTi_ne ?_ he
  exact(h.2 i y (by rw[List.getElem?_take_of_lt (by omega)];exact hy)).below hb
theorem el.start{w:World}{ty len:Nat}{C:Array Value}(hC:C.size=len*3)(xs:List bK):el (w.alloc (.cells C ty)) w.heap.size ty len (xs.take 0):=
 ⟨⟨C,by show(w.heap.push _)[w.heap.size]? =_;simp,hC⟩,fun i x h=>by simp at h⟩
theorem el.done{W:World}{g ty len k:Nat}{xs:List bK}(h:el W g ty len (xs.take k))(hk:xs.length≤k)(hl:xs.length=len)(hm:len≤maxLen):cT W g (some ⟨g,0,none⟩) len xs:=by
 refine⟨hl,hm,Or.inr ⟨g,0,rfl,Nat.le_refl _,fun i x hx=>?_⟩⟩
 rw[List.take_of_length_le hk]at h
 have:=(h.2 i x hx).less (B':=g) (by omega)
 simpa using this
theorem below_setTi{B g o:Nat}{W W':World}{v0 v1 v2:Value}(h:Below B W W')(hg:B≤g):Below B W (gJ W' g o v0 v1 v2):=((h.setCell hg _).setCell hg _).setCell hg _
section
variable {H : Type} {enc : TypeId × Value → H} {P : Program} {w : World} {base : Nat} {spare : Nat → Bool} {held : Bool}
def bK.ok64(x:bK):Prop:=(-9223372036854775808≤x.ma∧x.ma≤9223372036854775807)∧∀y ∈ x.q,y.ok64
theorem cellsTi{a:Addr}{cs:List Value}{tq:TypeId}{e:TypeId}(htq:P.underlying tq=some (.slice e))(hk2:bc P 5 e=some [false,false,false,false,false])(hC2:P.cellsOf e=5)(h:w.cells? base a 3=some cs)(f0:ca enc P w base spare held cs [.s tq,.i,.b]):a.spot=none∧∃x:bK,eG w 0 a.block a.off x∧x.ok64:=by
 obtain⟨qa,ql,qc,d,p,r0,rfl,y0,f1⟩:=fitT_s f0
 obtain⟨z1,r1,rfl,y1,f2⟩:=fitT_i f1
 obtain⟨z2,r2,rfl,f3⟩:=fitT_b f2
 obtain rfl:=fitT_nil f3
 clear f0 f1 f2 f3
 obtain⟨q,hq,hqo⟩:=openIw htq hk2 hC2 y0
 obtain⟨_,hlen,hc⟩:=World.cells?_some h
 have c0:=hc 0 (by omega)
 have c1:=hc 1 (by omega)
 have c2:=hc 2 (by omega)
 obtain⟨g,o,sp⟩:=a
 have ha0:(⟨g,o,sp⟩:Addr).add 0=⟨g,o,sp⟩:=by simp[Addr.add]
 have hsp:sp=none:=World.cell?_spot (w:=w) (a:=⟨g,o,sp⟩) (v:= .slice qa ql qc) (by rw[←ha0];simpa using c0)
 subst hsp
 exact⟨rfl,⟨q,z1,z2⟩,⟨qa,ql,qc,by simpa[Addr.add]using c0,by simpa[Addr.add]using c1,by simpa[Addr.add]using c2,hq,fun _ _ _ _=>Nat.zero_le _⟩,aV y1,hqo⟩
theorem openTi{t e tq eq:TypeId}{a:Option Addr}{len cap:Nat}{d:DataW H}{p:List MemPlace}(ht:P.underlying t=some (.slice e))(hk:dh P 5 e=some [.s tq,.i,.b])(hC:P.cellsOf e=3)(htq:P.underlying tq=some (.slice eq))(hk2:bc P 5 eq=some [false,false,false,false,false])(hC2:P.cellsOf eq=5)
  (h:DataW.Trod enc P w base spare held t (.slice a len cap) d p):∃xs:List bK,cT w 0 a len xs∧∀x ∈ xs,x.ok64:=by
 obtain⟨fuel,hf⟩:=h
 rcases open_slice ht hf with⟨hcs,_⟩|⟨a',len',cap',m,n,D,Pl,hcs,_,hl,hm,hmm,_,hx⟩
 ·simp[Value.cells]at hcs
  obtain⟨rfl,rfl,rfl⟩:=hcs
  exact⟨[],⟨rfl,Nat.zero_le _,Or.inl rfl⟩,by simp⟩
 ·simp[Value.cells]at hcs
  obtain⟨rfl,rfl,rfl⟩:=hcs
  have hlm:len≤m:=by rw[hmm];split<;>omega
  have hall:∀i,i<len→∃x:bK,(i=0→a'.spot=none)∧eG w 0 a'.block (a'.off+i*3) x∧x.ok64:=by
   intro i hi
   obtain⟨cs',h1,h2⟩:=hx i (by omega)
   rw[hC]at h1
   obtain⟨hsp,x,hxa,hxo⟩:=cellsTi htq hk2 hC2 h1 (cv 5 hk h2)
   have hb:(a'.add (i*3)).block=a'.block∧(a'.add (i*3)).off=a'.off+i*3:=by
    unfold Addr.add
    split
    ·exact⟨rfl,by omega⟩
    ·exact⟨rfl,rfl⟩
   rw[hb.1,hb.2]at hxa
   refine⟨x,fun h0=>?_,hxa,hxo⟩
   subst h0
   simpa[Addr.add]using hsp
  by_cases h0:len=0
  ·subst h0
   exact⟨[],⟨rfl,Nat.zero_le _,Or.inl rfl⟩,by simp⟩
  have hinh:Inhabited bK:=⟨⟨[],0,false⟩⟩
  obtain⟨f,hf'⟩:=choose_lt hall
  have hsp:=(hf' 0 (by omega)).1 rfl
  refine⟨(List.range len).map f,⟨by simp,by omega,Or.inr ⟨a'.block,a'.off,by cases a';simp_all,Nat.zero_le _,?_⟩⟩,?_⟩
  ·intro i x hix
   simp only[List.getElem?_map,Option.map_eq_some_iff]at hix
   obtain⟨j,hj,rfl⟩:=hix
   have hil:i<len:=by
    rcases Nat.lt_or_ge i len with h'|h'
    ·exact h'
    ·rw[List.getElem?_eq_none (by simpa using h')]at hj;cases hj
   rw[List.getElem?_eq_getElem (by simpa using hil)]at hj
   simp at hj
   subst hj
   exact(hf' i hil).2.1
  ·intro x hxm
   simp only[List.mem_map,List.mem_range]at hxm
   obtain⟨i,hi,rfl⟩:=hxm
   exact(hf' i hi).2.2
end
theorem szTi_one(x:bK)(a:Option Addr)(len cap:Nat)(L:Int)(w:World)(h:len≤maxLen)(h0:0≤L)(hL:L≤1048576):Calls Tryz.prog 182 #[.agg #[.slice a len cap,.int .i64 x.ma,.bool x.hd],.int .i64 L] w fun e w'=>fV L (len≤1048576) e∧Below w.heap.size w w':=by
 go_enter Tryz.func182,Tryz.ntmps182
 go_wp2_with fail
 refine(szIw_p a len cap L _ h h0 hL).mono ?_
 rintro e w1 ⟨⟨r,rfl,hr⟩,hw⟩
 obtain rfl:=hw.symm
 clear hw
 rcases hr with rfl|⟨h2,h3,h4⟩
 ·go_wp2
  go_ret
  exact⟨⟨_,rfl,Or.inl rfl⟩,(ar)⟩
 ·go_wp2
  go_ret
  exact⟨⟨_,rfl,Or.inr ⟨h2,h3,h4⟩⟩,(ar)⟩
set_option maxRecDepth 20000 in
set_option maxHeartbeats 1000000 in
theorem szTi_any(a:Option Addr)(len cap:Nat)(xs:List bK)(L:Int)(w:World)(h:cT w 0 a len xs)(h0:0≤L)(hL:L≤1048576):Calls Tryz.prog 130 #[.slice a len cap,.int .i64 L] w fun e w'=>fV L (len≤1048576∧∀x ∈ xs,x.q.length≤1048576) e∧Below w.heap.size w w':=by
 have hm:=h.2.1
 unfold maxLen at hm
 by_cases h1:(len:Int)≤L
 ·go_enter Tryz.func130,Tryz.ntmps130
  go_wp2
  go_loopw [1,5] (fun lv i wr=>∃(k:Nat) (l:Int),k≤len∧i= .int .i64 k∧lv= .int .i64 l∧0≤l∧l≤L∧(∀i x,i<k→xs[i]? =some x→x.q.length≤1048576)∧Below w.heap.size w wr) (fun _ i _=>len - (intOf i).toNat)
  case atStart=>exact⟨0,_,Nat.zero_le _,rfl,rfl,by omega,by omega,fun i x hi=>absurd hi (by omega),Below.refl _ _⟩
  case round=>
   obtain⟨k,l,hk,rfl,rfl,hl0,hl1,hq,hbw⟩:=hrel
   by_cases hlt:k<len
   ·obtain⟨hxl,hml,hx⟩:=h
    obtain⟨g,o,rfl,_,hr⟩:=hx.resolve_left (by omega)
    obtain⟨x,hxk⟩:∃x,xs[k]? =some x:=⟨_,List.getElem?_eq_getElem (by omega)⟩
    have hX:=ab hxk
    have HQ:=ab hq
    obtain⟨qa,ql,qc,c0,c1,c2,hqi,_⟩:=(hr k _ hxk).below hbw
    have hqm:=hqi.2.1
    have hql:=hqi.1
    clear hx hxk hr hq hqi
    go_wp2_with fail
    refine(szTi_one x qa ql qc l _ hqm hl0 (by omega)).mono ?_
    rintro e w1 ⟨⟨r,rfl,hr⟩,hb⟩
    rcases hr with rfl|⟨h2,h3,h4⟩
    ·go_wp2
     go_ret
     exact⟨⟨_,rfl,Or.inl rfl⟩,(ar)⟩
    ·go_wp2
     go_roundw
     case rel=>
      refine⟨k+1,r,by omega,by go_num,rfl,h2,by omega,fun i y hi hy=>?_,(ar)⟩
      by_cases he:i=k
      ·subst he
       rw[aa hX]at hy
       cases hy
       omega
      ·exact aa HQ i y (by omega) hy
     case measure=>simp[intOf];omega
   ·go_wp2
    go_ret
    refine⟨⟨_,rfl,Or.inr ⟨hl0,hl1,by omega,fun x hx=>?_⟩⟩,hbw⟩
    obtain⟨i,hi,rfl⟩:=List.getElem_of_mem hx
    exact hq i _ (by have:=h.1;omega) (List.getElem?_eq_getElem hi)
 ·go_enter Tryz.func130,Tryz.ntmps130
  go_wp2
  go_ret
  exact⟨⟨_,rfl,Or.inl rfl⟩,Below.refl _ _⟩
set_option maxRecDepth 20000 in
set_option maxHeartbeats 1000000 in
theorem toTi_one(x:bK)(a:Option Addr)(len cap:Nat)(w:World)(h:cw w a len x.q)(hl:len≤1048576):Calls Tryz.prog 185 #[.agg #[.slice a len cap,.int .i64 x.ma,.bool x.hd]] w fun e w'=>∃a',e= .returned (.agg #[.slice a' len len,.int .i64 x.ma,.bool x.hd])∧cw w' a' len x.q∧(∀g o,0<len→a'=some ⟨g,o,none⟩→w.heap.size≤g)∧Below w.heap.size w w':=by
 go_enter Tryz.func185,Tryz.ntmps185
 go_wp2_with (go_at_call 91;refine(toIw_any a len cap x.q _ (h.below (ar)) hl).mono ?_;rintro e' w' ⟨a',rfl,H,R,ge,hb⟩;obtain⟨hc,hf,hs⟩:=ac hb;have hz0:w.heap.size+1<w'.heap.size:=(zB hb);have hz1:w.heap.size+1+1<w'.heap.size:=(zB hb))
 have ge':∀g o,0<len→a'=some ⟨g,o,none⟩→w.heap.size+1+1<g:=fun g o hp ha=>by have:=ge g o hp ha;simp at this;omega
 refine bodyPost_ret (v:= .agg #[.slice a' len len,.int .i64 x.ma,.bool x.hd]) (by simp(maxDischargeDepth:=9) [results,Tryz.results185,go_sem, *]) rfl ⟨a',rfl,?_,fun g o hp ha=>by have:=ge' g o hp ha;omega,?_⟩
 ·repeat(first|(with_reducible exact H)|with_reducible refine cw.setT ?_ (fun g o hp ha=>by have:=ge' g o hp ha;(try simp);omega))
 ·exact(ar)
theorem Tryz.infoTi:(Tryz.prog.info? 154).map (fun i=>(i.zero,i.size,i.bytes))=some (some (.agg #[.slice none 0 0,.int .i64 0,.bool false]),3,40):=by kernel_rfl
theorem mkTi(len:Nat)(hl:len≤1048576):∃C:Array Value,C.size=len*3∧∀w:World,(Instr.makeSlice 79 (.int .i64 (len:Int)) (.int .i64 (len:Int))).run Tryz.prog w= .ok (.slice (some ⟨w.heap.size,0,none⟩) len len) (w.alloc (.cells C 154)):=by
 obtain⟨i0,hi,hz0,hz1,hz2⟩:=info_parts Tryz.infoTi
 refine⟨madeCells (Value.agg #[.slice none 0 0,.int .i64 0,.bool false]).cells (len*i0.size),by rw[size_madeCells,hz1],fun w=>?_⟩
 have h:=run_make (P:=Tryz.prog) w 79 154 i0 _ Tryz.underlying79 hi hz0 .i64 .i64 len len (by omega) (Int.le_refl _) (by rw[hz2];omega) (by omega)
 simpa using h
set_option maxRecDepth 20000 in
set_option maxHeartbeats 1000000 in
theorem toTi_any(a:Option Addr)(len cap:Nat)(xs:List bK)(w:World)(h:cT w 0 a len xs)(hl:len≤1048576)(hq:∀x ∈ xs,x.q.length≤1048576):Calls Tryz.prog 143 #[.slice a len cap] w fun e w'=>∃a',e= .returned (.slice a' len len)∧cT w' w.heap.size a' len xs∧Below w.heap.size w w':=by
 obtain⟨C,hC,hmk⟩:=mkTi len hl
 go_enter Tryz.func143,Tryz.ntmps143
 go_wp2
 go_loopw [4] (fun i wr=>∃k:Nat,k≤len∧i= .int .i64 k∧el wr w.heap.size 154 len (xs.take k)∧Below w.heap.size w wr) (fun i _=>len - (intOf i).toNat)
 case atStart=>exact⟨0,Nat.zero_le _,rfl,el.start hC xs,ai _ _⟩
 case round=>
  obtain⟨k,hk,rfl,hF,hbw⟩:=hrel
  by_cases hlt:k<len
  ·obtain⟨hxl,hml,hx⟩:=h
   obtain⟨g,o,rfl,_,hr⟩:=hx.resolve_left (by omega)
   obtain⟨x,hxk⟩:∃x,xs[k]? =some x:=⟨_,List.getElem?_eq_getElem (by omega)⟩
   have hX:=ab hxk
   have hqk:=hq x (List.mem_of_getElem? hxk)
   obtain⟨qa,ql,qc,c0,c1,c2,hqi,_⟩:=(hr k _ hxk).below hbw
   have hql:ql≤1048576:=by have:=hqi.1;omega
   obtain⟨⟨u0,d0⟩,⟨u1,d1⟩,⟨u2,d2⟩⟩:=hF.1.cells hlt
   have f0:=hF.1.frozen (i:=k*3)
   have f1:=hF.1.frozen (i:=k*3+1)
   have f2:=hF.1.frozen (i:=k*3+2)
   have hz:=hF.1.lt
   clear hx hxk hr
   go_wp2_with (go_at_call 185;refine(toTi_one x qa ql qc _ hqi hql).mono ?_;rintro e w' ⟨a',rfl,H,ge,hb⟩;obtain⟨hc,hf,hs⟩:=ac hb)
   go_roundw
   case rel=>exact⟨k+1,by omega,by go_num,hF.step hb hlt (aa hX) H (fun g' o' hp ha=>by have:=ge g' o' hp ha;omega),below_setTi (ad hbw hb) (Nat.le_refl _)⟩
   case measure=>simp[intOf];omega
  ·go_wp2
   go_ret
   exact⟨_,rfl,hF.done (by have:=h.1;omega) h.1 h.2.1,hbw⟩
theorem eqTi_one(x:bK)(a1 a2:Option Addr)(len cap1 cap2:Nat)(w:World)(h1:cw w a1 len x.q)(h2:cw w a2 len x.q):Calls Tryz.prog 204 #[.agg #[.slice a1 len cap1,.int .i64 x.ma,.bool x.hd],.agg #[.slice a2 len cap2,.int .i64 x.ma,.bool x.hd]] w fun e w'=>e= .returned (.bool true)∧Below w.heap.size w w':=by
 go_enter Tryz.func204,Tryz.ntmps204
 go_wp2_with (go_at_call 27;refine(eqIw_any a1 a2 len cap1 cap2 x.q _ (h1.below (ar)) (h2.below (ar))).mono ?_;rintro e' w' ⟨rfl,hb⟩;obtain⟨hc,hf,hs⟩:=ac hb;have hz0:w.heap.size<w'.heap.size:=(zB hb);have hz1:w.heap.size+1<w'.heap.size:=(zB hb))
 go_ret
 exact⟨rfl,(ar)⟩
set_option maxRecDepth 20000 in
set_option maxHeartbeats 1000000 in
theorem eqTi_any(B1 B2:Nat)(a1 a2:Option Addr)(len cap1 cap2:Nat)(xs:List bK)(w:World)(h1:cT w B1 a1 len xs)(h2:cT w B2 a2 len xs):Calls Tryz.prog 174 #[.slice a1 len cap1,.slice a2 len cap2] w fun e w'=>e= .returned (.bool true)∧Below w.heap.size w w':=by
 have hm:=h1.2.1
 unfold maxLen at hm
 go_enter Tryz.func174,Tryz.ntmps174
 go_wp2
 go_loopw [5] (fun i wr=>∃k:Nat,k≤len∧i= .int .i64 k∧Below w.heap.size w wr) (fun i _=>len - (intOf i).toNat)
 case atStart=>exact⟨0,Nat.zero_le _,rfl,Below.refl _ _⟩
 case round=>
  obtain⟨k,hk,rfl,hbw⟩:=hrel
  by_cases hlt:k<len
  ·obtain⟨hl1,_,hx1⟩:=h1
   obtain⟨hl2,_,hx2⟩:=h2
   obtain⟨g1,o1,rfl,_,hr1⟩:=hx1.resolve_left (by omega)
   obtain⟨g2,o2,rfl,_,hr2⟩:=hx2.resolve_left (by omega)
   obtain⟨x,hxk⟩:∃x,xs[k]? =some x:=⟨_,List.getElem?_eq_getElem (by omega)⟩
   have t1:=(hr1 k _ hxk).below hbw
   have t2:=(hr2 k _ hxk).below hbw
   have hs1:=t1.lt
   have hs2:=t2.lt
   obtain⟨qa1,ql,qc1,c0,c1,c2,q1,_⟩:=t1
   obtain⟨qa2,ql2,qc2,d0,d1,d2,q2,_⟩:=t2
   obtain rfl:ql2=ql:=by have e1:=q1.1;have e2:=q2.1;omega
   have hS:((wr.cell? ⟨g1,o1+k*3,none⟩=some (.slice qa1 ql2 qc1)∧wr.cell? ⟨g1,o1+k*3+1,none⟩=some (.int .i64 x.ma)∧wr.cell? ⟨g1,o1+k*3+2,none⟩=some (.bool x.hd)∧wr.cell? ⟨g2,o2+k*3,none⟩=some (.slice qa2 ql2 qc2)∧wr.cell? ⟨g2,o2+k*3+1,none⟩=some (.int .i64 x.ma)∧wr.cell? ⟨g2,o2+k*3+2,none⟩=some (.bool x.hd))∧g1<wr.heap.size∧g2<wr.heap.size):=⟨⟨c0,c1,c2,d0,d1,d2⟩,hs1,hs2⟩
   clear hx1 hx2 hxk hr1 hr2
   go_wp2
   go_region_held3 (fun W=>((W.cell? ⟨g1,o1+k*3,none⟩=some (.slice qa1 ql2 qc1)∧W.cell? ⟨g1,o1+k*3+1,none⟩=some (.int .i64 x.ma)∧W.cell? ⟨g1,o1+k*3+2,none⟩=some (.bool x.hd)∧W.cell? ⟨g2,o2+k*3,none⟩=some (.slice qa2 ql2 qc2)∧W.cell? ⟨g2,o2+k*3+1,none⟩=some (.int .i64 x.ma)∧W.cell? ⟨g2,o2+k*3+2,none⟩=some (.bool x.hd))∧g1<W.heap.size∧g2<W.heap.size)) ((first|((repeat(first|(with_reducible assumption)|(with_reducible refine cY ?_ (iP))|(with_reducible refine cY ?_ (ag (Below.refl _ _)))|(with_reducible refine cY ?_ (ai _ _))));done)|(refine⟨⟨?_,?_,?_,?_,?_,?_⟩,?_,?_⟩<;>first|(go_keep;done)|(simp;done)|(simp;omega)|omega)))
    (first
    |(go_at_call 204;refine(eqTi_one x qa1 qa2 ql2 qc1 qc2 _ (q1.below (aj)) (q2.below (aj))).mono ?_;rintro e w' ⟨rfl,hb⟩;obtain⟨hc,hf,hs⟩:=ac hb))
   go_wp2
   go_roundw
   case rel=>exact⟨k+1,by omega,by go_num,(ar)⟩
   case measure=>simp[intOf];omega
  ·go_wp2
   go_ret
   exact⟨rfl,hbw⟩
end Go.Proofs.YtiilbnjjhgcjdaaGreat
