/- Laid together: what the claim needs of the texts that were built one by one. -/
import Derived.Test.YtiilbnjjhgcjdaaGreatX0
import Derived.Deep.Slices
import Derived.Lib.SmallJoins
import Derived.OwnWalk
import Derived.WalkSpells
import Derived.Deep.RegionHeld3
import Derived.Test.YtiilbnjjhgcjdaaGreatX2
set_option linter.unusedVariables false
namespace Go.Proofs.YtiilbnjjhgcjdaaGreat
open Go.ChangeShapes Go.WideShapes Go.ChangeAt Go.RowKit
/-- A row of 2 numbers. -/
structure dO where
 at_:Int
 wl:Int
/-- A row lies in its cells; rows lie one behind the other; a slice's value holds rows. -/
def dm(W:World)(g o:Nat)(x:dO):Prop:=W.cell? ⟨g,o,none⟩=some (.int .i64 x.at_)∧W.cell? ⟨g,o+1,none⟩=some (.int .i64 x.wl)
def em(W:World)(g o:Nat)(xs:List dO):Prop:=∀i x,xs[i]? =some x→dm W g (o+i*2) x
def fu(W:World)(a:Option Addr)(len:Nat)(xs:List dO):Prop:=xs.length=len∧len≤maxLen∧(len=0∨∃g o,a=some ⟨g,o,none⟩∧em W g o xs)
theorem dm.lt{W:World}{g o:Nat}{x:dO}(h:dm W g o x):g<W.heap.size:=by
 obtain⟨h0,_⟩:=h
 rcases Nat.lt_or_ge g W.heap.size with hl|hg
 ·exact hl
 ·simp[World.cell?,Array.getElem?_eq_none hg]at h0
theorem em.lt{W:World}{g o:Nat}{xs:List dO}(h:em W g o xs)(hp:0<xs.length):g<W.heap.size:=(h 0 xs[0] (List.getElem?_eq_getElem hp)).lt
theorem dm.below{W W':World}{B g o:Nat}{x:dO}(h:dm W g o x)(hb:Below B W W')(hg:g<B):dm W' g o x:=by
 obtain⟨h0,h1⟩:=h
 exact⟨(hb.cell (p:=⟨g,_,none⟩) hg).trans h0,(hb.cell (p:=⟨g,_,none⟩) hg).trans h1⟩
theorem em.below{W W':World}{B g o:Nat}{xs:List dO}(h:em W g o xs)(hb:Below B W W')(hg:0<xs.length→g<B):em W' g o xs:=by
 intro i x hx
 have hlt:i<xs.length:=(List.getElem?_eq_some_iff.1 hx).1
 exact(h i x hx).below hb (hg (by omega))
theorem fu.below{W W':World}{a:Option Addr}{len:Nat}{xs:List dO}(h:fu W a len xs)(hb:Below W.heap.size W W'):fu W' a len xs:=by
 obtain⟨h1,h2,h3⟩:=h
 refine⟨h1,h2,?_⟩
 rcases h3 with h3|⟨g,o,ha,hr⟩
 ·exact Or.inl h3
 ·exact Or.inr ⟨g,o,ha,hr.below hb (fun hp=>hr.lt hp)⟩
theorem dm.grown{W W':World}{row:Option Nat}{g o:Nat}{x:dO}(h:dm W g o x)(hg:W.grownBy W' row)(hne:some g≠row):dm W' g o x:=by
 have hbk:=hg.block g h.lt hne
 obtain⟨h0,h1⟩:=h
 exact⟨(World.cell?_of_block (w:=W) hbk).trans h0,(World.cell?_of_block (w:=W) hbk).trans h1⟩
theorem fu.grown{W W':World}{row:Option Nat}{a:Option Addr}{n:Nat}{xs:List dO}(h:fu W a n xs)(hg:W.grownBy W' row)(hne:∀g o,0<n→a=some ⟨g,o,none⟩→some g≠row):fu W' a n xs:=by
 obtain⟨h1,h2,h3⟩:=h
 refine⟨h1,h2,?_⟩
 rcases h3 with h3|⟨g,o,ha,hr⟩
 ·exact Or.inl h3
 ·refine Or.inr ⟨g,o,ha,fun i x hx=>(hr i x hx).grown hg (hne g o ?_ ha)⟩
  have hlt:i<xs.length:=(List.getElem?_eq_some_iff.1 hx).1
  omega
/-- A row is stored; a block of rows, known whole. -/
def gm(W:World)(g o:Nat)(x:dO):World:=((W.setCell ⟨g,o,none⟩ (.int .i64 x.at_)).setCell ⟨g,o+1,none⟩ (.int .i64 x.wl))
def cj(W:World)(g ty len:Nat):Prop:=∃cur,W.heap[g]? =some (.cells cur ty (0,0))∧cur.size=len*2
theorem cj.set{W:World}{g ty len i:Nat}(h:cj W g ty len)(v:Value):cj (W.setCell ⟨g,i,none⟩ v) g ty len:=by
 obtain⟨cur,h1,h2⟩:=h
 exact⟨_,Joins.block_setCell h1 v,by simp[h2]⟩
theorem cj.below{W W':World}{g ty len B:Nat}(h:cj W g ty len)(hb:Below B W W')(hg:g<B):cj W' g ty len:=by
 obtain⟨cur,h1,h2⟩:=h
 exact⟨cur,(hb.block g hg).trans h1,h2⟩
theorem cj.lt{W:World}{g ty len:Nat}(h:cj W g ty len):g<W.heap.size:=by
 obtain⟨cur,h1,h2⟩:=h
 exact(Array.getElem?_eq_some_iff.1 h1).1
theorem cj.cell{W:World}{g ty len i:Nat}(h:cj W g ty len)(hi:i<len*2):∃u,W.cell? ⟨g,i,none⟩=some u:=by
 obtain⟨cur,h1,h2⟩:=h
 exact⟨_,(cA h1 i).trans (Array.getElem?_eq_getElem (by omega))⟩
theorem cj.frozen{W:World}{g ty len i:Nat}(h:cj W g ty len):W.frozen? ⟨g,i,none⟩=false:=by
 obtain⟨cur,h1,h2⟩:=h
 exact Joins.unfrozen_of_block h1 i
theorem cj.cells{W:World}{g ty len k:Nat}(h:cj W g ty len)(hk:k<len):(∃u,W.cell? ⟨g,k*2,none⟩=some u)∧(∃u,W.cell? ⟨g,k*2+1,none⟩=some u):=⟨h.cell (by omega),h.cell (by omega)⟩
theorem cj.sets{W:World}{g ty len o:Nat}(h:cj W g ty len)(x:dO):cj (gm W g o x) g ty len:=((h.set _).set _)
theorem eQ{W:World}{g i j:Nat}{v:Value}(h:i≠j):(W.setCell ⟨g,i,none⟩ v).cell? ⟨g,j,none⟩=W.cell? ⟨g,j,none⟩:=World.cell?_setCell_other _ _ _ _ (by intro e;injection e with e1 e2;exact h e2)
theorem Sr_this{W:World}{g ty len i:Nat}{v:Value}(h:cj W g ty len)(hi:i<len*2):(W.setCell ⟨g,i,none⟩ v).cell? ⟨g,i,none⟩=some v:=by
 obtain⟨u,hu⟩:=h.cell hi
 exact World.cell?_setCell_same _ _ _ hu
theorem setSr_this{W:World}{g ty len k:Nat}(h:cj W g ty len)(hk:k<len)(x:dO):dm (gm W g (k*2) x) g (k*2) x:=by
 unfold gm
 refine⟨?_,?_⟩
 ·rw[eQ (by omega),Sr_this h (by omega)]
 ·rw[Sr_this (h.set _) (by omega)]
theorem setSr_ne{W:World}{g i k:Nat}{x y:dO}(h:dm W g (i*2) y)(hk:i≠k):dm (gm W g (k*2) x) g (i*2) y:=by
 unfold gm
 obtain⟨h0,h1⟩:=h
 refine⟨?_,?_⟩
 ·rw[eQ (by omega),eQ (by omega)];exact h0
 ·rw[eQ (by omega),eQ (by omega)];exact h1
def WrSr(W:World)(a:Option Addr)(n cap:Nat):Prop:=n=0∨∃g,a=some ⟨g,0,none⟩∧cj W g 77 cap∧n≤cap
theorem hd_2_2{b0 b1 a0 a1 c0 c1:Nat}{k0 k1 l0 l1:Value}{W W':World}(h:((W.cell? ⟨b0,a0,none⟩=some k0∧W.cell? ⟨b0,a1,none⟩=some k1∧W.cell? ⟨b1,c0,none⟩=some l0∧W.cell? ⟨b1,c1,none⟩=some l1)∧b0<W.heap.size∧b1<W.heap.size))(hb:Below W.heap.size W W'):((W'.cell? ⟨b0,a0,none⟩=some k0∧W'.cell? ⟨b0,a1,none⟩=some k1∧W'.cell? ⟨b1,c0,none⟩=some l0∧W'.cell? ⟨b1,c1,none⟩=some l1)∧b0<W'.heap.size∧b1<W'.heap.size):=by
 obtain⟨h99,s0,s1⟩:=h
 have e0:∀z,W'.cell? ⟨b0,z,none⟩=W.cell? ⟨b0,z,none⟩:=fun z=>hb.cell s0
 have e1:∀z,W'.cell? ⟨b1,z,none⟩=W.cell? ⟨b1,z,none⟩:=fun z=>hb.cell s1
 refine⟨?_,Nat.lt_of_lt_of_le s0 hb.size,Nat.lt_of_lt_of_le s1 hb.size⟩
 simp only[e0,e1]
 exact h99
set_option maxHeartbeats 1000000 in
theorem eqSr_one(x:dO)(w:World):Calls Tryz.prog 110 #[.agg #[.int .i64 x.at_,.int .i64 x.wl],.agg #[.int .i64 x.at_,.int .i64 x.wl]] w fun e w'=>e= .returned (.bool true)∧Below w.heap.size w w':=by
 go_enter Tryz.func110,Tryz.ntmps110
 go_wp2
 go_ret
 exact⟨rfl,(ar)⟩
set_option maxRecDepth 20000 in
set_option maxHeartbeats 1000000 in
theorem eqSr_any(a1 a2:Option Addr)(len cap1 cap2:Nat)(xs:List dO)(w:World)(h1:fu w a1 len xs)(h2:fu w a2 len xs):Calls Tryz.prog 57 #[.slice a1 len cap1,.slice a2 len cap2] w fun e w'=>e= .returned (.bool true)∧Below w.heap.size w w':=by
 have hm:=h1.2.1
 unfold maxLen at hm
 go_enter Tryz.func57,Tryz.ntmps57
 go_wp2
 go_loopw [5] (fun i wr=>∃k:Nat,k≤len∧i= .int .i64 k∧Below w.heap.size w wr) (fun i _=>len - (intOf i).toNat)
 case atStart=>exact⟨0,Nat.zero_le _,rfl,Below.refl _ _⟩
 case round=>
  obtain⟨k,hk,rfl,hbw⟩:=hrel
  by_cases hlt:k<len
  ·obtain⟨hl1,_,hx1⟩:=h1
   obtain⟨hl2,_,hx2⟩:=h2
   obtain⟨g1,o1,rfl,hr1⟩:=hx1.resolve_left (by omega)
   obtain⟨g2,o2,rfl,hr2⟩:=hx2.resolve_left (by omega)
   obtain⟨x,hxk⟩:∃x,xs[k]? =some x:=⟨_,List.getElem?_eq_getElem (by omega)⟩
   have hg1:g1<w.heap.size:=hr1.lt (by omega)
   have hg2:g2<w.heap.size:=hr2.lt (by omega)
   have hs1:g1<wr.heap.size:=Nat.lt_of_lt_of_le hg1 hbw.size
   have hs2:g2<wr.heap.size:=Nat.lt_of_lt_of_le hg2 hbw.size
   have hS:((wr.cell? ⟨g1,o1+k*2,none⟩=some (.int .i64 x.at_)∧wr.cell? ⟨g1,o1+k*2+1,none⟩=some (.int .i64 x.wl)∧wr.cell? ⟨g2,o2+k*2,none⟩=some (.int .i64 x.at_)∧wr.cell? ⟨g2,o2+k*2+1,none⟩=some (.int .i64 x.wl))∧g1<wr.heap.size∧g2<wr.heap.size):=by
    obtain⟨c0,c1⟩:=(hr1 k _ hxk).below hbw hg1
    obtain⟨d0,d1⟩:=(hr2 k _ hxk).below hbw hg2
    exact⟨⟨c0,c1,d0,d1⟩,hs1,hs2⟩
   clear hx1 hx2 hxk hr1 hr2
   go_wp2
   go_region_held3 (fun W=>((W.cell? ⟨g1,o1+k*2,none⟩=some (.int .i64 x.at_)∧W.cell? ⟨g1,o1+k*2+1,none⟩=some (.int .i64 x.wl)∧W.cell? ⟨g2,o2+k*2,none⟩=some (.int .i64 x.at_)∧W.cell? ⟨g2,o2+k*2+1,none⟩=some (.int .i64 x.wl))∧g1<W.heap.size∧g2<W.heap.size)) ((first|((repeat(first|(with_reducible assumption)|(with_reducible refine hd_2_2 ?_ (iP))|(with_reducible refine hd_2_2 ?_ (ag (Below.refl _ _)))|(with_reducible refine hd_2_2 ?_ (ai _ _))));done)|(refine⟨⟨?_,?_,?_,?_⟩,?_,?_⟩<;>first|(go_keep;done)|(simp;done)|(simp;omega)|omega)))
    (first
    |(go_at_call 110;refine(eqSr_one _ _).mono ?_;rintro e w' ⟨rfl,hb⟩;obtain⟨hc,hf,hs⟩:=ac hb))
   go_wp2
   go_roundw
   case rel=>exact⟨k+1,by omega,by go_num,(ar)⟩
   case measure=>simp[intOf];omega
  ·go_wp2
   go_ret
   exact⟨rfl,hbw⟩
end Go.Proofs.YtiilbnjjhgcjdaaGreat
namespace Go.Proofs.YtiilbnjjhgcjdaaGreat
open Go.ChangeShapes Go.WideShapes Go.ChangeAt Go.RowKit Go.Deep
/-- Each number is an int. -/
def dO.ok64(x:dO):Prop:=(-9223372036854775808≤x.at_∧x.at_≤9223372036854775807)∧(-9223372036854775808≤x.wl∧x.wl≤9223372036854775807)
section
variable {H : Type} {enc : TypeId × Value → H} {P : Program} {w : World} {base : Nat} {spare : Nat → Bool} {held : Bool}
theorem cellsSr{a:Addr}{cs:List Value}(h:w.cells? base a 2=some cs)(f0:dV cs [false,false]):a.spot=none∧∃x:dO,dm w a.block a.off x∧x.ok64:=by
 obtain⟨z0,r0,rfl,y0,f1⟩:=aC f0
 clear f0
 obtain⟨z1,r1,rfl,y1,f2⟩:=aC f1
 clear f1
 obtain rfl:=eP f2
 obtain⟨_,hlen,hc⟩:=World.cells?_some h
 have c0:=hc 0 (by omega)
 have c1:=hc 1 (by omega)
 obtain⟨g,o,sp⟩:=a
 have ha0:(⟨g,o,sp⟩:Addr).add 0=⟨g,o,sp⟩:=by simp[Addr.add]
 have hsp:sp=none:=World.cell?_spot (w:=w) (a:=⟨g,o,sp⟩) (v:= .int .i64 z0) (by rw[←ha0];simpa using c0)
 subst hsp
 exact⟨rfl,⟨z0,z1⟩,⟨by simpa[Addr.add]using c0,by simpa[Addr.add]using c1⟩,aV y0,aV y1⟩
theorem openSr{t e:TypeId}{a:Option Addr}{len cap:Nat}{d:DataW H}{p:List MemPlace}(ht:P.underlying t=some (.slice e))(hk:bc P 5 e=some [false,false])(hC:P.cellsOf e=2)
  (h:DataW.Trod enc P w base spare held t (.slice a len cap) d p):∃xs:List dO,fu w a len xs∧∀x ∈ xs,x.ok64:=by
 obtain⟨fuel,hf⟩:=h
 rcases open_slice ht hf with⟨hcs,_⟩|⟨a',len',cap',m,n,D,Pl,hcs,_,hl,hm,hmm,_,hx⟩
 ·simp[Value.cells]at hcs
  obtain⟨rfl,rfl,rfl⟩:=hcs
  exact⟨[],⟨rfl,Nat.zero_le _,Or.inl rfl⟩,by simp⟩
 ·simp[Value.cells]at hcs
  obtain⟨rfl,rfl,rfl⟩:=hcs
  have hlm:len≤m:=by rw[hmm];split<;>omega
  have hall:∀i,i<len→∃x:dO,(i=0→a'.spot=none)∧dm w a'.block (a'.off+i*2) x∧x.ok64:=by
   intro i hi
   obtain⟨cs',h1,h2⟩:=hx i (by omega)
   rw[hC]at h1
   obtain⟨hsp,x,hxa,hxo⟩:=cellsSr h1 (de 5 hk h2)
   have hb:(a'.add (i*2)).block=a'.block∧(a'.add (i*2)).off=a'.off+i*2:=by
    unfold Addr.add
    split
    ·exact⟨rfl,by omega⟩
    ·exact⟨rfl,rfl⟩
   rw[hb.1,hb.2]at hxa
   refine⟨x,fun h0=>?_,hxa,hxo⟩
   subst h0
   simpa[Addr.add]using hsp
  by_cases h0:len=0
  ·subst h0
   exact⟨[],⟨rfl,Nat.zero_le _,Or.inl rfl⟩,by simp⟩
  have hinh:Inhabited dO:=⟨⟨0,0⟩⟩
  obtain⟨f,hf'⟩:=choose_lt hall
  have hsp:=(hf' 0 (by omega)).1 rfl
  refine⟨(List.range len).map f,⟨by simp,by omega,Or.inr ⟨a'.block,a'.off,by cases a';simp_all,?_⟩⟩,?_⟩
  ·intro i x hix
   simp only[List.getElem?_map,Option.map_eq_some_iff]at hix
   obtain⟨j,hj,rfl⟩:=hix
   have hil:i<len:=by
    rcases Nat.lt_or_ge i len with h'|h'
    ·exact h'
    ·rw[List.getElem?_eq_none (by simpa using h')]at hj;cases hj
   rw[List.getElem?_eq_getElem (by simpa using hil)]at hj
   simp at hj
   subst hj
   exact(hf' i hil).2.1
  ·intro x hxm
   simp only[List.mem_map,List.mem_range]at hxm
   obtain⟨i,hi,rfl⟩:=hxm
   exact(hf' i hi).2.2
end
theorem Tryz.infoSr:(Tryz.prog.info? 77).map (fun i=>(i.zero,i.size,i.bytes))=some (some (.agg #[.int .i64 0,.int .i64 0]),2,16):=by kernel_rfl
theorem mkSr(len:Nat)(hl:len≤1048576):∃C:Array Value,C.size=len*2∧∀w:World,(Instr.makeSlice 41 (.int .i64 (len:Int)) (.int .i64 (len:Int))).run Tryz.prog w= .ok (.slice (some ⟨w.heap.size,0,none⟩) len len) (w.alloc (.cells C 77)):=by
 obtain⟨i0,hi,hz0,hz1,hz2⟩:=info_parts Tryz.infoSr
 refine⟨madeCells (Value.agg #[.int .i64 0,.int .i64 0]).cells (len*i0.size),by rw[size_madeCells,hz1],fun w=>?_⟩
 have h:=run_make (P:=Tryz.prog) w 41 77 i0 _ Tryz.underlying41 hi hz0 .i64 .i64 len len (by omega) (Int.le_refl _) (by rw[hz2];omega) (by omega)
 simpa using h
/-- The slice that is being filled. -/
def eo(W:World)(g ty len:Nat)(ys:List dO):Prop:=cj W g ty len∧∀i x,ys[i]? =some x→dm W g (i*2) x
theorem eo.step{wr w':World}{g ty len k:Nat}{xs:List dO}{x:dO}(h:eo wr g ty len (xs.take k))(hb:Below wr.heap.size wr w')(hk:k<len)(hx:xs[k]? =some x):eo (gm w' g (k*2) x) g ty len (xs.take (k+1)):=by
 have hB:=h.1.below hb h.1.lt
 refine⟨hB.sets x,fun i y hy=>?_⟩
 have hik:i<k+1:=by
  rcases Nat.lt_or_ge i (k+1)with h'|h'
  ·exact h'
  ·rw[List.getElem?_eq_none (iT)]at hy;cases hy
 rw[List.getElem?_take_of_lt hik]at hy
 by_cases he:i=k
 ·subst he
  rw[hx]at hy
  cases hy
  exact setSr_this hB hk x
 ·refine setSr_ne ?_ he
  exact(h.2 i y (by rw[List.getElem?_take_of_lt (by omega)];exact hy)).below hb h.1.lt
theorem eo.start{w:World}{ty len:Nat}{C:Array Value}(hC:C.size=len*2)(xs:List dO):eo (w.alloc (.cells C ty)) w.heap.size ty len (xs.take 0):=
 ⟨⟨C,by show(w.heap.push _)[w.heap.size]? =_;simp,hC⟩,fun i x h=>by simp at h⟩
theorem eo.done{W:World}{g ty len k:Nat}{xs:List dO}(h:eo W g ty len (xs.take k))(hk:xs.length≤k):em W g 0 xs:=by
 intro i x hx
 rw[List.take_of_length_le hk]at h
 simpa using h.2 i x hx
theorem below_setSr{B g o:Nat}{W W':World}{x:dO}(h:Below B W W')(hg:B≤g):Below B W (gm W' g o x):=((h.setCell hg _).setCell hg _)
set_option maxRecDepth 20000 in
set_option maxHeartbeats 1000000 in
theorem toSr_one(at_ wl:Int)(w:World):Calls Tryz.prog 92 #[.agg #[.int .i64 at_,.int .i64 wl]] w fun e w'=>e= .returned (.agg #[.int .i64 at_,.int .i64 wl])∧Below w.heap.size w w':=by
 go_enter Tryz.func92,Tryz.ntmps92
 go_wp2
 refine bodyPost_ret (v:= .agg #[.int .i64 at_,.int .i64 wl]) (by simp(maxDischargeDepth:=9) [results,Tryz.results92,go_sem, *]) rfl ⟨rfl,?_⟩
 exact(ar)
set_option maxRecDepth 20000 in
set_option maxHeartbeats 1000000 in
theorem toSr_at(a:Option Addr)(len cap:Nat)(xs:List dO)(w:World)(h:fu w a len xs)(hl:len≤1048576):Calls Tryz.prog 46 #[.slice a len cap] w fun e w'=>e= .returned (.slice (some ⟨w.heap.size,0,none⟩) len len)∧em w' w.heap.size 0 xs∧cj w' w.heap.size 77 len∧Below w.heap.size w w':=by
 obtain⟨C,hC,hmk⟩:=mkSr len hl
 go_enter Tryz.func46,Tryz.ntmps46
 go_wp2
 go_loopw [4] (fun i wr=>∃k:Nat,k≤len∧i= .int .i64 k∧eo wr w.heap.size 77 len (xs.take k)∧Below w.heap.size w wr) (fun i _=>len - (intOf i).toNat)
 case atStart=>exact⟨0,Nat.zero_le _,rfl,eo.start hC xs,ai _ _⟩
 case round=>
  obtain⟨k,hk,rfl,hF,hbw⟩:=hrel
  by_cases hlt:k<len
  ·obtain⟨hxl,hml,hx⟩:=h
   obtain⟨g,o,rfl,hr⟩:=hx.resolve_left (by omega)
   obtain⟨x,hxk⟩:∃x,xs[k]? =some x:=⟨_,List.getElem?_eq_getElem (by omega)⟩
   have hg:g<w.heap.size:=hr.lt (by omega)
   have hX:=ab hxk
   obtain⟨c0,c1⟩:=(hr k _ hxk).below hbw hg
   obtain⟨⟨u0,d0⟩,⟨u1,d1⟩⟩:=hF.1.cells hlt
   have f0:=hF.1.frozen (i:=k*2)
   have f1:=hF.1.frozen (i:=k*2+1)
   have hz:=hF.1.lt
   clear hx hxk
   go_wp2_with (go_at_call 92;refine(toSr_one _ _ _).mono ?_;rintro e w' ⟨rfl,hb⟩;obtain⟨hc,hf,hs⟩:=ac hb)
   go_roundw
   case rel=>exact⟨k+1,by omega,by go_num,hF.step hb hlt (aa hX),below_setSr (ad hbw hb) (Nat.le_refl _)⟩
   case measure=>simp[intOf];omega
  ·go_wp2
   go_ret
   exact⟨rfl,hF.done (by have:=h.1;omega),hF.1,hbw⟩
theorem SrRs_of{W:World}{g len:Nat}{xs:List dO}(h1:xs.length=len)(h2:len≤maxLen)(h:em W g 0 xs):fu W (some ⟨g,0,none⟩) len xs:=⟨h1,h2,Or.inr ⟨g,0,rfl,h⟩⟩
theorem toSr_any(a:Option Addr)(len cap:Nat)(xs:List dO)(w:World)(h:fu w a len xs)(hl:len≤1048576):Calls Tryz.prog 46 #[.slice a len cap] w fun e w'=>∃a',e= .returned (.slice a' len len)∧fu w' a' len xs∧WrSr w' a' len len∧(∀g o,0<len→a'=some ⟨g,o,none⟩→w.heap.size≤g)∧Below w.heap.size w w':=
 (toSr_at a len cap xs w h hl).mono fun e w' ⟨h1,h2,h3,h4⟩=>⟨_,h1,SrRs_of h.1 h.2.1 h2,Or.inr ⟨_,rfl,h3,Nat.le_refl _⟩,fun g o _ e'=>by simp at e';omega,h4⟩
/-- Such rows, in a block that is not below B. -/
def eV(W:World)(B:Nat)(a:Option Addr)(n:Nat)(xs:List dO):Prop:=fu W a n xs∧∀g o,0<n→a=some ⟨g,o,none⟩→B≤g
theorem eV.below{W W':World}{B:Nat}{a:Option Addr}{n:Nat}{xs:List dO}(h:eV W B a n xs)(hb:Below W.heap.size W W'):eV W' B a n xs:=⟨h.1.below hb,h.2⟩
theorem eV.less{W:World}{B B':Nat}{a:Option Addr}{n:Nat}{xs:List dO}(h:eV W B a n xs)(hB:B'≤B):eV W B' a n xs:=⟨h.1,fun g o hn ha=>Nat.le_trans hB (h.2 g o hn ha)⟩
theorem eV.len{W:World}{B:Nat}{a:Option Addr}{n:Nat}{xs:List dO}(h:eV W B a n xs):xs.length=n∧n≤maxLen:=⟨h.1.1,h.1.2.1⟩
theorem eV.set{W:World}{B:Nat}{p:Addr}{v:Value}{a:Option Addr}{n:Nat}{xs:List dO}(h:eV W B a n xs)(hp:p.block<B):eV (W.setCell p v) B a n xs:=⟨h.1.grown (cc p v) (fun g o hn ha=>by have:=h.2 g o hn ha;simp;omega),h.2⟩
theorem toSr_b(B:Nat)(a:Option Addr)(n c:Nat)(xs:List dO)(w:World)(h:eV w B a n xs)(hl:n≤1048576):Calls Tryz.prog 46 #[.slice a n c] w fun e w'=>∃a',e= .returned (.slice a' n n)∧eV w' w.heap.size a' n xs∧Below w.heap.size w w':=
 (toSr_any a n c xs w h.1 hl).mono fun e w' ⟨a',he,H,R,ge,hb⟩=>⟨a',he,⟨H,ge⟩,hb⟩
theorem eqSr_b(B1 B2:Nat)(a1 a2:Option Addr)(n c1 c2:Nat)(xs:List dO)(w:World)(h1:eV w B1 a1 n xs)(h2:eV w B2 a2 n xs):Calls Tryz.prog 57 #[.slice a1 n c1,.slice a2 n c2] w fun e w'=>e= .returned (.bool true)∧Below w.heap.size w w':=eqSr_any a1 a2 n c1 c2 xs w h1.1 h2.1
theorem szSr_p(a:Option Addr)(len cap:Nat)(L:Int)(w:World)(h:len≤maxLen)(h0:0≤L)(hL:L≤1048576):Calls Tryz.prog 35 #[.slice a len cap,.int .i64 L] w fun e w'=>fV L (len≤1048576) e∧w'=w:=by
 unfold maxLen at h
 by_cases h1:(len:Int)≤L
 ·go_enter Tryz.func35,Tryz.ntmps35
  go_wp2
  go_ret
  exact⟨⟨_,rfl,Or.inr ⟨by omega,by omega,by omega⟩⟩,rfl⟩
 ·go_enter Tryz.func35,Tryz.ntmps35
  go_wp2
  go_ret
  exact⟨⟨_,rfl,Or.inl rfl⟩,rfl⟩
def eW(W:World)(B:Nat)(a:Option Addr)(n:Nat)(xs:List bK):Prop:=cT W B a n xs
theorem eW.below{W W':World}{B:Nat}{a:Option Addr}{n:Nat}{xs:List bK}(h:eW W B a n xs)(hb:Below W.heap.size W W'):eW W' B a n xs:=cT.below h hb
theorem eW.less{W:World}{B B':Nat}{a:Option Addr}{n:Nat}{xs:List bK}(h:eW W B a n xs)(hB:B'≤B):eW W B' a n xs:=cT.less h hB
theorem eW.len{W:World}{B:Nat}{a:Option Addr}{n:Nat}{xs:List bK}(h:eW W B a n xs):xs.length=n∧n≤maxLen:=⟨h.1,h.2.1⟩
theorem eW.set{W:World}{B:Nat}{p:Addr}{v:Value}{a:Option Addr}{n:Nat}{xs:List bK}(h:eW W B a n xs)(hp:p.block<B):eW (W.setCell p v) B a n xs:=cT.set h hp
def bK.sm(x:bK):Prop:=x.q.length≤1048576
theorem szTi_p(a:Option Addr)(len cap:Nat)(xs:List bK)(L:Int)(w:World)(h:eW w 0 a len xs)(h0:0≤L)(hL:L≤1048576):Calls Tryz.prog 130 #[.slice a len cap,.int .i64 L] w fun e w'=>fV L (len≤1048576∧∀x ∈ xs,x.sm) e∧Below w.heap.size w w':=szTi_any a len cap xs L w h h0 hL
theorem toTi_b(B:Nat)(a:Option Addr)(n c:Nat)(xs:List bK)(w:World)(h:eW w B a n xs)(hl:n≤1048576∧∀y ∈ xs,y.sm):Calls Tryz.prog 143 #[.slice a n c] w fun e w'=>∃a',e= .returned (.slice a' n n)∧eW w' w.heap.size a' n xs∧Below w.heap.size w w':=toTi_any a n c xs w (cT.less h (Nat.zero_le _)) hl.1 hl.2
theorem eqTi_b(B1 B2:Nat)(a1 a2:Option Addr)(n c1 c2:Nat)(xs:List bK)(w:World)(h1:eW w B1 a1 n xs)(h2:eW w B2 a2 n xs):Calls Tryz.prog 174 #[.slice a1 n c1,.slice a2 n c2] w fun e w'=>e= .returned (.bool true)∧Below w.heap.size w w':=eqTi_any B1 B2 a1 a2 n c1 c2 xs w h1 h2
section
variable {H : Type} {enc : TypeId × Value → H} {P : Program} {w : World} {base : Nat} {spare : Nat → Bool} {held : Bool}
theorem openTiB{t e tq eq:TypeId}{a:Option Addr}{len cap:Nat}{d:DataW H}{p:List MemPlace}(ht:P.underlying t=some (.slice e))(hk:dh P 5 e=some [.s tq,.i,.b])(hC:P.cellsOf e=3)(htq:P.underlying tq=some (.slice eq))(hk2:bc P 5 eq=some [false,false,false,false,false])(hC2:P.cellsOf eq=5)
  (h:DataW.Trod enc P w base spare held t (.slice a len cap) d p):∃xs:List bK,eW w 0 a len xs∧∀x ∈ xs,x.ok64:=openTi ht hk hC htq hk2 hC2 h
end
/-- What a task has told for a checkpoint. -/
structure co where
 n:Int
 ps:List cl
 ls:List ch
def eH(W:World)(B g o:Nat)(x:co):Prop:=∃(a1:Option Addr) (l1 c1:Nat) (a2:Option Addr) (l2 c2:Nat),(W.cell? ⟨g,o,none⟩=some (.int .i64 x.n)∧W.cell? ⟨g,o+1,none⟩=some (.slice a1 l1 c1)∧W.cell? ⟨g,o+2,none⟩=some (.slice a2 l2 c2))∧cG W B a1 l1 x.ps∧cJ W B a2 l2 x.ls
def eN(W:World)(B:Nat)(a:Option Addr)(len:Nat)(xs:List co):Prop:=xs.length=len∧len≤maxLen∧(len=0∨∃g o,a=some ⟨g,o,none⟩∧B≤g∧∀(i:Nat) (x:co),xs[i]? =some x→eH W B g (o+i*3) x)
theorem eH.lt{W:World}{B g o:Nat}{x:co}(h:eH W B g o x):g<W.heap.size:=by
 obtain⟨a1,l1,c1,a2,l2,c2,⟨h0,h1,h2⟩,k1,k2⟩:=h
 exact bg h0
theorem eH.below{W W':World}{B g o:Nat}{x:co}(h:eH W B g o x)(hb:Below W.heap.size W W'):eH W' B g o x:=by
 have hg:=h.lt
 obtain⟨a1,l1,c1,a2,l2,c2,⟨h0,h1,h2⟩,k1,k2⟩:=h
 exact⟨a1,l1,c1,a2,l2,c2,⟨(hb.cell (p:=⟨g,_,none⟩) hg).trans h0,(hb.cell (p:=⟨g,_,none⟩) hg).trans h1,(hb.cell (p:=⟨g,_,none⟩) hg).trans h2⟩,k1.below hb,k2.below hb⟩
theorem eH.less{W:World}{B B' g o:Nat}{x:co}(h:eH W B g o x)(hB:B'≤B):eH W B' g o x:=by
 obtain⟨a1,l1,c1,a2,l2,c2,⟨h0,h1,h2⟩,k1,k2⟩:=h
 exact⟨a1,l1,c1,a2,l2,c2,⟨h0,h1,h2⟩,k1.less hB,k2.less hB⟩
theorem eH.set{W:World}{B g o:Nat}{p:Addr}{v:Value}{x:co}(h:eH W B g o x)(hg:p.block≠g)(hp:p.block<B):eH (W.setCell p v) B g o x:=by
 obtain⟨a1,l1,c1,a2,l2,c2,⟨h0,h1,h2⟩,k1,k2⟩:=h
 exact⟨a1,l1,c1,a2,l2,c2,⟨(aF hg).trans h0,(aF hg).trans h1,(aF hg).trans h2⟩,k1.set hp,k2.set hp⟩
theorem eN.below{W W':World}{B:Nat}{a:Option Addr}{len:Nat}{xs:List co}(h:eN W B a len xs)(hb:Below W.heap.size W W'):eN W' B a len xs:=by
 obtain⟨h1,h2,h3⟩:=h
 refine⟨h1,h2,?_⟩
 rcases h3 with h3|⟨g,o,ha,hB9,hr⟩
 ·exact Or.inl h3
 ·exact Or.inr ⟨g,o,ha,hB9,fun i x hx=>(hr i x hx).below hb⟩
theorem eN.less{W:World}{B B':Nat}{a:Option Addr}{len:Nat}{xs:List co}(h:eN W B a len xs)(hB:B'≤B):eN W B' a len xs:=by
 obtain⟨h1,h2,h3⟩:=h
 refine⟨h1,h2,?_⟩
 rcases h3 with h3|⟨g,o,ha,hB9,hr⟩
 ·exact Or.inl h3
 ·exact Or.inr ⟨g,o,ha,Nat.le_trans hB hB9,fun i x hx=>(hr i x hx).less hB⟩
theorem eN.set{W:World}{B:Nat}{p:Addr}{v:Value}{a:Option Addr}{len:Nat}{xs:List co}(h:eN W B a len xs)(hp:p.block<B):eN (W.setCell p v) B a len xs:=by
 obtain⟨h1,h2,h3⟩:=h
 refine⟨h1,h2,?_⟩
 rcases h3 with h3|⟨g,o,ha,hB9,hr⟩
 ·exact Or.inl h3
 ·exact Or.inr ⟨g,o,ha,hB9,fun i x hx=>(hr i x hx).set (by omega) hp⟩
theorem eN.len{W:World}{B:Nat}{a:Option Addr}{len:Nat}{xs:List co}(h:eN W B a len xs):xs.length=len∧len≤maxLen:=⟨h.1,h.2.1⟩
/-- A block of such, known whole; one that is being filled. -/
def gK(W:World)(g o:Nat)(v0 v1 v2:Value):World:=(((W.setCell ⟨g,o,none⟩ v0).setCell ⟨g,o+1,none⟩ v1).setCell ⟨g,o+2,none⟩ v2)
def dp(W:World)(g ty len:Nat):Prop:=∃cur,W.heap[g]? =some (.cells cur ty (0,0))∧cur.size=len*3
theorem dp.set{W:World}{g ty len i:Nat}(h:dp W g ty len)(v:Value):dp (W.setCell ⟨g,i,none⟩ v) g ty len:=by
 obtain⟨cur,h1,h2⟩:=h
 exact⟨_,Joins.block_setCell h1 v,by simp[h2]⟩
theorem dp.below{W W':World}{g ty len B:Nat}(h:dp W g ty len)(hb:Below B W W')(hg:g<B):dp W' g ty len:=by
 obtain⟨cur,h1,h2⟩:=h
 exact⟨cur,(hb.block g hg).trans h1,h2⟩
theorem dp.lt{W:World}{g ty len:Nat}(h:dp W g ty len):g<W.heap.size:=by
 obtain⟨cur,h1,h2⟩:=h
 exact(Array.getElem?_eq_some_iff.1 h1).1
theorem dp.cell{W:World}{g ty len i:Nat}(h:dp W g ty len)(hi:i<len*3):∃u,W.cell? ⟨g,i,none⟩=some u:=by
 obtain⟨cur,h1,h2⟩:=h
 exact⟨_,(cA h1 i).trans (Array.getElem?_eq_getElem (by omega))⟩
theorem dp.frozen{W:World}{g ty len i:Nat}(h:dp W g ty len):W.frozen? ⟨g,i,none⟩=false:=by
 obtain⟨cur,h1,h2⟩:=h
 exact Joins.unfrozen_of_block h1 i
theorem io{W:World}{g ty len i:Nat}{v:Value}(h:dp W g ty len)(hi:i<len*3):(W.setCell ⟨g,i,none⟩ v).cell? ⟨g,i,none⟩=some v:=by
 obtain⟨u,hu⟩:=h.cell hi
 exact World.cell?_setCell_same _ _ _ hu
theorem setTx_this{W:World}{g ty len k:Nat}{x:co}{a1:Option Addr}{l1 c1:Nat}{a2:Option Addr}{l2 c2:Nat}(h:dp W g ty len)(hk:k<len)(k1:cG W (g+1) a1 l1 x.ps)(k2:cJ W (g+1) a2 l2 x.ls):eH (gK W g (k*3) (.int .i64 x.n) (.slice a1 l1 c1) (.slice a2 l2 c2)) (g+1) g (k*3) x:=by
 unfold gK
 refine⟨a1,l1,c1,a2,l2,c2,⟨?_,?_,?_⟩,(((k1.set (by simp)).set (by simp)).set (by simp)),(((k2.set (by simp)).set (by simp)).set (by simp))⟩
 ·rw[al (by omega),al (by omega),io h (by omega)]
 ·rw[al (by omega),io (h.set _) (by omega)]
 ·rw[io ((h.set _).set _) (by omega)]
theorem setTx_ne{W:World}{g i k:Nat}{x:co}{v0 v1 v2:Value}(h:eH W (g+1) g (i*3) x)(hk:i≠k):eH (gK W g (k*3) v0 v1 v2) (g+1) g (i*3) x:=by
 unfold gK
 obtain⟨a1,l1,c1,a2,l2,c2,⟨h0,h1,h2⟩,k1,k2⟩:=h
 refine⟨a1,l1,c1,a2,l2,c2,⟨?_,?_,?_⟩,(((k1.set (by simp)).set (by simp)).set (by simp)),(((k2.set (by simp)).set (by simp)).set (by simp))⟩
 ·rw[al (by omega),al (by omega),al (by omega)];exact h0
 ·rw[al (by omega),al (by omega),al (by omega)];exact h1
 ·rw[al (by omega),al (by omega),al (by omega)];exact h2
def ep(W:World)(g ty len:Nat)(ys:List co):Prop:=dp W g ty len∧∀(i:Nat) (x:co),ys[i]? =some x→eH W (g+1) g (i*3) x
theorem ep.step{wr w':World}{g ty len k:Nat}{xs:List co}{x:co}{a1:Option Addr}{l1 c1:Nat}{a2:Option Addr}{l2 c2:Nat}(h:ep wr g ty len (xs.take k))(hb:Below wr.heap.size wr w')(hk:k<len)(hx:xs[k]? =some x)(k1:cG w' (g+1) a1 l1 x.ps)(k2:cJ w' (g+1) a2 l2 x.ls):ep (gK w' g (k*3) (.int .i64 x.n) (.slice a1 l1 c1) (.slice a2 l2 c2)) g ty len (xs.take (k+1)):=by
 have hB:=h.1.below hb h.1.lt
 refine⟨(((hB.set _).set _).set _),fun i y hy=>?_⟩
 have hik:i<k+1:=by
  rcases Nat.lt_or_ge i (k+1)with h'|h'
  ·exact h'
  ·rw[List.getElem?_eq_none (iT)]at hy;cases hy
 rw[List.getElem?_take_of_lt hik]at hy
 by_cases he:i=k
 ·subst he
  rw[hx]at hy
  cases hy
  exact setTx_this hB hk k1 k2
 ·refine setTx_ne ?_ he
  exact(h.2 i y (by rw[List.getElem?_take_of_lt (by omega)];exact hy)).below hb
theorem ep.start{w:World}{ty len:Nat}{C:Array Value}(hC:C.size=len*3)(xs:List co):ep (w.alloc (.cells C ty)) w.heap.size ty len (xs.take 0):=
 ⟨⟨C,by show(w.heap.push _)[w.heap.size]? =_;simp,hC⟩,fun i x h=>by simp at h⟩
theorem ep.done{W:World}{g ty len k:Nat}{xs:List co}(h:ep W g ty len (xs.take k))(hk:xs.length≤k)(hl:xs.length=len)(hm:len≤maxLen):eN W g (some ⟨g,0,none⟩) len xs:=by
 refine⟨hl,hm,Or.inr ⟨g,0,rfl,Nat.le_refl _,fun i x hx=>?_⟩⟩
 rw[List.take_of_length_le hk]at h
 have:=(h.2 i x hx).less (B':=g) (by omega)
 simpa using this
theorem below_setTx{B g o:Nat}{W W':World}{v0 v1 v2:Value}(h:Below B W W')(hg:B≤g):Below B W (gK W' g o v0 v1 v2):=(((h.setCell hg _).setCell hg _).setCell hg _)
section
variable {H : Type} {enc : TypeId × Value → H} {P : Program} {w : World} {base : Nat} {spare : Nat → Bool} {held : Bool}
def co.ok64(x:co):Prop:=(-9223372036854775808≤x.n∧x.n≤9223372036854775807)∧(∀y ∈ x.ps,y.ok64)∧(∀y ∈ x.ls,y.ok64)
theorem cellsTx{a:Addr}{cs:List Value}{t1 e1:TypeId}{t2 e2:TypeId}(u1a:P.underlying t1=some (.slice e1))(u1b:bc P 5 e1=some [false,false,false,false,false,false,false,false,false])(u1c:P.cellsOf e1=9)(u2a:P.underlying t2=some (.slice e2))(u2b:bc P 5 e2=some [false,false,false,false,false,false,false])(u2c:P.cellsOf e2=7)(h:w.cells? base a 3=some cs)(f0:ca enc P w base spare held cs [.i,.s t1,.s t2]):a.spot=none∧∃x:co,eH w 0 a.block a.off x∧x.ok64:=by
 obtain⟨z0,r0,rfl,y0,f1⟩:=fitT_i f0
 obtain⟨a1,l1,c1,d1,p1,r1,rfl,y1,f2⟩:=fitT_s f1
 obtain⟨a2,l2,c2,d2,p2,r2,rfl,y2,f3⟩:=fitT_s f2
 obtain rfl:=fitT_nil f3
 clear f0 f1 f2 f3
 obtain⟨x1,q1,o1⟩:=openPn u1a u1b u1c y1
 obtain⟨x2,q2,o2⟩:=openLp u2a u2b u2c y2
 obtain⟨_,hlen,hc⟩:=World.cells?_some h
 have b0:=hc 0 (by omega)
 have b1:=hc 1 (by omega)
 have b2:=hc 2 (by omega)
 obtain⟨g,o,sp⟩:=a
 have ha0:(⟨g,o,sp⟩:Addr).add 0=⟨g,o,sp⟩:=by simp[Addr.add]
 have hsp:sp=none:=World.cell?_spot (w:=w) (a:=⟨g,o,sp⟩) (v:= .int .i64 z0) (by rw[←ha0];simpa using b0)
 subst hsp
 exact⟨rfl,⟨z0,x1,x2⟩,⟨a1,l1,c1,a2,l2,c2,⟨by simpa[Addr.add]using b0,by simpa[Addr.add]using b1,by simpa[Addr.add]using b2⟩,⟨q1,fun _ _ _ _=>Nat.zero_le _⟩,⟨q2,fun _ _ _ _=>Nat.zero_le _⟩⟩,aV y0,o1,o2⟩
theorem openTx{t e:TypeId}{t1 e1:TypeId}{t2 e2:TypeId}{a:Option Addr}{len cap:Nat}{d:DataW H}{p:List MemPlace}(ht:P.underlying t=some (.slice e))(hk:dh P 5 e=some [.i,.s t1,.s t2])(hC:P.cellsOf e=3)(u1a:P.underlying t1=some (.slice e1))(u1b:bc P 5 e1=some [false,false,false,false,false,false,false,false,false])(u1c:P.cellsOf e1=9)(u2a:P.underlying t2=some (.slice e2))(u2b:bc P 5 e2=some [false,false,false,false,false,false,false])(u2c:P.cellsOf e2=7)
  (h:DataW.Trod enc P w base spare held t (.slice a len cap) d p):∃xs:List co,eN w 0 a len xs∧∀x ∈ xs,x.ok64:=by
 obtain⟨fuel,hf⟩:=h
 rcases open_slice ht hf with⟨hcs,_⟩|⟨a',len',cap',m,n,D,Pl,hcs,_,hl,hm,hmm,_,hx⟩
 ·simp[Value.cells]at hcs
  obtain⟨rfl,rfl,rfl⟩:=hcs
  exact⟨[],⟨rfl,Nat.zero_le _,Or.inl rfl⟩,by simp⟩
 ·simp[Value.cells]at hcs
  obtain⟨rfl,rfl,rfl⟩:=hcs
  have hlm:len≤m:=by rw[hmm];split<;>omega
  have hall:∀i,i<len→∃x:co,(i=0→a'.spot=none)∧eH w 0 a'.block (a'.off+i*3) x∧x.ok64:=by
   intro i hi
   obtain⟨cs',h1,h2⟩:=hx i (by omega)
   rw[hC]at h1
   obtain⟨hsp,x,hxa,hxo⟩:=cellsTx u1a u1b u1c u2a u2b u2c h1 (cv 5 hk h2)
   have hb:(a'.add (i*3)).block=a'.block∧(a'.add (i*3)).off=a'.off+i*3:=by
    unfold Addr.add
    split
    ·exact⟨rfl,by omega⟩
    ·exact⟨rfl,rfl⟩
   rw[hb.1,hb.2]at hxa
   refine⟨x,fun h0=>?_,hxa,hxo⟩
   subst h0
   simpa[Addr.add]using hsp
  by_cases h0:len=0
  ·subst h0
   exact⟨[],⟨rfl,Nat.zero_le _,Or.inl rfl⟩,by simp⟩
  have hinh:Inhabited co:=⟨⟨0,[],[]⟩⟩
  obtain⟨f,hf'⟩:=choose_lt hall
  have hsp:=(hf' 0 (by omega)).1 rfl
  refine⟨(List.range len).map f,⟨by simp,by omega,Or.inr ⟨a'.block,a'.off,by cases a';simp_all,Nat.zero_le _,?_⟩⟩,?_⟩
  ·intro i x hix
   simp only[List.getElem?_map,Option.map_eq_some_iff]at hix
   obtain⟨j,hj,rfl⟩:=hix
   have hil:i<len:=by
    rcases Nat.lt_or_ge i len with h'|h'
    ·exact h'
    ·rw[List.getElem?_eq_none (by simpa using h')]at hj;cases hj
   rw[List.getElem?_eq_getElem (by simpa using hil)]at hj
   simp at hj
   subst hj
   exact(hf' i hil).2.1
  ·intro x hxm
   simp only[List.mem_map,List.mem_range]at hxm
   obtain⟨i,hi,rfl⟩:=hxm
   exact(hf' i hi).2.2
end
def co.sm(x:co):Prop:=x.ps.length≤1048576∧x.ls.length≤1048576
theorem smTx_of(x:co){l1 l2:Nat}(h1:x.ps.length=l1)(h2:x.ls.length=l2)(h:l1≤1048576∧l2≤1048576):x.sm:=by subst h1;subst h2;exact h
theorem of_smTx(x:co){l1 l2:Nat}(h1:x.ps.length=l1)(h2:x.ls.length=l2)(h:x.sm):l1≤1048576∧l2≤1048576:=by subst h1;subst h2;exact h
set_option maxRecDepth 20000 in
set_option maxHeartbeats 1000000 in
theorem szTx_one(x:co)(a1:Option Addr)(l1 c1:Nat)(a2:Option Addr)(l2 c2:Nat)(L:Int)(w:World)(h1:cG w 0 a1 l1 x.ps)(h2:cJ w 0 a2 l2 x.ls)(h0L:0≤L)(hL:L≤1048576):Calls Tryz.prog 132 #[.agg #[.int .i64 x.n,.slice a1 l1 c1,.slice a2 l2 c2],.int .i64 L] w fun e w'=>fV L (l1≤1048576∧l2≤1048576) e∧Below w.heap.size w w':=by
 go_enter Tryz.func132,Tryz.ntmps132
 go_wp2_with fail
 refine(szPn_p a1 l1 c1 L _ h1.len.2 (by omega) (by omega)).mono ?_
 rintro e w0x ⟨⟨r0,rfl,hr⟩,hw⟩
 obtain rfl:=hw.symm
 clear hw
 rcases hr with rfl|⟨p0,q0,s0⟩
 ·go_wp2
  go_ret
  exact⟨⟨_,rfl,Or.inl rfl⟩,(ar)⟩
 go_wp2_with fail
 refine(szLp_p a2 l2 c2 r0 _ h2.len.2 (by omega) (by omega)).mono ?_
 rintro e w1x ⟨⟨r1,rfl,hr⟩,hw⟩
 obtain rfl:=hw.symm
 clear hw
 rcases hr with rfl|⟨p1,q1,s1⟩
 ·go_wp2
  go_ret
  exact⟨⟨_,rfl,Or.inl rfl⟩,(ar)⟩
 go_wp2
 go_ret
 exact⟨⟨_,rfl,Or.inr ⟨p1,by omega,s0,s1⟩⟩,(ar)⟩
set_option maxRecDepth 20000 in
set_option maxHeartbeats 2000000 in
theorem toTx_one(x:co)(a1:Option Addr)(l1 c1:Nat)(a2:Option Addr)(l2 c2:Nat)(w:World)(h1:cG w 0 a1 l1 x.ps)(h2:cJ w 0 a2 l2 x.ls)(m1:l1≤1048576)(m2:l2≤1048576):Calls Tryz.prog 145 #[.agg #[.int .i64 x.n,.slice a1 l1 c1,.slice a2 l2 c2]] w fun e w'=>∃b1 b2,e= .returned (.agg #[.int .i64 x.n,.slice b1 l1 l1,.slice b2 l2 l2])∧cG w' w.heap.size b1 l1 x.ps∧cJ w' w.heap.size b2 l2 x.ls∧Below w.heap.size w w':=by
 go_enter Tryz.func145,Tryz.ntmps145
 go_wp2_with (first
  |(go_at_call 147;refine(toPn_b 0 a1 l1 c1 x.ps _ (h1.below (ar)) m1).mono ?_;rintro e' w0 ⟨b1,rfl,H1,hb0⟩;obtain⟨hc0,hf0,hs0⟩:=ac hb0;have hz00:w.heap.size<w0.heap.size:=(by have h9:=hb0.size;(try simp at h9);omega);have hz01:w.heap.size+1<w0.heap.size:=(by have h9:=hb0.size;(try simp at h9);omega);have hz02:w.heap.size+1+1<w0.heap.size:=(by have h9:=hb0.size;(try simp at h9);omega))
  |(go_at_call 148;refine(toLp_b 0 a2 l2 c2 x.ls _ (h2.below (ar)) m2).mono ?_;rintro e' w1 ⟨b2,rfl,H2,hb1⟩;obtain⟨hc1,hf1,hs1⟩:=ac hb1;have hz10:w.heap.size<w1.heap.size:=(by have h9:=hb1.size;(try simp at h9);omega);have hz11:w.heap.size+1<w1.heap.size:=(by have h9:=hb1.size;(try simp at h9);omega);have hz12:w.heap.size+1+1<w1.heap.size:=(by have h9:=hb1.size;(try simp at h9);omega)))
 have G1:cG w0 (w.heap.size+3) b1 l1 x.ps:=H1.less (iR)
 have G2:cJ w1 (w.heap.size+3) b2 l2 x.ls:=H2.less (iR)
 refine bodyPost_ret (v:= .agg #[.int .i64 x.n,.slice b1 l1 l1,.slice b2 l2 l2]) (by simp(maxDischargeDepth:=9) [results,Tryz.results145,go_sem, *]) rfl ⟨b1,b2,rfl,cG.less (B:=w.heap.size+3) ?_ (by omega),cJ.less (B:=w.heap.size+3) ?_ (by omega),?_⟩
 ·repeat(first|(with_reducible exact G1)|(with_reducible refine cG.set ?_ (iR))|(with_reducible refine cG.below ?_ hb1))
 ·repeat(first|(with_reducible exact G2)|(with_reducible refine cJ.set ?_ (iR)))
 ·exact(ar)
set_option maxRecDepth 20000 in
set_option maxHeartbeats 1000000 in
theorem eqTx_one(B1 B2:Nat)(x:co)(a1x a1y:Option Addr)(l1 c1x c1y:Nat)(a2x a2y:Option Addr)(l2 c2x c2y:Nat)(w:World)(h1x:cG w B1 a1x l1 x.ps)(h1y:cG w B2 a1y l1 x.ps)(h2x:cJ w B1 a2x l2 x.ls)(h2y:cJ w B2 a2y l2 x.ls):Calls Tryz.prog 176 #[.agg #[.int .i64 x.n,.slice a1x l1 c1x,.slice a2x l2 c2x],.agg #[.int .i64 x.n,.slice a1y l1 c1y,.slice a2y l2 c2y]] w fun e w'=>e= .returned (.bool true)∧Below w.heap.size w w':=by
 go_enter Tryz.func176,Tryz.ntmps176
 go_wp2_with (first
  |(go_at_call 16;refine(eqPn_b B1 B2 a1x a1y l1 c1x c1y x.ps _ (h1x.below (ar)) (h1y.below (ar))).mono ?_;rintro e' w0 ⟨rfl,hb0⟩;obtain⟨hc0,hf0,hs0⟩:=ac hb0;have hz00:w.heap.size<w0.heap.size:=(by have h9:=hb0.size;(try simp at h9);omega);have hz01:w.heap.size+1<w0.heap.size:=(by have h9:=hb0.size;(try simp at h9);omega))
  |(go_at_call 22;refine(eqLp_b B1 B2 a2x a2y l2 c2x c2y x.ls _ (h2x.below (ar)) (h2y.below (ar))).mono ?_;rintro e' w1 ⟨rfl,hb1⟩;obtain⟨hc1,hf1,hs1⟩:=ac hb1;have hz10:w.heap.size<w1.heap.size:=(by have h9:=hb1.size;(try simp at h9);omega);have hz11:w.heap.size+1<w1.heap.size:=(by have h9:=hb1.size;(try simp at h9);omega)))
 go_ret
 exact⟨rfl,(ar)⟩
set_option maxRecDepth 20000 in
set_option maxHeartbeats 1000000 in
theorem szTx_p(a:Option Addr)(len cap:Nat)(xs:List co)(L:Int)(w:World)(h:eN w 0 a len xs)(h0:0≤L)(hL:L≤1048576):Calls Tryz.prog 133 #[.slice a len cap,.int .i64 L] w fun e w'=>fV L (len≤1048576∧∀x ∈ xs,x.sm) e∧Below w.heap.size w w':=by
 have hm:=h.2.1
 unfold maxLen at hm
 by_cases h1:(len:Int)≤L
 ·go_enter Tryz.func133,Tryz.ntmps133
  go_wp2
  go_loopw [1,5] (fun lv i wr=>∃(k:Nat) (l:Int),k≤len∧i= .int .i64 k∧lv= .int .i64 l∧0≤l∧l≤L∧(∀(i:Nat) (x:co),i<k→xs[i]? =some x→x.sm)∧Below w.heap.size w wr) (fun _ i _=>len - (intOf i).toNat)
  case atStart=>exact⟨0,_,Nat.zero_le _,rfl,rfl,by omega,by omega,fun i x hi=>absurd hi (by omega),Below.refl _ _⟩
  case round=>
   obtain⟨k,l,hk,rfl,rfl,hl0,hl1,hq,hbw⟩:=hrel
   by_cases hlt:k<len
   ·obtain⟨hxl,hml,hx⟩:=h
    obtain⟨g,o,rfl,_,hr⟩:=hx.resolve_left (by omega)
    obtain⟨x,hxk⟩:∃x,xs[k]? =some x:=⟨_,List.getElem?_eq_getElem (by omega)⟩
    have hX:=ab hxk
    have HQ:=ab hq
    obtain⟨a1,l1,c1,a2,l2,c2,⟨c0z,c1z,c2z⟩,k1,k2⟩:=(hr k _ hxk).below hbw
    have hsm:=ab (smTx_of x k1.len.1 k2.len.1)
    clear hx hxk hr hq
    go_wp2_with fail
    refine(szTx_one x a1 l1 c1 a2 l2 c2 l _ k1 k2 hl0 (by omega)).mono ?_
    rintro e w1 ⟨⟨r,rfl,hr⟩,hb⟩
    rcases hr with rfl|⟨h2,h3,h4⟩
    ·go_wp2
     go_ret
     exact⟨⟨_,rfl,Or.inl rfl⟩,(ar)⟩
    ·have HS:=ab (aa hsm h4)
     clear h4 hsm
     go_wp2
     go_roundw
     case rel=>
      refine⟨k+1,r,by omega,by go_num,rfl,h2,by omega,fun i y hi hy=>?_,(ar)⟩
      by_cases he:i=k
      ·subst he
       rw[aa hX]at hy
       cases hy
       exact aa HS
      ·exact aa HQ i y (by omega) hy
     case measure=>simp[intOf];omega
   ·go_wp2
    go_ret
    refine⟨⟨_,rfl,Or.inr ⟨hl0,hl1,by omega,fun x hx=>?_⟩⟩,hbw⟩
    obtain⟨i,hi,rfl⟩:=List.getElem_of_mem hx
    exact hq i _ (by have:=h.1;omega) (List.getElem?_eq_getElem hi)
 ·go_enter Tryz.func133,Tryz.ntmps133
  go_wp2
  go_ret
  exact⟨⟨_,rfl,Or.inl rfl⟩,Below.refl _ _⟩
theorem Tryz.infoTx:(Tryz.prog.info? 84).map (fun i=>(i.zero,i.size,i.bytes))=some (some (.agg #[.int .i64 0,.slice none 0 0,.slice none 0 0]),3,56):=by kernel_rfl
theorem mkTx(len:Nat)(hl:len≤1048576):∃C:Array Value,C.size=len*3∧∀w:World,(Instr.makeSlice 88 (.int .i64 (len:Int)) (.int .i64 (len:Int))).run Tryz.prog w= .ok (.slice (some ⟨w.heap.size,0,none⟩) len len) (w.alloc (.cells C 84)):=by
 obtain⟨i0,hi,hz0,hz1,hz2⟩:=info_parts Tryz.infoTx
 refine⟨madeCells (Value.agg #[.int .i64 0,.slice none 0 0,.slice none 0 0]).cells (len*i0.size),by rw[size_madeCells,hz1],fun w=>?_⟩
 have h:=run_make (P:=Tryz.prog) w 88 84 i0 _ Tryz.underlying88 hi hz0 .i64 .i64 len len (by omega) (Int.le_refl _) (by rw[hz2];omega) (by omega)
 simpa using h
set_option maxRecDepth 20000 in
set_option maxHeartbeats 1000000 in
theorem toTx_b(B:Nat)(a:Option Addr)(len cap:Nat)(xs:List co)(w:World)(h:eN w B a len xs)(hl:len≤1048576∧∀x ∈ xs,x.sm):Calls Tryz.prog 146 #[.slice a len cap] w fun e w'=>∃a',e= .returned (.slice a' len len)∧eN w' w.heap.size a' len xs∧Below w.heap.size w w':=by
 obtain⟨hl,hq⟩:=hl
 replace h:=h.less (Nat.zero_le B)
 obtain⟨C,hC,hmk⟩:=mkTx len hl
 go_enter Tryz.func146,Tryz.ntmps146
 go_wp2
 go_loopw [4] (fun i wr=>∃k:Nat,k≤len∧i= .int .i64 k∧ep wr w.heap.size 84 len (xs.take k)∧Below w.heap.size w wr) (fun i _=>len - (intOf i).toNat)
 case atStart=>exact⟨0,Nat.zero_le _,rfl,ep.start hC xs,ai _ _⟩
 case round=>
  obtain⟨k,hk,rfl,hF,hbw⟩:=hrel
  by_cases hlt:k<len
  ·obtain⟨hxl,hml,hx⟩:=h
   obtain⟨g,o,rfl,_,hr⟩:=hx.resolve_left (by omega)
   obtain⟨x,hxk⟩:∃x,xs[k]? =some x:=⟨_,List.getElem?_eq_getElem (by omega)⟩
   have hX:=ab hxk
   have hqk:=hq x (List.mem_of_getElem? hxk)
   obtain⟨a1,l1,c1,a2,l2,c2,⟨c0z,c1z,c2z⟩,k1,k2⟩:=(hr k _ hxk).below hbw
   obtain⟨m1,m2⟩:=of_smTx x k1.len.1 k2.len.1 hqk
   obtain⟨u0,d0⟩:=hF.1.cell (i:=k*3) (by omega)
   have f0:=hF.1.frozen (i:=k*3)
   obtain⟨u1,d1⟩:=hF.1.cell (i:=k*3+1) (by omega)
   have f1:=hF.1.frozen (i:=k*3+1)
   obtain⟨u2,d2⟩:=hF.1.cell (i:=k*3+2) (by omega)
   have f2:=hF.1.frozen (i:=k*3+2)
   have hz:=hF.1.lt
   clear hx hxk hr hqk
   go_wp2_with (go_at_call 145;refine(toTx_one x a1 l1 c1 a2 l2 c2 _ k1 k2 m1 m2).mono ?_;rintro e w' ⟨b1,b2,rfl,H1,H2,hb⟩;obtain⟨hc,hf,hs⟩:=ac hb)
   go_roundw
   case rel=>exact⟨k+1,by omega,by go_num,hF.step hb hlt (aa hX) (H1.less (by omega)) (H2.less (by omega)),below_setTx (ad hbw hb) (Nat.le_refl _)⟩
   case measure=>simp[intOf];omega
  ·go_wp2
   go_ret
   exact⟨_,rfl,hF.done (by have:=h.1;omega) h.1 h.2.1,hbw⟩
set_option maxRecDepth 20000 in
set_option maxHeartbeats 1000000 in
theorem eqTx_b(B1 B2:Nat)(a1 a2:Option Addr)(len cap1 cap2:Nat)(xs:List co)(w:World)(h1:eN w B1 a1 len xs)(h2:eN w B2 a2 len xs):Calls Tryz.prog 177 #[.slice a1 len cap1,.slice a2 len cap2] w fun e w'=>e= .returned (.bool true)∧Below w.heap.size w w':=by
 have hm:=h1.2.1
 unfold maxLen at hm
 go_enter Tryz.func177,Tryz.ntmps177
 go_wp2
 go_loopw [5] (fun i wr=>∃k:Nat,k≤len∧i= .int .i64 k∧Below w.heap.size w wr) (fun i _=>len - (intOf i).toNat)
 case atStart=>exact⟨0,Nat.zero_le _,rfl,Below.refl _ _⟩
 case round=>
  obtain⟨k,hk,rfl,hbw⟩:=hrel
  by_cases hlt:k<len
  ·obtain⟨hl1,_,hx1⟩:=h1
   obtain⟨hl2,_,hx2⟩:=h2
   obtain⟨g1,o1,rfl,_,hr1⟩:=hx1.resolve_left (by omega)
   obtain⟨g2,o2,rfl,_,hr2⟩:=hx2.resolve_left (by omega)
   obtain⟨x,hxk⟩:∃x,xs[k]? =some x:=⟨_,List.getElem?_eq_getElem (by omega)⟩
   have t1:=(hr1 k _ hxk).below hbw
   have t2:=(hr2 k _ hxk).below hbw
   have hs1:=t1.lt
   have hs2:=t2.lt
   obtain⟨a1x,l1,c1x,a2x,l2,c2x,⟨c0z,c1z,c2z⟩,k1x,k2x⟩:=t1
   obtain⟨a1y,l1y,c1y,a2y,l2y,c2y,⟨d0z,d1z,d2z⟩,k1y,k2y⟩:=t2
   obtain rfl:l1=l1y:=by have e1:=k1x.len.1;have e2:=k1y.len.1;omega
   obtain rfl:l2=l2y:=by have e1:=k2x.len.1;have e2:=k2y.len.1;omega
   have hS:((wr.cell? ⟨g1,o1+k*3,none⟩=some (.int .i64 x.n)∧wr.cell? ⟨g1,o1+k*3+1,none⟩=some (.slice a1x l1 c1x)∧wr.cell? ⟨g1,o1+k*3+2,none⟩=some (.slice a2x l2 c2x)∧wr.cell? ⟨g2,o2+k*3,none⟩=some (.int .i64 x.n)∧wr.cell? ⟨g2,o2+k*3+1,none⟩=some (.slice a1y l1 c1y)∧wr.cell? ⟨g2,o2+k*3+2,none⟩=some (.slice a2y l2 c2y))∧g1<wr.heap.size∧g2<wr.heap.size):=⟨⟨c0z,c1z,c2z,d0z,d1z,d2z⟩,hs1,hs2⟩
   clear hx1 hx2 hxk hr1 hr2
   go_wp2
   go_region_held3 (fun W=>((W.cell? ⟨g1,o1+k*3,none⟩=some (.int .i64 x.n)∧W.cell? ⟨g1,o1+k*3+1,none⟩=some (.slice a1x l1 c1x)∧W.cell? ⟨g1,o1+k*3+2,none⟩=some (.slice a2x l2 c2x)∧W.cell? ⟨g2,o2+k*3,none⟩=some (.int .i64 x.n)∧W.cell? ⟨g2,o2+k*3+1,none⟩=some (.slice a1y l1 c1y)∧W.cell? ⟨g2,o2+k*3+2,none⟩=some (.slice a2y l2 c2y))∧g1<W.heap.size∧g2<W.heap.size)) ((first|((repeat(first|(with_reducible assumption)|(with_reducible refine cY ?_ (iP))|(with_reducible refine cY ?_ (ag (Below.refl _ _)))|(with_reducible refine cY ?_ (ai _ _))));done)|(refine⟨⟨?_,?_,?_,?_,?_,?_⟩,?_,?_⟩<;>first|(go_keep;done)|(simp;done)|(simp;omega)|omega)))
    (first
    |(go_at_call 176;refine(eqTx_one B1 B2 x a1x a1y l1 c1x c1y a2x a2y l2 c2x c2y _ (k1x.below (aj)) (k1y.below (aj)) (k2x.below (aj)) (k2y.below (aj))).mono ?_;rintro e w' ⟨rfl,hb⟩;obtain⟨hc,hf,hs⟩:=ac hb))
   go_wp2
   go_roundw
   case rel=>exact⟨k+1,by omega,by go_num,(aj)⟩
   case measure=>simp[intOf];omega
  ·go_wp2
   go_ret
   exact⟨rfl,hbw⟩
end Go.Proofs.YtiilbnjjhgcjdaaGreat
