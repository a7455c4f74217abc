/- Laid together: what the claim needs of the texts that were built one by one. -/
import Derived.Test.YtealpjmannopeaaGreatX0
import Derived.Deep.Slices
import Derived.Lib.SmallJoins
import Derived.OwnWalk
import Derived.WalkSpells
import Derived.Deep.RegionHeld3
import Derived.Test.YtealpjmannopeaaGreatX2
set_option linter.unusedVariables false
namespace Go.Proofs.YtealpjmannopeaaGreat
open Go.ChangeShapes Go.WideShapes Go.ChangeAt Go.RowKit
/-- A row of 2 numbers. -/
structure dY where
 at_:Int
 wl:Int
/-- A row lies in its cells; rows lie one behind the other; a slice's value holds rows. -/
def dB(W:World)(g o:Nat)(x:dY):Prop:=W.cell? ⟨g,o,none⟩=some (.int .i64 x.at_)∧W.cell? ⟨g,o+1,none⟩=some (.int .i64 x.wl)
def eB(W:World)(g o:Nat)(xs:List dY):Prop:=∀i x,xs[i]? =some x→dB W g (o+i*2) x
def fV(W:World)(a:Option Addr)(len:Nat)(xs:List dY):Prop:=xs.length=len∧len≤maxLen∧(len=0∨∃g o,a=some ⟨g,o,none⟩∧eB W g o xs)
theorem dB.lt{W:World}{g o:Nat}{x:dY}(h:dB W g o x):g<W.heap.size:=by
 obtain⟨h0,_⟩:=h
 rcases Nat.lt_or_ge g W.heap.size with hl|hg
 ·exact hl
 ·simp[World.cell?,Array.getElem?_eq_none hg]at h0
theorem eB.lt{W:World}{g o:Nat}{xs:List dY}(h:eB W g o xs)(hp:0<xs.length):g<W.heap.size:=(h 0 xs[0] (List.getElem?_eq_getElem hp)).lt
theorem dB.below{W W':World}{B g o:Nat}{x:dY}(h:dB W g o x)(hb:Below B W W')(hg:g<B):dB W' g o x:=by
 obtain⟨h0,h1⟩:=h
 exact⟨(hb.cell (p:=⟨g,_,none⟩) hg).trans h0,(hb.cell (p:=⟨g,_,none⟩) hg).trans h1⟩
theorem eB.below{W W':World}{B g o:Nat}{xs:List dY}(h:eB W g o xs)(hb:Below B W W')(hg:0<xs.length→g<B):eB W' g o xs:=by
 intro i x hx
 have hlt:i<xs.length:=(List.getElem?_eq_some_iff.1 hx).1
 exact(h i x hx).below hb (hg (by omega))
theorem fV.below{W W':World}{a:Option Addr}{len:Nat}{xs:List dY}(h:fV W a len xs)(hb:Below W.heap.size W W'):fV W' a len xs:=by
 obtain⟨h1,h2,h3⟩:=h
 refine⟨h1,h2,?_⟩
 rcases h3 with h3|⟨g,o,ha,hr⟩
 ·exact Or.inl h3
 ·exact Or.inr ⟨g,o,ha,hr.below hb (fun hp=>hr.lt hp)⟩
theorem dB.grown{W W':World}{row:Option Nat}{g o:Nat}{x:dY}(h:dB W g o x)(hg:W.grownBy W' row)(hne:some g≠row):dB W' g o x:=by
 have hbk:=hg.block g h.lt hne
 obtain⟨h0,h1⟩:=h
 exact⟨(World.cell?_of_block (w:=W) hbk).trans h0,(World.cell?_of_block (w:=W) hbk).trans h1⟩
theorem fV.grown{W W':World}{row:Option Nat}{a:Option Addr}{n:Nat}{xs:List dY}(h:fV W a n xs)(hg:W.grownBy W' row)(hne:∀g o,0<n→a=some ⟨g,o,none⟩→some g≠row):fV W' a n xs:=by
 obtain⟨h1,h2,h3⟩:=h
 refine⟨h1,h2,?_⟩
 rcases h3 with h3|⟨g,o,ha,hr⟩
 ·exact Or.inl h3
 ·refine Or.inr ⟨g,o,ha,fun i x hx=>(hr i x hx).grown hg (hne g o ?_ ha)⟩
  have hlt:i<xs.length:=(List.getElem?_eq_some_iff.1 hx).1
  omega
/-- A row is stored; a block of rows, known whole. -/
def hH(W:World)(g o:Nat)(x:dY):World:=((W.setCell ⟨g,o,none⟩ (.int .i64 x.at_)).setCell ⟨g,o+1,none⟩ (.int .i64 x.wl))
def cB(W:World)(g ty len:Nat):Prop:=∃cur,W.heap[g]? =some (.cells cur ty (0,0))∧cur.size=len*2
theorem cB.set{W:World}{g ty len i:Nat}(h:cB W g ty len)(v:Value):cB (W.setCell ⟨g,i,none⟩ v) g ty len:=by
 obtain⟨cur,h1,h2⟩:=h
 exact⟨_,Joins.block_setCell h1 v,by simp[h2]⟩
theorem cB.below{W W':World}{g ty len B:Nat}(h:cB W g ty len)(hb:Below B W W')(hg:g<B):cB W' g ty len:=by
 obtain⟨cur,h1,h2⟩:=h
 exact⟨cur,(hb.block g hg).trans h1,h2⟩
theorem cB.lt{W:World}{g ty len:Nat}(h:cB W g ty len):g<W.heap.size:=by
 obtain⟨cur,h1,h2⟩:=h
 exact(Array.getElem?_eq_some_iff.1 h1).1
theorem cB.cell{W:World}{g ty len i:Nat}(h:cB W g ty len)(hi:i<len*2):∃u,W.cell? ⟨g,i,none⟩=some u:=by
 obtain⟨cur,h1,h2⟩:=h
 exact⟨_,(cA h1 i).trans (Array.getElem?_eq_getElem (by omega))⟩
theorem cB.frozen{W:World}{g ty len i:Nat}(h:cB W g ty len):W.frozen? ⟨g,i,none⟩=false:=by
 obtain⟨cur,h1,h2⟩:=h
 exact Joins.unfrozen_of_block h1 i
theorem cB.cells{W:World}{g ty len k:Nat}(h:cB W g ty len)(hk:k<len):(∃u,W.cell? ⟨g,k*2,none⟩=some u)∧(∃u,W.cell? ⟨g,k*2+1,none⟩=some u):=⟨h.cell (by omega),h.cell (by omega)⟩
theorem cB.sets{W:World}{g ty len o:Nat}(h:cB W g ty len)(x:dY):cB (hH W g o x) g ty len:=((h.set _).set _)
theorem fj{W:World}{g i j:Nat}{v:Value}(h:i≠j):(W.setCell ⟨g,i,none⟩ v).cell? ⟨g,j,none⟩=W.cell? ⟨g,j,none⟩:=World.cell?_setCell_other _ _ _ _ (by intro e;injection e with e1 e2;exact h e2)
theorem Sr_this{W:World}{g ty len i:Nat}{v:Value}(h:cB W g ty len)(hi:i<len*2):(W.setCell ⟨g,i,none⟩ v).cell? ⟨g,i,none⟩=some v:=by
 obtain⟨u,hu⟩:=h.cell hi
 exact World.cell?_setCell_same _ _ _ hu
theorem setSr_this{W:World}{g ty len k:Nat}(h:cB W g ty len)(hk:k<len)(x:dY):dB (hH W g (k*2) x) g (k*2) x:=by
 unfold hH
 refine⟨?_,?_⟩
 ·rw[fj (by omega),Sr_this h (by omega)]
 ·rw[Sr_this (h.set _) (by omega)]
theorem setSr_ne{W:World}{g i k:Nat}{x y:dY}(h:dB W g (i*2) y)(hk:i≠k):dB (hH W g (k*2) x) g (i*2) y:=by
 unfold hH
 obtain⟨h0,h1⟩:=h
 refine⟨?_,?_⟩
 ·rw[fj (by omega),fj (by omega)];exact h0
 ·rw[fj (by omega),fj (by omega)];exact h1
def WrSr(W:World)(a:Option Addr)(n cap:Nat):Prop:=n=0∨∃g,a=some ⟨g,0,none⟩∧cB W g 131 cap∧n≤cap
theorem hd_2_2{b0 b1 a0 a1 c0 c1:Nat}{k0 k1 l0 l1:Value}{W W':World}(h:((W.cell? ⟨b0,a0,none⟩=some k0∧W.cell? ⟨b0,a1,none⟩=some k1∧W.cell? ⟨b1,c0,none⟩=some l0∧W.cell? ⟨b1,c1,none⟩=some l1)∧b0<W.heap.size∧b1<W.heap.size))(hb:Below W.heap.size W W'):((W'.cell? ⟨b0,a0,none⟩=some k0∧W'.cell? ⟨b0,a1,none⟩=some k1∧W'.cell? ⟨b1,c0,none⟩=some l0∧W'.cell? ⟨b1,c1,none⟩=some l1)∧b0<W'.heap.size∧b1<W'.heap.size):=by
 obtain⟨h99,s0,s1⟩:=h
 have e0:∀z,W'.cell? ⟨b0,z,none⟩=W.cell? ⟨b0,z,none⟩:=fun z=>hb.cell s0
 have e1:∀z,W'.cell? ⟨b1,z,none⟩=W.cell? ⟨b1,z,none⟩:=fun z=>hb.cell s1
 refine⟨?_,Nat.lt_of_lt_of_le s0 hb.size,Nat.lt_of_lt_of_le s1 hb.size⟩
 simp only[e0,e1]
 exact h99
set_option maxHeartbeats 1000000 in
theorem eqSr_one(x:dY)(w:World):Calls Tryz.prog 81 #[.agg #[.int .i64 x.at_,.int .i64 x.wl],.agg #[.int .i64 x.at_,.int .i64 x.wl]] w fun e w'=>e= .returned (.bool true)∧Below w.heap.size w w':=by
 go_enter Tryz.func81,Tryz.ntmps81
 go_wp2
 go_ret
 exact⟨rfl,(ar)⟩
set_option maxRecDepth 20000 in
set_option maxHeartbeats 1000000 in
theorem eqSr_any(a1 a2:Option Addr)(len cap1 cap2:Nat)(xs:List dY)(w:World)(h1:fV w a1 len xs)(h2:fV w a2 len xs):Calls Tryz.prog 41 #[.slice a1 len cap1,.slice a2 len cap2] w fun e w'=>e= .returned (.bool true)∧Below w.heap.size w w':=by
 have hm:=h1.2.1
 unfold maxLen at hm
 go_enter Tryz.func41,Tryz.ntmps41
 go_wp2
 go_loopw [5] (fun i wr=>∃k:Nat,k≤len∧i= .int .i64 k∧Below w.heap.size w wr) (fun i _=>len - (intOf i).toNat)
 case atStart=>exact⟨0,Nat.zero_le _,rfl,Below.refl _ _⟩
 case round=>
  obtain⟨k,hk,rfl,hbw⟩:=hrel
  by_cases hlt:k<len
  ·obtain⟨hl1,_,hx1⟩:=h1
   obtain⟨hl2,_,hx2⟩:=h2
   obtain⟨g1,o1,rfl,hr1⟩:=hx1.resolve_left (by omega)
   obtain⟨g2,o2,rfl,hr2⟩:=hx2.resolve_left (by omega)
   obtain⟨x,hxk⟩:∃x,xs[k]? =some x:=⟨_,List.getElem?_eq_getElem (by omega)⟩
   have hg1:g1<w.heap.size:=hr1.lt (by omega)
   have hg2:g2<w.heap.size:=hr2.lt (by omega)
   have hs1:g1<wr.heap.size:=Nat.lt_of_lt_of_le hg1 hbw.size
   have hs2:g2<wr.heap.size:=Nat.lt_of_lt_of_le hg2 hbw.size
   have hS:((wr.cell? ⟨g1,o1+k*2,none⟩=some (.int .i64 x.at_)∧wr.cell? ⟨g1,o1+k*2+1,none⟩=some (.int .i64 x.wl)∧wr.cell? ⟨g2,o2+k*2,none⟩=some (.int .i64 x.at_)∧wr.cell? ⟨g2,o2+k*2+1,none⟩=some (.int .i64 x.wl))∧g1<wr.heap.size∧g2<wr.heap.size):=by
    obtain⟨c0,c1⟩:=(hr1 k _ hxk).below hbw hg1
    obtain⟨d0,d1⟩:=(hr2 k _ hxk).below hbw hg2
    exact⟨⟨c0,c1,d0,d1⟩,hs1,hs2⟩
   clear hx1 hx2 hxk hr1 hr2
   go_wp2
   go_region_held3 (fun W=>((W.cell? ⟨g1,o1+k*2,none⟩=some (.int .i64 x.at_)∧W.cell? ⟨g1,o1+k*2+1,none⟩=some (.int .i64 x.wl)∧W.cell? ⟨g2,o2+k*2,none⟩=some (.int .i64 x.at_)∧W.cell? ⟨g2,o2+k*2+1,none⟩=some (.int .i64 x.wl))∧g1<W.heap.size∧g2<W.heap.size)) ((first|((repeat(first|(with_reducible assumption)|(with_reducible refine hd_2_2 ?_ (jF))|(with_reducible refine hd_2_2 ?_ (aj (Below.refl _ _)))|(with_reducible refine hd_2_2 ?_ (ai _ _))));done)|(refine⟨⟨?_,?_,?_,?_⟩,?_,?_⟩<;>first|(go_keep;done)|(simp;done)|(simp;omega)|omega)))
    (first
    |(go_at_call 81;refine(eqSr_one _ _).mono ?_;rintro e w' ⟨rfl,hb⟩;obtain⟨hc,hf,hs⟩:=ac hb))
   go_wp2
   go_roundw
   case rel=>exact⟨k+1,by omega,by go_num,(ar)⟩
   case measure=>simp[intOf];omega
  ·go_wp2
   go_ret
   exact⟨rfl,hbw⟩
end Go.Proofs.YtealpjmannopeaaGreat
namespace Go.Proofs.YtealpjmannopeaaGreat
open Go.ChangeShapes Go.WideShapes Go.ChangeAt Go.RowKit Go.Deep
/-- Each number is an int. -/
def dY.ok64(x:dY):Prop:=(-9223372036854775808≤x.at_∧x.at_≤9223372036854775807)∧(-9223372036854775808≤x.wl∧x.wl≤9223372036854775807)
section
variable {H : Type} {enc : TypeId × Value → H} {P : Program} {w : World} {base : Nat} {spare : Nat → Bool} {held : Bool}
theorem cellsSr{a:Addr}{cs:List Value}(h:w.cells? base a 2=some cs)(f0:ef cs [false,false]):a.spot=none∧∃x:dY,dB w a.block a.off x∧x.ok64:=by
 obtain⟨z0,r0,rfl,y0,f1⟩:=aE f0
 clear f0
 obtain⟨z1,r1,rfl,y1,f2⟩:=aE f1
 clear f1
 obtain rfl:=fe f2
 obtain⟨_,hlen,hc⟩:=World.cells?_some h
 have c0:=hc 0 (by omega)
 have c1:=hc 1 (by omega)
 obtain⟨g,o,sp⟩:=a
 have ha0:(⟨g,o,sp⟩:Addr).add 0=⟨g,o,sp⟩:=by simp[Addr.add]
 have hsp:sp=none:=World.cell?_spot (w:=w) (a:=⟨g,o,sp⟩) (v:= .int .i64 z0) (by rw[←ha0];simpa using c0)
 subst hsp
 exact⟨rfl,⟨z0,z1⟩,⟨by simpa[Addr.add]using c0,by simpa[Addr.add]using c1⟩,aW y0,aW y1⟩
theorem openSr{t e:TypeId}{a:Option Addr}{len cap:Nat}{d:DataW H}{p:List MemPlace}(ht:P.underlying t=some (.slice e))(hk:bf P 5 e=some [false,false])(hC:P.cellsOf e=2)
  (h:DataW.Trod enc P w base spare held t (.slice a len cap) d p):∃xs:List dY,fV w a len xs∧∀x ∈ xs,x.ok64:=by
 obtain⟨fuel,hf⟩:=h
 rcases open_slice ht hf with⟨hcs,_⟩|⟨a',len',cap',m,n,D,Pl,hcs,_,hl,hm,hmm,_,hx⟩
 ·simp[Value.cells]at hcs
  obtain⟨rfl,rfl,rfl⟩:=hcs
  exact⟨[],⟨rfl,Nat.zero_le _,Or.inl rfl⟩,by simp⟩
 ·simp[Value.cells]at hcs
  obtain⟨rfl,rfl,rfl⟩:=hcs
  have hlm:len≤m:=by rw[hmm];split<;>omega
  have hall:∀i,i<len→∃x:dY,(i=0→a'.spot=none)∧dB w a'.block (a'.off+i*2) x∧x.ok64:=by
   intro i hi
   obtain⟨cs',h1,h2⟩:=hx i (by omega)
   rw[hC]at h1
   obtain⟨hsp,x,hxa,hxo⟩:=cellsSr h1 (dt 5 hk h2)
   have hb:(a'.add (i*2)).block=a'.block∧(a'.add (i*2)).off=a'.off+i*2:=by
    unfold Addr.add
    split
    ·exact⟨rfl,by omega⟩
    ·exact⟨rfl,rfl⟩
   rw[hb.1,hb.2]at hxa
   refine⟨x,fun h0=>?_,hxa,hxo⟩
   subst h0
   simpa[Addr.add]using hsp
  by_cases h0:len=0
  ·subst h0
   exact⟨[],⟨rfl,Nat.zero_le _,Or.inl rfl⟩,by simp⟩
  have hinh:Inhabited dY:=⟨⟨0,0⟩⟩
  obtain⟨f,hf'⟩:=choose_lt hall
  have hsp:=(hf' 0 (by omega)).1 rfl
  refine⟨(List.range len).map f,⟨by simp,by omega,Or.inr ⟨a'.block,a'.off,by cases a';simp_all,?_⟩⟩,?_⟩
  ·intro i x hix
   simp only[List.getElem?_map,Option.map_eq_some_iff]at hix
   obtain⟨j,hj,rfl⟩:=hix
   have hil:i<len:=by
    rcases Nat.lt_or_ge i len with h'|h'
    ·exact h'
    ·rw[List.getElem?_eq_none (by simpa using h')]at hj;cases hj
   rw[List.getElem?_eq_getElem (by simpa using hil)]at hj
   simp at hj
   subst hj
   exact(hf' i hil).2.1
  ·intro x hxm
   simp only[List.mem_map,List.mem_range]at hxm
   obtain⟨i,hi,rfl⟩:=hxm
   exact(hf' i hi).2.2
end
theorem Tryz.infoSr:(Tryz.prog.info? 131).map (fun i=>(i.zero,i.size,i.bytes))=some (some (.agg #[.int .i64 0,.int .i64 0]),2,16):=by kernel_rfl
theorem mkSr(len:Nat)(hl:len≤1048576):∃C:Array Value,C.size=len*2∧∀w:World,(Instr.makeSlice 42 (.int .i64 (len:Int)) (.int .i64 (len:Int))).run Tryz.prog w= .ok (.slice (some ⟨w.heap.size,0,none⟩) len len) (w.alloc (.cells C 131)):=by
 obtain⟨i0,hi,hz0,hz1,hz2⟩:=info_parts Tryz.infoSr
 refine⟨madeCells (Value.agg #[.int .i64 0,.int .i64 0]).cells (len*i0.size),by rw[size_madeCells,hz1],fun w=>?_⟩
 have h:=run_make (P:=Tryz.prog) w 42 131 i0 _ Tryz.underlying42 hi hz0 .i64 .i64 len len (by omega) (Int.le_refl _) (by rw[hz2];omega) (by omega)
 simpa using h
/-- The slice that is being filled. -/
def eC(W:World)(g ty len:Nat)(ys:List dY):Prop:=cB W g ty len∧∀i x,ys[i]? =some x→dB W g (i*2) x
theorem eC.step{wr w':World}{g ty len k:Nat}{xs:List dY}{x:dY}(h:eC wr g ty len (xs.take k))(hb:Below wr.heap.size wr w')(hk:k<len)(hx:xs[k]? =some x):eC (hH w' g (k*2) x) g ty len (xs.take (k+1)):=by
 have hB:=h.1.below hb h.1.lt
 refine⟨hB.sets x,fun i y hy=>?_⟩
 have hik:i<k+1:=by
  rcases Nat.lt_or_ge i (k+1)with h'|h'
  ·exact h'
  ·rw[List.getElem?_eq_none (jJ)]at hy;cases hy
 rw[List.getElem?_take_of_lt hik]at hy
 by_cases he:i=k
 ·subst he
  rw[hx]at hy
  cases hy
  exact setSr_this hB hk x
 ·refine setSr_ne ?_ he
  exact(h.2 i y (by rw[List.getElem?_take_of_lt (by omega)];exact hy)).below hb h.1.lt
theorem eC.start{w:World}{ty len:Nat}{C:Array Value}(hC:C.size=len*2)(xs:List dY):eC (w.alloc (.cells C ty)) w.heap.size ty len (xs.take 0):=
 ⟨⟨C,by show(w.heap.push _)[w.heap.size]? =_;simp,hC⟩,fun i x h=>by simp at h⟩
theorem eC.done{W:World}{g ty len k:Nat}{xs:List dY}(h:eC W g ty len (xs.take k))(hk:xs.length≤k):eB W g 0 xs:=by
 intro i x hx
 rw[List.take_of_length_le hk]at h
 simpa using h.2 i x hx
theorem below_setSr{B g o:Nat}{W W':World}{x:dY}(h:Below B W W')(hg:B≤g):Below B W (hH W' g o x):=((h.setCell hg _).setCell hg _)
set_option maxRecDepth 20000 in
set_option maxHeartbeats 1000000 in
theorem toSr_one(at_ wl:Int)(w:World):Calls Tryz.prog 67 #[.agg #[.int .i64 at_,.int .i64 wl]] w fun e w'=>e= .returned (.agg #[.int .i64 at_,.int .i64 wl])∧Below w.heap.size w w':=by
 go_enter Tryz.func67,Tryz.ntmps67
 go_wp2
 refine bodyPost_ret (v:= .agg #[.int .i64 at_,.int .i64 wl]) (by simp(maxDischargeDepth:=9) [results,Tryz.results67,go_sem, *]) rfl ⟨rfl,?_⟩
 exact(ar)
set_option maxRecDepth 20000 in
set_option maxHeartbeats 1000000 in
theorem toSr_at(a:Option Addr)(len cap:Nat)(xs:List dY)(w:World)(h:fV w a len xs)(hl:len≤1048576):Calls Tryz.prog 33 #[.slice a len cap] w fun e w'=>e= .returned (.slice (some ⟨w.heap.size,0,none⟩) len len)∧eB w' w.heap.size 0 xs∧cB w' w.heap.size 131 len∧Below w.heap.size w w':=by
 obtain⟨C,hC,hmk⟩:=mkSr len hl
 go_enter Tryz.func33,Tryz.ntmps33
 go_wp2
 go_loopw [4] (fun i wr=>∃k:Nat,k≤len∧i= .int .i64 k∧eC wr w.heap.size 131 len (xs.take k)∧Below w.heap.size w wr) (fun i _=>len - (intOf i).toNat)
 case atStart=>exact⟨0,Nat.zero_le _,rfl,eC.start hC xs,ai _ _⟩
 case round=>
  obtain⟨k,hk,rfl,hF,hbw⟩:=hrel
  by_cases hlt:k<len
  ·obtain⟨hxl,hml,hx⟩:=h
   obtain⟨g,o,rfl,hr⟩:=hx.resolve_left (by omega)
   obtain⟨x,hxk⟩:∃x,xs[k]? =some x:=⟨_,List.getElem?_eq_getElem (by omega)⟩
   have hg:g<w.heap.size:=hr.lt (by omega)
   have hX:=ab hxk
   obtain⟨c0,c1⟩:=(hr k _ hxk).below hbw hg
   obtain⟨⟨u0,d0⟩,⟨u1,d1⟩⟩:=hF.1.cells hlt
   have f0:=hF.1.frozen (i:=k*2)
   have f1:=hF.1.frozen (i:=k*2+1)
   have hz:=hF.1.lt
   clear hx hxk
   go_wp2_with (go_at_call 67;refine(toSr_one _ _ _).mono ?_;rintro e w' ⟨rfl,hb⟩;obtain⟨hc,hf,hs⟩:=ac hb)
   go_roundw
   case rel=>exact⟨k+1,by omega,by go_num,hF.step hb hlt (aa hX),below_setSr (ae hbw hb) (Nat.le_refl _)⟩
   case measure=>simp[intOf];omega
  ·go_wp2
   go_ret
   exact⟨rfl,hF.done (by have:=h.1;omega),hF.1,hbw⟩
theorem SrRs_of{W:World}{g len:Nat}{xs:List dY}(h1:xs.length=len)(h2:len≤maxLen)(h:eB W g 0 xs):fV W (some ⟨g,0,none⟩) len xs:=⟨h1,h2,Or.inr ⟨g,0,rfl,h⟩⟩
theorem toSr_any(a:Option Addr)(len cap:Nat)(xs:List dY)(w:World)(h:fV w a len xs)(hl:len≤1048576):Calls Tryz.prog 33 #[.slice a len cap] w fun e w'=>∃a',e= .returned (.slice a' len len)∧fV w' a' len xs∧WrSr w' a' len len∧(∀g o,0<len→a'=some ⟨g,o,none⟩→w.heap.size≤g)∧Below w.heap.size w w':=
 (toSr_at a len cap xs w h hl).mono fun e w' ⟨h1,h2,h3,h4⟩=>⟨_,h1,SrRs_of h.1 h.2.1 h2,Or.inr ⟨_,rfl,h3,Nat.le_refl _⟩,fun g o _ e'=>by simp at e';omega,h4⟩
/-- Such rows, in a block that is not below B. -/
def fk(W:World)(B:Nat)(a:Option Addr)(n:Nat)(xs:List dY):Prop:=fV W a n xs∧∀g o,0<n→a=some ⟨g,o,none⟩→BG W B g
theorem fk.below{W W':World}{B:Nat}{a:Option Addr}{n:Nat}{xs:List dY}(h:fk W B a n xs)(hb:Below W.heap.size W W'):fk W' B a n xs:=⟨h.1.below hb,fun g o hn ha=>(h.2 g o hn ha).below hb⟩
theorem fk.less{W:World}{B B':Nat}{a:Option Addr}{n:Nat}{xs:List dY}(h:fk W B a n xs)(hB:B'≤B):fk W B' a n xs:=⟨h.1,fun g o hn ha=>(h.2 g o hn ha).less hB⟩
theorem fk.len{W:World}{B:Nat}{a:Option Addr}{n:Nat}{xs:List dY}(h:fk W B a n xs):xs.length=n∧n≤maxLen:=⟨h.1.1,h.1.2.1⟩
theorem fk.set{W:World}{B:Nat}{p:Addr}{v:Value}{a:Option Addr}{n:Nat}{xs:List dY}(h:fk W B a n xs)(hp:p.block<B):fk (W.setCell p v) B a n xs:=⟨h.1.grown (co p v) (fun g o hn ha=>by have:=(h.2 g o hn ha).1;simp;omega),fun g o hn ha=>(h.2 g o hn ha).set hp⟩
theorem toSr_b(B:Nat)(a:Option Addr)(n c:Nat)(xs:List dY)(w:World)(h:fk w B a n xs)(hl:n≤1048576):Calls Tryz.prog 33 #[.slice a n c] w fun e w'=>∃a',e= .returned (.slice a' n n)∧fk w' w.heap.size a' n xs∧Below w.heap.size w w':=
 (toSr_any a n c xs w h.1 hl).mono fun e w' ⟨a',he,H,R,ge,hb⟩=>⟨a',he,⟨H,fun g o hn ha=>by
   have hg:=ge g o hn ha
   rcases R with h0|⟨g2,e2,⟨c2,h2,_⟩,_⟩
   ·omega
   ·rw[e2]at ha
    cases ha
    exact BG.of hg h2⟩,hb⟩
theorem eqSr_b(B1 B2:Nat)(a1 a2:Option Addr)(n c1 c2:Nat)(xs:List dY)(w:World)(h1:fk w B1 a1 n xs)(h2:fk w B2 a2 n xs):Calls Tryz.prog 41 #[.slice a1 n c1,.slice a2 n c2] w fun e w'=>e= .returned (.bool true)∧Below w.heap.size w w':=eqSr_any a1 a2 n c1 c2 xs w h1.1 h2.1
theorem szSr_p(a:Option Addr)(len cap:Nat)(L:Int)(w:World)(h:len≤maxLen)(h0:0≤L)(hL:L≤1048576):Calls Tryz.prog 26 #[.slice a len cap,.int .i64 L] w fun e w'=>gG (L - (len:Int)) (len≤1048576) e∧w'=w:=by
 unfold maxLen at h
 by_cases h1:(len:Int)≤L
 ·go_enter Tryz.func26,Tryz.ntmps26
  go_wp2
  go_ret
  exact⟨⟨_,rfl,Or.inr ⟨by omega,by omega,by omega⟩⟩,rfl⟩
 ·go_enter Tryz.func26,Tryz.ntmps26
  go_wp2
  go_ret
  exact⟨⟨_,rfl,Or.inl rfl⟩,rfl⟩
def fC(W:World)(B:Nat)(a:Option Addr)(n:Nat)(xs:List bH):Prop:=dc W B a n xs
theorem fC.below{W W':World}{B:Nat}{a:Option Addr}{n:Nat}{xs:List bH}(h:fC W B a n xs)(hb:Below W.heap.size W W'):fC W' B a n xs:=dc.below h hb
theorem fC.less{W:World}{B B':Nat}{a:Option Addr}{n:Nat}{xs:List bH}(h:fC W B a n xs)(hB:B'≤B):fC W B' a n xs:=dc.less h hB
theorem fC.len{W:World}{B:Nat}{a:Option Addr}{n:Nat}{xs:List bH}(h:fC W B a n xs):xs.length=n∧n≤maxLen:=⟨h.1,h.2.1⟩
theorem fC.set{W:World}{B:Nat}{p:Addr}{v:Value}{a:Option Addr}{n:Nat}{xs:List bH}(h:fC W B a n xs)(hp:p.block<B):fC (W.setCell p v) B a n xs:=dc.set h hp
def bH.sm(x:bH):Prop:=x.q.length≤1048576
theorem szTi_p(a:Option Addr)(len cap:Nat)(xs:List bH)(L:Int)(w:World)(h:fC w 0 a len xs)(h0:0≤L)(hL:L≤1048576):Calls Tryz.prog 97 #[.slice a len cap,.int .i64 L] w fun e w'=>gG (L - ((eV xs:Nat):Int)) (len≤1048576∧∀x ∈ xs,x.sm) e∧Below w.heap.size w w':=szTi_any a len cap xs L w h h0 hL
theorem toTi_b(B:Nat)(a:Option Addr)(n c:Nat)(xs:List bH)(w:World)(h:fC w B a n xs)(hl:n≤1048576∧∀y ∈ xs,y.sm):Calls Tryz.prog 116 #[.slice a n c] w fun e w'=>∃a',e= .returned (.slice a' n n)∧fC w' w.heap.size a' n xs∧Below w.heap.size w w':=toTi_any a n c xs w (dc.less h (Nat.zero_le _)) hl.1 hl.2
theorem eqTi_b(B1 B2:Nat)(a1 a2:Option Addr)(n c1 c2:Nat)(xs:List bH)(w:World)(h1:fC w B1 a1 n xs)(h2:fC w B2 a2 n xs):Calls Tryz.prog 134 #[.slice a1 n c1,.slice a2 n c2] w fun e w'=>e= .returned (.bool true)∧Below w.heap.size w w':=eqTi_any B1 B2 a1 a2 n c1 c2 xs w h1 h2
section
variable {H : Type} {enc : TypeId × Value → H} {P : Program} {w : World} {base : Nat} {spare : Nat → Bool} {held : Bool}
theorem openTiB{t e tq eq:TypeId}{a:Option Addr}{len cap:Nat}{d:DataW H}{p:List MemPlace}(ht:P.underlying t=some (.slice e))(hk:dw P 5 e=some [.s tq,.i,.b])(hC:P.cellsOf e=3)(htq:P.underlying tq=some (.slice eq))(hk2:bf P 5 eq=some [false,false,false,false,false])(hC2:P.cellsOf eq=5)
  (h:DataW.Trod enc P w base spare held t (.slice a len cap) d p):∃xs:List bH,fC w 0 a len xs∧∀x ∈ xs,x.ok64:=openTi ht hk hC htq hk2 hC2 h
end
/-- What a task has told for a checkpoint. -/
structure cf where
 n:Int
 ps:List cx
 ls:List cq
def eW(W:World)(B g o:Nat)(x:cf):Prop:=∃(a1:Option Addr) (l1 c1:Nat) (a2:Option Addr) (l2 c2:Nat),(W.cell? ⟨g,o,none⟩=some (.int .i64 x.n)∧W.cell? ⟨g,o+1,none⟩=some (.slice a1 l1 c1)∧W.cell? ⟨g,o+2,none⟩=some (.slice a2 l2 c2))∧cQ W B a1 l1 x.ps∧cS W B a2 l2 x.ls
def eX(W:World)(B:Nat)(a:Option Addr)(len:Nat)(xs:List cf):Prop:=xs.length=len∧len≤maxLen∧(len=0∨∃g o,a=some ⟨g,o,none⟩∧BG W B g∧∀(i:Nat) (x:cf),xs[i]? =some x→eW W B g (o+i*3) x)
theorem eW.lt{W:World}{B g o:Nat}{x:cf}(h:eW W B g o x):g<W.heap.size:=by
 obtain⟨a1,l1,c1,a2,l2,c2,⟨h0,h1,h2⟩,k1,k2⟩:=h
 exact aA h0
theorem eW.below{W W':World}{B g o:Nat}{x:cf}(h:eW W B g o x)(hb:Below W.heap.size W W'):eW W' B g o x:=by
 have hg:=h.lt
 obtain⟨a1,l1,c1,a2,l2,c2,⟨h0,h1,h2⟩,k1,k2⟩:=h
 exact⟨a1,l1,c1,a2,l2,c2,⟨(hb.cell (p:=⟨g,_,none⟩) hg).trans h0,(hb.cell (p:=⟨g,_,none⟩) hg).trans h1,(hb.cell (p:=⟨g,_,none⟩) hg).trans h2⟩,k1.below hb,k2.below hb⟩
theorem eW.less{W:World}{B B' g o:Nat}{x:cf}(h:eW W B g o x)(hB:B'≤B):eW W B' g o x:=by
 obtain⟨a1,l1,c1,a2,l2,c2,⟨h0,h1,h2⟩,k1,k2⟩:=h
 exact⟨a1,l1,c1,a2,l2,c2,⟨h0,h1,h2⟩,k1.less hB,k2.less hB⟩
theorem eW.set{W:World}{B g o:Nat}{p:Addr}{v:Value}{x:cf}(h:eW W B g o x)(hg:p.block≠g)(hp:p.block<B):eW (W.setCell p v) B g o x:=by
 obtain⟨a1,l1,c1,a2,l2,c2,⟨h0,h1,h2⟩,k1,k2⟩:=h
 exact⟨a1,l1,c1,a2,l2,c2,⟨(aH hg).trans h0,(aH hg).trans h1,(aH hg).trans h2⟩,k1.set hp,k2.set hp⟩
theorem eX.below{W W':World}{B:Nat}{a:Option Addr}{len:Nat}{xs:List cf}(h:eX W B a len xs)(hb:Below W.heap.size W W'):eX W' B a len xs:=by
 obtain⟨h1,h2,h3⟩:=h
 refine⟨h1,h2,?_⟩
 rcases h3 with h3|⟨g,o,ha,hB9,hr⟩
 ·exact Or.inl h3
 ·exact Or.inr ⟨g,o,ha,hB9.below hb,fun i x hx=>(hr i x hx).below hb⟩
theorem eX.less{W:World}{B B':Nat}{a:Option Addr}{len:Nat}{xs:List cf}(h:eX W B a len xs)(hB:B'≤B):eX W B' a len xs:=by
 obtain⟨h1,h2,h3⟩:=h
 refine⟨h1,h2,?_⟩
 rcases h3 with h3|⟨g,o,ha,hB9,hr⟩
 ·exact Or.inl h3
 ·exact Or.inr ⟨g,o,ha,hB9.less hB,fun i x hx=>(hr i x hx).less hB⟩
theorem eX.set{W:World}{B:Nat}{p:Addr}{v:Value}{a:Option Addr}{len:Nat}{xs:List cf}(h:eX W B a len xs)(hp:p.block<B):eX (W.setCell p v) B a len xs:=by
 obtain⟨h1,h2,h3⟩:=h
 refine⟨h1,h2,?_⟩
 rcases h3 with h3|⟨g,o,ha,hB9,hr⟩
 ·exact Or.inl h3
 ·exact Or.inr ⟨g,o,ha,hB9.set hp,fun i x hx=>(hr i x hx).set (by have:=hB9.1;omega) hp⟩
theorem eX.len{W:World}{B:Nat}{a:Option Addr}{len:Nat}{xs:List cf}(h:eX W B a len xs):xs.length=len∧len≤maxLen:=⟨h.1,h.2.1⟩
/-- A block of such, known whole; one that is being filled. -/
def iL(W:World)(g o:Nat)(v0 v1 v2:Value):World:=(((W.setCell ⟨g,o,none⟩ v0).setCell ⟨g,o+1,none⟩ v1).setCell ⟨g,o+2,none⟩ v2)
def dC(W:World)(g ty len:Nat):Prop:=∃cur,W.heap[g]? =some (.cells cur ty (0,0))∧cur.size=len*3
theorem dC.set{W:World}{g ty len i:Nat}(h:dC W g ty len)(v:Value):dC (W.setCell ⟨g,i,none⟩ v) g ty len:=by
 obtain⟨cur,h1,h2⟩:=h
 exact⟨_,Joins.block_setCell h1 v,by simp[h2]⟩
theorem dC.below{W W':World}{g ty len B:Nat}(h:dC W g ty len)(hb:Below B W W')(hg:g<B):dC W' g ty len:=by
 obtain⟨cur,h1,h2⟩:=h
 exact⟨cur,(hb.block g hg).trans h1,h2⟩
theorem dC.lt{W:World}{g ty len:Nat}(h:dC W g ty len):g<W.heap.size:=by
 obtain⟨cur,h1,h2⟩:=h
 exact(Array.getElem?_eq_some_iff.1 h1).1
theorem dC.cell{W:World}{g ty len i:Nat}(h:dC W g ty len)(hi:i<len*3):∃u,W.cell? ⟨g,i,none⟩=some u:=by
 obtain⟨cur,h1,h2⟩:=h
 exact⟨_,(cA h1 i).trans (Array.getElem?_eq_getElem (by omega))⟩
theorem dC.frozen{W:World}{g ty len i:Nat}(h:dC W g ty len):W.frozen? ⟨g,i,none⟩=false:=by
 obtain⟨cur,h1,h2⟩:=h
 exact Joins.unfrozen_of_block h1 i
theorem jd{W:World}{g ty len i:Nat}{v:Value}(h:dC W g ty len)(hi:i<len*3):(W.setCell ⟨g,i,none⟩ v).cell? ⟨g,i,none⟩=some v:=by
 obtain⟨u,hu⟩:=h.cell hi
 exact World.cell?_setCell_same _ _ _ hu
theorem setTx_this{W:World}{g ty len k:Nat}{x:cf}{a1:Option Addr}{l1 c1:Nat}{a2:Option Addr}{l2 c2:Nat}(h:dC W g ty len)(hk:k<len)(k1:cQ W (g+1) a1 l1 x.ps)(k2:cS W (g+1) a2 l2 x.ls):eW (iL W g (k*3) (.int .i64 x.n) (.slice a1 l1 c1) (.slice a2 l2 c2)) (g+1) g (k*3) x:=by
 unfold iL
 refine⟨a1,l1,c1,a2,l2,c2,⟨?_,?_,?_⟩,(((k1.set (by simp)).set (by simp)).set (by simp)),(((k2.set (by simp)).set (by simp)).set (by simp))⟩
 ·rw[am (by omega),am (by omega),jd h (by omega)]
 ·rw[am (by omega),jd (h.set _) (by omega)]
 ·rw[jd ((h.set _).set _) (by omega)]
theorem setTx_ne{W:World}{g i k:Nat}{x:cf}{v0 v1 v2:Value}(h:eW W (g+1) g (i*3) x)(hk:i≠k):eW (iL W g (k*3) v0 v1 v2) (g+1) g (i*3) x:=by
 unfold iL
 obtain⟨a1,l1,c1,a2,l2,c2,⟨h0,h1,h2⟩,k1,k2⟩:=h
 refine⟨a1,l1,c1,a2,l2,c2,⟨?_,?_,?_⟩,(((k1.set (by simp)).set (by simp)).set (by simp)),(((k2.set (by simp)).set (by simp)).set (by simp))⟩
 ·rw[am (by omega),am (by omega),am (by omega)];exact h0
 ·rw[am (by omega),am (by omega),am (by omega)];exact h1
 ·rw[am (by omega),am (by omega),am (by omega)];exact h2
def eD(W:World)(g ty len:Nat)(ys:List cf):Prop:=dC W g ty len∧∀(i:Nat) (x:cf),ys[i]? =some x→eW W (g+1) g (i*3) x
theorem eD.step{wr w':World}{g ty len k:Nat}{xs:List cf}{x:cf}{a1:Option Addr}{l1 c1:Nat}{a2:Option Addr}{l2 c2:Nat}(h:eD wr g ty len (xs.take k))(hb:Below wr.heap.size wr w')(hk:k<len)(hx:xs[k]? =some x)(k1:cQ w' (g+1) a1 l1 x.ps)(k2:cS w' (g+1) a2 l2 x.ls):eD (iL w' g (k*3) (.int .i64 x.n) (.slice a1 l1 c1) (.slice a2 l2 c2)) g ty len (xs.take (k+1)):=by
 have hB:=h.1.below hb h.1.lt
 refine⟨(((hB.set _).set _).set _),fun i y hy=>?_⟩
 have hik:i<k+1:=by
  rcases Nat.lt_or_ge i (k+1)with h'|h'
  ·exact h'
  ·rw[List.getElem?_eq_none (jJ)]at hy;cases hy
 rw[List.getElem?_take_of_lt hik]at hy
 by_cases he:i=k
 ·subst he
  rw[hx]at hy
  cases hy
  exact setTx_this hB hk k1 k2
 ·refine setTx_ne ?_ he
  exact(h.2 i y (by rw[List.getElem?_take_of_lt (by omega)];exact hy)).below hb
theorem eD.start{w:World}{ty len:Nat}{C:Array Value}(hC:C.size=len*3)(xs:List cf):eD (w.alloc (.cells C ty)) w.heap.size ty len (xs.take 0):=
 ⟨⟨C,by show(w.heap.push _)[w.heap.size]? =_;simp,hC⟩,fun i x h=>by simp at h⟩
theorem eD.done{W:World}{g ty len k:Nat}{xs:List cf}(h:eD W g ty len (xs.take k))(hk:xs.length≤k)(hl:xs.length=len)(hm:len≤maxLen):eX W g (some ⟨g,0,none⟩) len xs:=by
 refine⟨hl,hm,Or.inr ⟨g,0,rfl,(by obtain⟨c9,e9,_⟩:=h.1;exact BG.of (Nat.le_refl _) e9),fun i x hx=>?_⟩⟩
 rw[List.take_of_length_le hk]at h
 have:=(h.2 i x hx).less (B':=g) (by omega)
 simpa using this
theorem below_setTx{B g o:Nat}{W W':World}{v0 v1 v2:Value}(h:Below B W W')(hg:B≤g):Below B W (iL W' g o v0 v1 v2):=(((h.setCell hg _).setCell hg _).setCell hg _)
section
variable {H : Type} {enc : TypeId × Value → H} {P : Program} {w : World} {base : Nat} {spare : Nat → Bool} {held : Bool}
def cf.ok64(x:cf):Prop:=(-9223372036854775808≤x.n∧x.n≤9223372036854775807)∧(∀y ∈ x.ps,y.ok64)∧(∀y ∈ x.ls,y.ok64)
theorem cellsTx{a:Addr}{cs:List Value}{t1 e1:TypeId}{t2 e2:TypeId}(u1a:P.underlying t1=some (.slice e1))(u1b:bf P 5 e1=some [false,false,false,false,false,false,false,false,false])(u1c:P.cellsOf e1=9)(u2a:P.underlying t2=some (.slice e2))(u2b:bf P 5 e2=some [false,false,false,false,false,false,false])(u2c:P.cellsOf e2=7)(h:w.cells? base a 3=some cs)(f0:cj enc P w base spare held cs [.i,.s t1,.s t2]):a.spot=none∧∃x:cf,eW w 0 a.block a.off x∧x.ok64:=by
 obtain⟨z0,r0,rfl,y0,f1⟩:=fitT_i f0
 obtain⟨a1,l1,c1,d1,p1,r1,rfl,y1,f2⟩:=fitT_s f1
 obtain⟨a2,l2,c2,d2,p2,r2,rfl,y2,f3⟩:=fitT_s f2
 obtain rfl:=fitT_nil f3
 clear f0 f1 f2 f3
 obtain⟨x1,q1,o1⟩:=openPn u1a u1b u1c y1
 obtain⟨x2,q2,o2⟩:=openLp u2a u2b u2c y2
 obtain⟨_,hlen,hc⟩:=World.cells?_some h
 have b0:=hc 0 (by omega)
 have b1:=hc 1 (by omega)
 have b2:=hc 2 (by omega)
 obtain⟨g,o,sp⟩:=a
 have ha0:(⟨g,o,sp⟩:Addr).add 0=⟨g,o,sp⟩:=by simp[Addr.add]
 have hsp:sp=none:=World.cell?_spot (w:=w) (a:=⟨g,o,sp⟩) (v:= .int .i64 z0) (by rw[←ha0];simpa using b0)
 subst hsp
 exact⟨rfl,⟨z0,x1,x2⟩,⟨a1,l1,c1,a2,l2,c2,⟨by simpa[Addr.add]using b0,by simpa[Addr.add]using b1,by simpa[Addr.add]using b2⟩,⟨q1,fun g9 _ _ _=>BG.zero _ g9⟩,⟨q2,fun g9 _ _ _=>BG.zero _ g9⟩⟩,aW y0,o1,o2⟩
theorem openTx{t e:TypeId}{t1 e1:TypeId}{t2 e2:TypeId}{a:Option Addr}{len cap:Nat}{d:DataW H}{p:List MemPlace}(ht:P.underlying t=some (.slice e))(hk:dw P 5 e=some [.i,.s t1,.s t2])(hC:P.cellsOf e=3)(u1a:P.underlying t1=some (.slice e1))(u1b:bf P 5 e1=some [false,false,false,false,false,false,false,false,false])(u1c:P.cellsOf e1=9)(u2a:P.underlying t2=some (.slice e2))(u2b:bf P 5 e2=some [false,false,false,false,false,false,false])(u2c:P.cellsOf e2=7)
  (h:DataW.Trod enc P w base spare held t (.slice a len cap) d p):∃xs:List cf,eX w 0 a len xs∧∀x ∈ xs,x.ok64:=by
 obtain⟨fuel,hf⟩:=h
 rcases open_slice ht hf with⟨hcs,_⟩|⟨a',len',cap',m,n,D,Pl,hcs,_,hl,hm,hmm,_,hx⟩
 ·simp[Value.cells]at hcs
  obtain⟨rfl,rfl,rfl⟩:=hcs
  exact⟨[],⟨rfl,Nat.zero_le _,Or.inl rfl⟩,by simp⟩
 ·simp[Value.cells]at hcs
  obtain⟨rfl,rfl,rfl⟩:=hcs
  have hlm:len≤m:=by rw[hmm];split<;>omega
  have hall:∀i,i<len→∃x:cf,(i=0→a'.spot=none)∧eW w 0 a'.block (a'.off+i*3) x∧x.ok64:=by
   intro i hi
   obtain⟨cs',h1,h2⟩:=hx i (by omega)
   rw[hC]at h1
   obtain⟨hsp,x,hxa,hxo⟩:=cellsTx u1a u1b u1c u2a u2b u2c h1 (cH 5 hk h2)
   have hb:(a'.add (i*3)).block=a'.block∧(a'.add (i*3)).off=a'.off+i*3:=by
    unfold Addr.add
    split
    ·exact⟨rfl,by omega⟩
    ·exact⟨rfl,rfl⟩
   rw[hb.1,hb.2]at hxa
   refine⟨x,fun h0=>?_,hxa,hxo⟩
   subst h0
   simpa[Addr.add]using hsp
  by_cases h0:len=0
  ·subst h0
   exact⟨[],⟨rfl,Nat.zero_le _,Or.inl rfl⟩,by simp⟩
  have hinh:Inhabited cf:=⟨⟨0,[],[]⟩⟩
  obtain⟨f,hf'⟩:=choose_lt hall
  have hsp:=(hf' 0 (by omega)).1 rfl
  refine⟨(List.range len).map f,⟨by simp,by omega,Or.inr ⟨a'.block,a'.off,by cases a';simp_all,BG.zero _ _,?_⟩⟩,?_⟩
  ·intro i x hix
   simp only[List.getElem?_map,Option.map_eq_some_iff]at hix
   obtain⟨j,hj,rfl⟩:=hix
   have hil:i<len:=by
    rcases Nat.lt_or_ge i len with h'|h'
    ·exact h'
    ·rw[List.getElem?_eq_none (by simpa using h')]at hj;cases hj
   rw[List.getElem?_eq_getElem (by simpa using hil)]at hj
   simp at hj
   subst hj
   exact(hf' i hil).2.1
  ·intro x hxm
   simp only[List.mem_map,List.mem_range]at hxm
   obtain⟨i,hi,rfl⟩:=hxm
   exact(hf' i hi).2.2
end
def cf.sm(x:cf):Prop:=x.ps.length≤1048576∧x.ls.length≤1048576
theorem smTx_of(x:cf){l1 l2:Nat}(h1:x.ps.length=l1)(h2:x.ls.length=l2)(h:l1≤1048576∧l2≤1048576):x.sm:=by subst h1;subst h2;exact h
theorem of_smTx(x:cf){l1 l2:Nat}(h1:x.ps.length=l1)(h2:x.ls.length=l2)(h:x.sm):l1≤1048576∧l2≤1048576:=by subst h1;subst h2;exact h
/-- How many elements there are, in all of it. -/
def fd:List cf→Nat
 | []=>0
 |x :: xs=>(1+(x.ps.length+x.ls.length))+fd xs
theorem cTx_app(xs ys:List cf):fd (xs++ys)=fd xs+fd ys:=by
 induction xs with
 |nil=>simp[fd]
 |cons x xs ih=>
  show(1+(x.ps.length+x.ls.length))+fd (xs++ys)=(1+(x.ps.length+x.ls.length))+fd xs+fd ys
  omega
theorem cTx_take{xs:List cf}{i:Nat}{x:cf}(h:xs[i]? =some x):fd (xs.take (i+1))=fd (xs.take i)+(1+(x.ps.length+x.ls.length)):=by
 rw[List.take_add_one,h,cTx_app]
 simp[fd]
theorem cTx_0(xs:List cf):fd (xs.take 0)=0:=by simp[fd]
set_option maxRecDepth 20000 in
set_option maxHeartbeats 1000000 in
theorem szTx_one(x:cf)(a1:Option Addr)(l1 c1:Nat)(a2:Option Addr)(l2 c2:Nat)(L:Int)(w:World)(h1:cQ w 0 a1 l1 x.ps)(h2:cS w 0 a2 l2 x.ls)(h0L:0≤L)(hL:L≤1048576):Calls Tryz.prog 99 #[.agg #[.int .i64 x.n,.slice a1 l1 c1,.slice a2 l2 c2],.int .i64 L] w fun e w'=>gG (L - ((l1+l2:Nat):Int)) (l1≤1048576∧l2≤1048576) e∧Below w.heap.size w w':=by
 go_enter Tryz.func99,Tryz.ntmps99
 go_wp2_with fail
 refine(szPn_p a1 l1 c1 L _ h1.len.2 (by omega) (by omega)).mono ?_
 rintro e w0x ⟨⟨r0,rfl,hr⟩,hw⟩
 obtain rfl:=hw.symm
 clear hw
 rcases hr with rfl|⟨p0,q0,s0⟩
 ·go_wp2
  go_ret
  exact⟨⟨_,rfl,Or.inl rfl⟩,(ar)⟩
 go_wp2_with fail
 refine(szLp_p a2 l2 c2 r0 _ h2.len.2 (by omega) (by omega)).mono ?_
 rintro e w1x ⟨⟨r1,rfl,hr⟩,hw⟩
 obtain rfl:=hw.symm
 clear hw
 rcases hr with rfl|⟨p1,q1,s1⟩
 ·go_wp2
  go_ret
  exact⟨⟨_,rfl,Or.inl rfl⟩,(ar)⟩
 go_wp2
 go_ret
 exact⟨⟨_,rfl,Or.inr ⟨p1,by omega,s0,s1⟩⟩,(ar)⟩
set_option maxRecDepth 20000 in
set_option maxHeartbeats 2000000 in
theorem toTx_one(x:cf)(a1:Option Addr)(l1 c1:Nat)(a2:Option Addr)(l2 c2:Nat)(w:World)(h1:cQ w 0 a1 l1 x.ps)(h2:cS w 0 a2 l2 x.ls)(m1:l1≤1048576)(m2:l2≤1048576):Calls Tryz.prog 118 #[.agg #[.int .i64 x.n,.slice a1 l1 c1,.slice a2 l2 c2]] w fun e w'=>∃b1 b2,e= .returned (.agg #[.int .i64 x.n,.slice b1 l1 l1,.slice b2 l2 l2])∧cQ w' w.heap.size b1 l1 x.ps∧cS w' w.heap.size b2 l2 x.ls∧Below w.heap.size w w':=by
 go_enter Tryz.func118,Tryz.ntmps118
 go_wp2_with (first
  |(go_at_call 120;refine(toPn_b 0 a1 l1 c1 x.ps _ (h1.below (ar)) m1).mono ?_;rintro e' w0 ⟨b1,rfl,H1,hb0⟩;obtain⟨hc0,hf0,hs0⟩:=ac hb0;have hz00:w.heap.size<w0.heap.size:=(by have h9:=hb0.size;(try simp at h9);omega);have hz01:w.heap.size+1<w0.heap.size:=(by have h9:=hb0.size;(try simp at h9);omega);have hz02:w.heap.size+1+1<w0.heap.size:=(by have h9:=hb0.size;(try simp at h9);omega))
  |(go_at_call 121;refine(toLp_b 0 a2 l2 c2 x.ls _ (h2.below (ar)) m2).mono ?_;rintro e' w1 ⟨b2,rfl,H2,hb1⟩;obtain⟨hc1,hf1,hs1⟩:=ac hb1;have hz10:w.heap.size<w1.heap.size:=(by have h9:=hb1.size;(try simp at h9);omega);have hz11:w.heap.size+1<w1.heap.size:=(by have h9:=hb1.size;(try simp at h9);omega);have hz12:w.heap.size+1+1<w1.heap.size:=(by have h9:=hb1.size;(try simp at h9);omega)))
 have G1:cQ w0 (w.heap.size+3) b1 l1 x.ps:=H1.less (jH)
 have G2:cS w1 (w.heap.size+3) b2 l2 x.ls:=H2.less (jH)
 refine bodyPost_ret (v:= .agg #[.int .i64 x.n,.slice b1 l1 l1,.slice b2 l2 l2]) (by simp(maxDischargeDepth:=9) [results,Tryz.results118,go_sem, *]) rfl ⟨b1,b2,rfl,cQ.less (B:=w.heap.size+3) ?_ (by omega),cS.less (B:=w.heap.size+3) ?_ (by omega),?_⟩
 ·repeat(first|(with_reducible exact G1)|(with_reducible refine cQ.set ?_ (jH))|(with_reducible refine cQ.below ?_ hb1))
 ·repeat(first|(with_reducible exact G2)|(with_reducible refine cS.set ?_ (jH)))
 ·exact(ar)
set_option maxRecDepth 20000 in
set_option maxHeartbeats 1000000 in
theorem eqTx_one(B1 B2:Nat)(x:cf)(a1x a1y:Option Addr)(l1 c1x c1y:Nat)(a2x a2y:Option Addr)(l2 c2x c2y:Nat)(w:World)(h1x:cQ w B1 a1x l1 x.ps)(h1y:cQ w B2 a1y l1 x.ps)(h2x:cS w B1 a2x l2 x.ls)(h2y:cS w B2 a2y l2 x.ls):Calls Tryz.prog 136 #[.agg #[.int .i64 x.n,.slice a1x l1 c1x,.slice a2x l2 c2x],.agg #[.int .i64 x.n,.slice a1y l1 c1y,.slice a2y l2 c2y]] w fun e w'=>e= .returned (.bool true)∧Below w.heap.size w w':=by
 go_enter Tryz.func136,Tryz.ntmps136
 go_wp2_with (first
  |(go_at_call 10;refine(eqPn_b B1 B2 a1x a1y l1 c1x c1y x.ps _ (h1x.below (ar)) (h1y.below (ar))).mono ?_;rintro e' w0 ⟨rfl,hb0⟩;obtain⟨hc0,hf0,hs0⟩:=ac hb0;have hz00:w.heap.size<w0.heap.size:=(by have h9:=hb0.size;(try simp at h9);omega);have hz01:w.heap.size+1<w0.heap.size:=(by have h9:=hb0.size;(try simp at h9);omega))
  |(go_at_call 17;refine(eqLp_b B1 B2 a2x a2y l2 c2x c2y x.ls _ (h2x.below (ar)) (h2y.below (ar))).mono ?_;rintro e' w1 ⟨rfl,hb1⟩;obtain⟨hc1,hf1,hs1⟩:=ac hb1;have hz10:w.heap.size<w1.heap.size:=(by have h9:=hb1.size;(try simp at h9);omega);have hz11:w.heap.size+1<w1.heap.size:=(by have h9:=hb1.size;(try simp at h9);omega)))
 go_ret
 exact⟨rfl,(ar)⟩
set_option maxRecDepth 20000 in
set_option maxHeartbeats 1000000 in
theorem szTx_p(a:Option Addr)(len cap:Nat)(xs:List cf)(L:Int)(w:World)(h:eX w 0 a len xs)(h0:0≤L)(hL:L≤1048576):Calls Tryz.prog 100 #[.slice a len cap,.int .i64 L] w fun e w'=>gG (L - (fd xs:Int)) (len≤1048576∧∀x ∈ xs,x.sm) e∧Below w.heap.size w w':=by
 have hm:=h.2.1
 unfold maxLen at hm
 by_cases h1:(len:Int)≤L
 ·go_enter Tryz.func100,Tryz.ntmps100
  go_wp2
  go_loopw [1,5] (fun lv i wr=>∃(k:Nat) (l:Int),k≤len∧i= .int .i64 k∧lv= .int .i64 l∧0≤l∧l≤L - (fd (xs.take k):Int) - ((len:Int) - (k:Int))∧(∀(i:Nat) (x:cf),i<k→xs[i]? =some x→x.sm)∧Below w.heap.size w wr) (fun _ i _=>len - (intOf i).toNat)
  case atStart=>exact⟨0,_,Nat.zero_le _,rfl,rfl,by omega,by have:=cTx_0 xs;omega,fun i x hi=>absurd hi (by omega),Below.refl _ _⟩
  case round=>
   obtain⟨k,l,hk,rfl,rfl,hl0,hl1,hq,hbw⟩:=hrel
   by_cases hlt:k<len
   ·obtain⟨hxl,hml,hx⟩:=h
    obtain⟨g,o,rfl,_,hr⟩:=hx.resolve_left (by omega)
    obtain⟨x,hxk⟩:∃x,xs[k]? =some x:=⟨_,List.getElem?_eq_getElem (by omega)⟩
    have hX:=ab hxk
    have hct:=ab (cTx_take hxk)
    have hkl:((k+1:Nat):Int)=(k:Int)+1:=by omega
    have hKL:=ab hkl
    clear hkl
    have HQ:=ab hq
    obtain⟨a1,l1,c1,a2,l2,c2,⟨c0z,c1z,c2z⟩,k1,k2⟩:=(hr k _ hxk).below hbw
    have hsm:=ab (smTx_of x k1.len.1 k2.len.1)
    have hcl:=ab (And.intro hxl (And.intro (show x.ps.length=l1 from k1.len.1) (show x.ls.length=l2 from k2.len.1)))
    clear hx hxk hr hq
    go_wp2_with fail
    refine(szTx_one x a1 l1 c1 a2 l2 c2 l _ k1 k2 hl0 (by omega)).mono ?_
    rintro e w1 ⟨⟨r,rfl,hr⟩,hb⟩
    rcases hr with rfl|⟨h2,h3,h4⟩
    ·go_wp2
     go_ret
     exact⟨⟨_,rfl,Or.inl rfl⟩,(ar)⟩
    ·have HC:Hid (r≤L - (fd (xs.take (k+1)):Int) - ((len:Int) - ((k+1:Nat):Int))):=ab (by
      have h8:=aa hct
      obtain⟨_,f0,f1⟩:=aa hcl
      omega)
     clear hct hcl hKL h3
     have HS:=ab (aa hsm h4)
     clear h4 hsm
     go_wp2
     go_roundw
     case rel=>
      refine⟨k+1,r,by omega,by go_num,rfl,h2,aa HC,fun i y hi hy=>?_,(ar)⟩
      by_cases he:i=k
      ·subst he
       rw[aa hX]at hy
       cases hy
       exact aa HS
      ·exact aa HQ i y (by omega) hy
     case measure=>simp[intOf];omega
   ·go_wp2
    go_ret
    refine⟨⟨_,rfl,Or.inr ⟨hl0,(by have h9:=hl1;rw[List.take_of_length_le (by have:=h.1;omega)]at h9;omega),by omega,fun x hx=>?_⟩⟩,hbw⟩
    obtain⟨i,hi,rfl⟩:=List.getElem_of_mem hx
    exact hq i _ (by have:=h.1;omega) (List.getElem?_eq_getElem hi)
 ·go_enter Tryz.func100,Tryz.ntmps100
  go_wp2
  go_ret
  exact⟨⟨_,rfl,Or.inl rfl⟩,Below.refl _ _⟩
theorem Tryz.infoTx:(Tryz.prog.info? 138).map (fun i=>(i.zero,i.size,i.bytes))=some (some (.agg #[.int .i64 0,.slice none 0 0,.slice none 0 0]),3,56):=by kernel_rfl
theorem mkTx(len:Nat)(hl:len≤1048576):∃C:Array Value,C.size=len*3∧∀w:World,(Instr.makeSlice 72 (.int .i64 (len:Int)) (.int .i64 (len:Int))).run Tryz.prog w= .ok (.slice (some ⟨w.heap.size,0,none⟩) len len) (w.alloc (.cells C 138)):=by
 obtain⟨i0,hi,hz0,hz1,hz2⟩:=info_parts Tryz.infoTx
 refine⟨madeCells (Value.agg #[.int .i64 0,.slice none 0 0,.slice none 0 0]).cells (len*i0.size),by rw[size_madeCells,hz1],fun w=>?_⟩
 have h:=run_make (P:=Tryz.prog) w 72 138 i0 _ Tryz.underlying72 hi hz0 .i64 .i64 len len (by omega) (Int.le_refl _) (by rw[hz2];omega) (by omega)
 simpa using h
set_option maxRecDepth 20000 in
set_option maxHeartbeats 1000000 in
theorem toTx_b(B:Nat)(a:Option Addr)(len cap:Nat)(xs:List cf)(w:World)(h:eX w B a len xs)(hl:len≤1048576∧∀x ∈ xs,x.sm):Calls Tryz.prog 119 #[.slice a len cap] w fun e w'=>∃a',e= .returned (.slice a' len len)∧eX w' w.heap.size a' len xs∧Below w.heap.size w w':=by
 obtain⟨hl,hq⟩:=hl
 replace h:=h.less (Nat.zero_le B)
 obtain⟨C,hC,hmk⟩:=mkTx len hl
 go_enter Tryz.func119,Tryz.ntmps119
 go_wp2
 go_loopw [4] (fun i wr=>∃k:Nat,k≤len∧i= .int .i64 k∧eD wr w.heap.size 138 len (xs.take k)∧Below w.heap.size w wr) (fun i _=>len - (intOf i).toNat)
 case atStart=>exact⟨0,Nat.zero_le _,rfl,eD.start hC xs,ai _ _⟩
 case round=>
  obtain⟨k,hk,rfl,hF,hbw⟩:=hrel
  by_cases hlt:k<len
  ·obtain⟨hxl,hml,hx⟩:=h
   obtain⟨g,o,rfl,_,hr⟩:=hx.resolve_left (by omega)
   obtain⟨x,hxk⟩:∃x,xs[k]? =some x:=⟨_,List.getElem?_eq_getElem (by omega)⟩
   have hX:=ab hxk
   have hqk:=hq x (List.mem_of_getElem? hxk)
   obtain⟨a1,l1,c1,a2,l2,c2,⟨c0z,c1z,c2z⟩,k1,k2⟩:=(hr k _ hxk).below hbw
   obtain⟨m1,m2⟩:=of_smTx x k1.len.1 k2.len.1 hqk
   obtain⟨u0,d0⟩:=hF.1.cell (i:=k*3) (by omega)
   have f0:=hF.1.frozen (i:=k*3)
   obtain⟨u1,d1⟩:=hF.1.cell (i:=k*3+1) (by omega)
   have f1:=hF.1.frozen (i:=k*3+1)
   obtain⟨u2,d2⟩:=hF.1.cell (i:=k*3+2) (by omega)
   have f2:=hF.1.frozen (i:=k*3+2)
   have hz:=hF.1.lt
   clear hx hxk hr hqk
   go_wp2_with (go_at_call 118;refine(toTx_one x a1 l1 c1 a2 l2 c2 _ k1 k2 m1 m2).mono ?_;rintro e w' ⟨b1,b2,rfl,H1,H2,hb⟩;obtain⟨hc,hf,hs⟩:=ac hb)
   go_roundw
   case rel=>exact⟨k+1,by omega,by go_num,hF.step hb hlt (aa hX) (H1.less (by omega)) (H2.less (by omega)),below_setTx (ae hbw hb) (Nat.le_refl _)⟩
   case measure=>simp[intOf];omega
  ·go_wp2
   go_ret
   exact⟨_,rfl,hF.done (by have:=h.1;omega) h.1 h.2.1,hbw⟩
set_option maxRecDepth 20000 in
set_option maxHeartbeats 1000000 in
theorem eqTx_b(B1 B2:Nat)(a1 a2:Option Addr)(len cap1 cap2:Nat)(xs:List cf)(w:World)(h1:eX w B1 a1 len xs)(h2:eX w B2 a2 len xs):Calls Tryz.prog 137 #[.slice a1 len cap1,.slice a2 len cap2] w fun e w'=>e= .returned (.bool true)∧Below w.heap.size w w':=by
 have hm:=h1.2.1
 unfold maxLen at hm
 go_enter Tryz.func137,Tryz.ntmps137
 go_wp2
 go_loopw [5] (fun i wr=>∃k:Nat,k≤len∧i= .int .i64 k∧Below w.heap.size w wr) (fun i _=>len - (intOf i).toNat)
 case atStart=>exact⟨0,Nat.zero_le _,rfl,Below.refl _ _⟩
 case round=>
  obtain⟨k,hk,rfl,hbw⟩:=hrel
  by_cases hlt:k<len
  ·obtain⟨hl1,_,hx1⟩:=h1
   obtain⟨hl2,_,hx2⟩:=h2
   obtain⟨g1,o1,rfl,_,hr1⟩:=hx1.resolve_left (by omega)
   obtain⟨g2,o2,rfl,_,hr2⟩:=hx2.resolve_left (by omega)
   obtain⟨x,hxk⟩:∃x,xs[k]? =some x:=⟨_,List.getElem?_eq_getElem (by omega)⟩
   have t1:=(hr1 k _ hxk).below hbw
   have t2:=(hr2 k _ hxk).below hbw
   have hs1:=t1.lt
   have hs2:=t2.lt
   obtain⟨a1x,l1,c1x,a2x,l2,c2x,⟨c0z,c1z,c2z⟩,k1x,k2x⟩:=t1
   obtain⟨a1y,l1y,c1y,a2y,l2y,c2y,⟨d0z,d1z,d2z⟩,k1y,k2y⟩:=t2
   obtain rfl:l1=l1y:=by have e1:=k1x.len.1;have e2:=k1y.len.1;omega
   obtain rfl:l2=l2y:=by have e1:=k2x.len.1;have e2:=k2y.len.1;omega
   have hS:((wr.cell? ⟨g1,o1+k*3,none⟩=some (.int .i64 x.n)∧wr.cell? ⟨g1,o1+k*3+1,none⟩=some (.slice a1x l1 c1x)∧wr.cell? ⟨g1,o1+k*3+2,none⟩=some (.slice a2x l2 c2x)∧wr.cell? ⟨g2,o2+k*3,none⟩=some (.int .i64 x.n)∧wr.cell? ⟨g2,o2+k*3+1,none⟩=some (.slice a1y l1 c1y)∧wr.cell? ⟨g2,o2+k*3+2,none⟩=some (.slice a2y l2 c2y))∧g1<wr.heap.size∧g2<wr.heap.size):=⟨⟨c0z,c1z,c2z,d0z,d1z,d2z⟩,hs1,hs2⟩
   clear hx1 hx2 hxk hr1 hr2
   go_wp2
   go_region_held3 (fun W=>((W.cell? ⟨g1,o1+k*3,none⟩=some (.int .i64 x.n)∧W.cell? ⟨g1,o1+k*3+1,none⟩=some (.slice a1x l1 c1x)∧W.cell? ⟨g1,o1+k*3+2,none⟩=some (.slice a2x l2 c2x)∧W.cell? ⟨g2,o2+k*3,none⟩=some (.int .i64 x.n)∧W.cell? ⟨g2,o2+k*3+1,none⟩=some (.slice a1y l1 c1y)∧W.cell? ⟨g2,o2+k*3+2,none⟩=some (.slice a2y l2 c2y))∧g1<W.heap.size∧g2<W.heap.size)) ((first|((repeat(first|(with_reducible assumption)|(with_reducible refine dh ?_ (jF))|(with_reducible refine dh ?_ (aj (Below.refl _ _)))|(with_reducible refine dh ?_ (ai _ _))));done)|(refine⟨⟨?_,?_,?_,?_,?_,?_⟩,?_,?_⟩<;>first|(go_keep;done)|(simp;done)|(simp;omega)|omega)))
    (first
    |(go_at_call 136;refine(eqTx_one B1 B2 x a1x a1y l1 c1x c1y a2x a2y l2 c2x c2y _ (k1x.below (ak)) (k1y.below (ak)) (k2x.below (ak)) (k2y.below (ak))).mono ?_;rintro e w' ⟨rfl,hb⟩;obtain⟨hc,hf,hs⟩:=ac hb))
   go_wp2
   go_roundw
   case rel=>exact⟨k+1,by omega,by go_num,(ak)⟩
   case measure=>simp[intOf];omega
  ·go_wp2
   go_ret
   exact⟨rfl,hbw⟩
end Go.Proofs.YtealpjmannopeaaGreat
