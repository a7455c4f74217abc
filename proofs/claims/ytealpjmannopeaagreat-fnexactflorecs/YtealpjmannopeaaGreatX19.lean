/- Laid together: what the claim needs of the texts that were built one by one. -/
import Derived.Test.YtealpjmannopeaaGreatX7
import Derived.Deep.WholeRow
import Derived.Test.YtealpjmannopeaaGreatX0
import Derived.Test.YtealpjmannopeaaGreatX8
import Derived.Test.YtealpjmannopeaaGreatX18
set_option linter.unusedVariables false
namespace Go.Proofs.YtealpjmannopeaaGreat
open Go.ChangeShapes Go.WideShapes Go.ChangeAt Go.RowKit Go.Deep
set_option linter.unusedSimpArgs false
theorem ir{w:World}{b:Nat}{ty:Nat}{cs:List Value}(h:w.heap[b]? =some (.cells cs.toArray ty (0,0))):w.rangeAt b 0 cs:=fun j v hv=>by
 rw[Nat.zero_add,cA h];simpa using hv
/-- A load, not looked into. -/
def gM(ty:TypeId)(p:Value):Sem Value:=Instr.loadAt ty p
theorem dJ(p:Value):Instr.loadAt 51 p=gM 51 p:=rfl
theorem eM(p:Value):Instr.loadAt 36 p=gM 36 p:=rfl
/-- A store, not looked into. -/
def iu(ty:TypeId)(p v:Value):Sem Unit:=Instr.storeAt ty p v
theorem dS(p v:Value):Instr.storeAt 51 p v=iu 51 p v:=rfl
theorem store_new{P:Program}(w:World)(t:TypeId)(c c':Array Value)(hi:(P.info? t).map (·.size)=some c'.size)(ho:c.size=c'.size)(h1:c'.all (·.oneCell')=true):(iu t (.pointer (some ⟨w.heap.size,0,none⟩)) (.agg c')).run P (w.alloc (.cells c t))= .ok () (w.alloc (.cells c' t)):=run_storeAt_new w t c c' hi ho h1
attribute [irreducible] iu
theorem cc{P:Program}{w:World}{b:Nat}{ty':Nat}{cs:List Value}(h:w.heap[b]? =some (.cells cs.toArray ty' (0,0)))(ty:TypeId){d:TypeDesc}(hu:P.underlying ty=some d)(hd:d.isRow=true)(hi:(P.info? ty).map (·.size)=some cs.length):(gM ty (.pointer (some ⟨b,0,none⟩))).run P w= .ok (.agg cs.toArray) w:=run_loadAt_mid w b 0 ty cs d (ir h) hu hd hi
attribute [irreducible] gM
set_option linter.unusedSimpArgs false
theorem szFlA(x:fW)(a10:Option Addr)(l10 c10:Nat)(a11:Option Addr)(l11 c11:Nat)(a12:Option Addr)(l12 c12:Nat)(a13:Option Addr)(l13 c13:Nat)(a16:Option Addr)(l16 c16:Nat)(a17:Option Addr)(l17 c17:Nat)(a18:Option Addr)(l18 c18:Nat)(a20:Option Addr)(l20 c20:Nat)(a21:Option Addr)(l21 c21:Nat)(w:World)(h:FlIs w 0 a10 l10 a11 l11 a12 l12 a13 l13 a16 l16 a17 l17 a18 l18 a20 l20 a21 l21 x):Calls Tryz.prog 6 #[.agg #[.int .i64 x.s,.int .i64 x.t,.int .i64 x.k,.int .i64 x.z,.int .i64 x.p,.int .i64 x.l,.int .i64 x.e,.bool x.b,.int .i64 x.v,.int .i64 x.r,.slice a10 l10 c10,.slice a11 l11 c11,.slice a12 l12 c12,.slice a13 l13 c13,.int .i64 x.n,.bool x.op,.slice a16 l16 c16,.slice a17 l17 c17,.slice a18 l18 c18,.int .i64 x.sfn,.slice a20 l20 c20,.slice a21 l21 c21],.int .i64 1048576] w fun e w'=>gG (1048576 - ((fl x.logs+l11+fD x.tks+fE x.sks+(l16+l17+di x.sn+(l20+di x.ssn)):Nat):Int)) ((l10≤1048576∧∀y ∈ x.logs,y.sm)∧l11≤1048576∧(l12≤1048576∧∀y ∈ x.tks,y.sm)∧(l13≤1048576∧∀y ∈ x.sks,y.sm)∧l16≤1048576∧l17≤1048576∧(l18≤1048576∧∀y ∈ x.sn,y.sm)∧l20≤1048576∧(l21≤1048576∧∀y ∈ x.ssn,y.sm)) e∧Below w.heap.size w w':=szFl_one x a10 l10 c10 a11 l11 c11 a12 l12 c12 a13 l13 c13 a16 l16 c16 a17 l17 c17 a18 l18 c18 a20 l20 c20 a21 l21 c21 1048576 w h.logs h.srcs h.tks h.sks h.src h.tsk h.sn h.at_ h.ssn (by omega) (by omega)
theorem toFlA(x:fW)(a10:Option Addr)(l10 c10:Nat)(a11:Option Addr)(l11 c11:Nat)(a12:Option Addr)(l12 c12:Nat)(a13:Option Addr)(l13 c13:Nat)(a16:Option Addr)(l16 c16:Nat)(a17:Option Addr)(l17 c17:Nat)(a18:Option Addr)(l18 c18:Nat)(a20:Option Addr)(l20 c20:Nat)(a21:Option Addr)(l21 c21:Nat)(w:World)(h:FlIs w 0 a10 l10 a11 l11 a12 l12 a13 l13 a16 l16 a17 l17 a18 l18 a20 l20 a21 l21 x)(k:((l10≤1048576∧∀y ∈ x.logs,y.sm)∧l11≤1048576∧(l12≤1048576∧∀y ∈ x.tks,y.sm)∧(l13≤1048576∧∀y ∈ x.sks,y.sm)∧l16≤1048576∧l17≤1048576∧(l18≤1048576∧∀y ∈ x.sn,y.sm)∧l20≤1048576∧(l21≤1048576∧∀y ∈ x.ssn,y.sm))):Calls Tryz.prog 8 #[.agg #[.int .i64 x.s,.int .i64 x.t,.int .i64 x.k,.int .i64 x.z,.int .i64 x.p,.int .i64 x.l,.int .i64 x.e,.bool x.b,.int .i64 x.v,.int .i64 x.r,.slice a10 l10 c10,.slice a11 l11 c11,.slice a12 l12 c12,.slice a13 l13 c13,.int .i64 x.n,.bool x.op,.slice a16 l16 c16,.slice a17 l17 c17,.slice a18 l18 c18,.int .i64 x.sfn,.slice a20 l20 c20,.slice a21 l21 c21]] w fun e w'=>∃b10 b11 b12 b13 b16 b17 b18 b20 b21,e= .returned (.agg #[.int .i64 x.s,.int .i64 x.t,.int .i64 x.k,.int .i64 x.z,.int .i64 x.p,.int .i64 x.l,.int .i64 x.e,.bool x.b,.int .i64 x.v,.int .i64 x.r,.slice b10 l10 l10,.slice b11 l11 l11,.slice b12 l12 l12,.slice b13 l13 l13,.int .i64 x.n,.bool x.op,.slice b16 l16 l16,.slice b17 l17 l17,.slice b18 l18 l18,.int .i64 x.sfn,.slice b20 l20 l20,.slice b21 l21 l21])∧FlIs w' w.heap.size b10 l10 b11 l11 b12 l12 b13 l13 b16 l16 b17 l17 b18 l18 b20 l20 b21 l21 x∧Below w.heap.size w w':=
 (toFl_one x a10 l10 c10 a11 l11 c11 a12 l12 c12 a13 l13 c13 a16 l16 c16 a17 l17 c17 a18 l18 c18 a20 l20 c20 a21 l21 c21 w h.logs h.srcs h.tks h.sks h.src h.tsk h.sn h.at_ h.ssn k.1 k.2.1 k.2.2.1 k.2.2.2.1 k.2.2.2.2.1 k.2.2.2.2.2.1 k.2.2.2.2.2.2.1 k.2.2.2.2.2.2.2.1 k.2.2.2.2.2.2.2.2).mono fun e w' ⟨b10,b11,b12,b13,b16,b17,b18,b20,b21,he,H10,H11,H12,H13,H16,H17,H18,H20,H21,hb⟩=>⟨b10,b11,b12,b13,b16,b17,b18,b20,b21,he,⟨H10,H11,H12,H13,H16,H17,H18,H20,H21⟩,hb⟩
theorem eqFlA(B1 B2:Nat)(x:fW)(p10 q10:Option Addr)(l10:Nat)(p11 q11:Option Addr)(l11:Nat)(p12 q12:Option Addr)(l12:Nat)(p13 q13:Option Addr)(l13:Nat)(p16 q16:Option Addr)(l16:Nat)(p17 q17:Option Addr)(l17:Nat)(p18 q18:Option Addr)(l18:Nat)(p20 q20:Option Addr)(l20:Nat)(p21 q21:Option Addr)(l21:Nat)(w:World)(h:FlIs w B1 p10 l10 p11 l11 p12 l12 p13 l13 p16 l16 p17 l17 p18 l18 p20 l20 p21 l21 x)(g:FlIs w B2 q10 l10 q11 l11 q12 l12 q13 l13 q16 l16 q17 l17 q18 l18 q20 l20 q21 l21 x):Calls Tryz.prog 11 #[.agg #[.int .i64 x.s,.int .i64 x.t,.int .i64 x.k,.int .i64 x.z,.int .i64 x.p,.int .i64 x.l,.int .i64 x.e,.bool x.b,.int .i64 x.v,.int .i64 x.r,.slice p10 l10 l10,.slice p11 l11 l11,.slice p12 l12 l12,.slice p13 l13 l13,.int .i64 x.n,.bool x.op,.slice p16 l16 l16,.slice p17 l17 l17,.slice p18 l18 l18,.int .i64 x.sfn,.slice p20 l20 l20,.slice p21 l21 l21],.agg #[.int .i64 x.s,.int .i64 x.t,.int .i64 x.k,.int .i64 x.z,.int .i64 x.p,.int .i64 x.l,.int .i64 x.e,.bool x.b,.int .i64 x.v,.int .i64 x.r,.slice q10 l10 l10,.slice q11 l11 l11,.slice q12 l12 l12,.slice q13 l13 l13,.int .i64 x.n,.bool x.op,.slice q16 l16 l16,.slice q17 l17 l17,.slice q18 l18 l18,.int .i64 x.sfn,.slice q20 l20 l20,.slice q21 l21 l21]] w fun e w'=>e= .returned (.bool true)∧Below w.heap.size w w':=eqFl_one B1 B2 x p10 q10 l10 l10 l10 p11 q11 l11 l11 l11 p12 q12 l12 l12 l12 p13 q13 l13 l13 l13 p16 q16 l16 l16 l16 p17 q17 l17 l17 l17 p18 q18 l18 l18 l18 p20 q20 l20 l20 l20 p21 q21 l21 l21 l21 w h.1 g.1 h.2 g.2 h.3 g.3 h.4 g.4 h.5 g.5 h.6 g.6 h.7 g.7 h.8 g.8 h.9 g.9
set_option linter.unusedSimpArgs false
/-- What lies from block B on, and lay in X, is being marked: a number stays a number, a truth value one, a slice itself; all else stays as it was in Y. -/
structure cE(B:Nat)(X Y w:World):Prop where
 os:w.os=Y.os
 tape:w.tape=Y.tape
 output:w.output=Y.output
 size:Y.heap.size≤w.heap.size
 low:X.heap.size≤Y.heap.size
 old:∀k,k<Y.heap.size→(k<B∨X.heap.size≤k)→w.heap[k]? =Y.heap[k]?
 sl:∀g o a n c,B≤g→X.cell? ⟨g,o,none⟩=some (.slice a n c)→w.cell? ⟨g,o,none⟩=some (.slice a n c)
 ii:∀g o z,B≤g→X.cell? ⟨g,o,none⟩=some (.int .i64 z)→∃z',w.cell? ⟨g,o,none⟩=some (.int .i64 z')
 bb:∀g o b,B≤g→X.cell? ⟨g,o,none⟩=some (.bool b)→∃b',w.cell? ⟨g,o,none⟩=some (.bool b')
 fz:∀g o,B≤g→g<X.heap.size→X.frozen? ⟨g,o,none⟩=false→w.frozen? ⟨g,o,none⟩=false
theorem cE.start{B:Nat}{X w:World}(hb:Below X.heap.size X w):cE B X w w where
 os:=rfl
 tape:=rfl
 output:=rfl
 size:=Nat.le_refl _
 low:=hb.size
 old:=fun _ _ _=>rfl
 sl:=fun g o a n c _ h=>(hb.cell (p:=⟨g,o,none⟩) (aA h)).trans h
 ii:=fun g o z _ h=>⟨z,(hb.cell (p:=⟨g,o,none⟩) (aA h)).trans h⟩
 bb:=fun g o b _ h=>⟨b,(hb.cell (p:=⟨g,o,none⟩) (aA h)).trans h⟩
 fz:=fun g o _ hg h=>(hb.frozen (p:=⟨g,o,none⟩) hg).trans h
theorem cE.re{B:Nat}{X Y w:World}(h:cE B X Y w):cE B X w w where
 os:=rfl
 tape:=rfl
 output:=rfl
 size:=Nat.le_refl _
 low:=Nat.le_trans h.low h.size
 old:=fun _ _ _=>rfl
 sl:=h.sl
 ii:=h.ii
 bb:=h.bb
 fz:=h.fz
theorem cE.tr{B:Nat}{X Y w w':World}(h:cE B X Y w)(k:cE B X w w'):cE B X Y w' where
 os:=k.os.trans h.os
 tape:=k.tape.trans h.tape
 output:=k.output.trans h.output
 size:=Nat.le_trans h.size k.size
 low:=h.low
 old:=fun q hq hk=>(k.old q (Nat.lt_of_lt_of_le hq h.size) hk).trans (h.old q hq hk)
 sl:=k.sl
 ii:=k.ii
 bb:=k.bb
 fz:=k.fz
theorem cE.bel{B:Nat}{X Y w w':World}(h:cE B X Y w)(hb:Below w.heap.size w w'):cE B X Y w' where
 os:=hb.os.trans h.os
 tape:=hb.tape.trans h.tape
 output:=hb.output.trans h.output
 size:=Nat.le_trans h.size hb.size
 low:=h.low
 old:=fun q hq hk=>(hb.block q (Nat.lt_of_lt_of_le hq h.size)).trans (h.old q hq hk)
 sl:=fun g o a n c hg e=>by
  have h9:=h.sl g o a n c hg e
  exact(hb.cell (p:=⟨g,o,none⟩) (aA h9)).trans h9
 ii:=fun g o z hg e=>by
  obtain⟨z',h9⟩:=h.ii g o z hg e
  exact⟨z',(hb.cell (p:=⟨g,o,none⟩) (aA h9)).trans h9⟩
 bb:=fun g o b hg e=>by
  obtain⟨z',h9⟩:=h.bb g o b hg e
  exact⟨z',(hb.cell (p:=⟨g,o,none⟩) (aA h9)).trans h9⟩
 fz:=fun g o hg hx e=>(hb.frozen (p:=⟨g,o,none⟩) (Nat.lt_of_lt_of_le hx (Nat.le_trans h.low h.size))).trans (h.fz g o hg hx e)
theorem fv{W:World}{g g2 o o2:Nat}{v u:Value}(h:W.cell? ⟨g,o,none⟩=some u):(W.setCell ⟨g,o,none⟩ v).cell? ⟨g2,o2,none⟩=if g2=g∧o2=o then some v else W.cell? ⟨g2,o2,none⟩:=by
 split
 ·rename_i e
  obtain⟨rfl,rfl⟩:=e
  exact World.cell?_setCell_same _ _ _ h
 ·rename_i e
  exact World.cell?_setCell_other W ⟨g,o,none⟩ ⟨g2,o2,none⟩ v (fun e9=>e (by cases e9;exact⟨rfl,rfl⟩))
theorem cE.set_i{B:Nat}{X Y w:World}{g o:Nat}{z z':Int}(h:cE B X Y w)(hg:B≤g)(e:X.cell? ⟨g,o,none⟩=some (.int .i64 z)):cE B X Y (w.setCell ⟨g,o,none⟩ (.int .i64 z')):=by
 obtain⟨u,hu⟩:=h.ii g o z hg e
 have hx:=aA e
 refine⟨h.os,h.tape,h.output,by simp[World.setCell];exact h.size,h.low,fun k hk hq=>(Below.heap_setCell _ _ _ _ (by rcases hq with hq|hq<;>(show k≠g;omega))).trans (h.old k hk hq),fun g2 o2 a n c hg2 e2=>?_,fun g2 o2 y hg2 e2=>?_,fun g2 o2 b hg2 e2=>?_,fun g2 o2 hg2 hx2 e2=>(World.frozen?_setCell w _ _ _).trans (h.fz g2 o2 hg2 hx2 e2)⟩
 ·rw[fv hu]
  split
  ·rename_i e9
   obtain⟨rfl,rfl⟩:=e9
   rw[e]at e2
   cases e2
  ·exact h.sl g2 o2 a n c hg2 e2
 ·rw[fv hu]
  split
  ·exact⟨_,rfl⟩
  ·exact h.ii g2 o2 y hg2 e2
 ·rw[fv hu]
  split
  ·rename_i e9
   obtain⟨rfl,rfl⟩:=e9
   rw[e]at e2
   cases e2
  ·exact h.bb g2 o2 b hg2 e2
theorem cE.set_b{B:Nat}{X Y w:World}{g o:Nat}{z z':Bool}(h:cE B X Y w)(hg:B≤g)(e:X.cell? ⟨g,o,none⟩=some (.bool z)):cE B X Y (w.setCell ⟨g,o,none⟩ (.bool z')):=by
 obtain⟨u,hu⟩:=h.bb g o z hg e
 have hx:=aA e
 refine⟨h.os,h.tape,h.output,by simp[World.setCell];exact h.size,h.low,fun k hk hq=>(Below.heap_setCell _ _ _ _ (by rcases hq with hq|hq<;>(show k≠g;omega))).trans (h.old k hk hq),fun g2 o2 a n c hg2 e2=>?_,fun g2 o2 y hg2 e2=>?_,fun g2 o2 b hg2 e2=>?_,fun g2 o2 hg2 hx2 e2=>(World.frozen?_setCell w _ _ _).trans (h.fz g2 o2 hg2 hx2 e2)⟩
 ·rw[fv hu]
  split
  ·rename_i e9
   obtain⟨rfl,rfl⟩:=e9
   rw[e]at e2
   cases e2
  ·exact h.sl g2 o2 a n c hg2 e2
 ·rw[fv hu]
  split
  ·rename_i e9
   obtain⟨rfl,rfl⟩:=e9
   rw[e]at e2
   cases e2
  ·exact h.ii g2 o2 y hg2 e2
 ·rw[fv hu]
  split
  ·exact⟨_,rfl⟩
  ·exact h.bb g2 o2 b hg2 e2
set_option maxRecDepth 20000 in
set_option maxHeartbeats 2000000 in
theorem shmIn(B:Nat)(X Y:World)(hB0:0<B)(K:Int)(h0K:0≤K)(hK:K≤4611686018427387904)(a:Option Addr)(n c:Nat)(xs:List Int)(w:World)(hX:bn X B a n xs)(hS:cE B X Y w)(hn:n≤1048576):Calls Tryz.prog 91 #[.slice a n c,.int .i64 K] w fun e w'=>e= .returned (.int .i64 (K+1*(n:Int)))∧cE B X Y w':=by
 go_enter Tryz.func91,Tryz.ntmps91
 go_wp2
 go_loopw [1,5] (fun kv i wr=>∃j:Nat,j≤n∧kv= .int .i64 (K+1*(j:Int))∧i= .int .i64 j∧cE B X Y wr) (fun _ i _=>n - (intOf i).toNat)
 case atStart=>exact⟨0,Nat.zero_le _,by simp,rfl,hS⟩
 case round=>
  obtain⟨j,hj,rfl,rfl,hSw⟩:=hrel
  by_cases hlt:j<n
  ·obtain⟨⟨hl,_,hx⟩,hg⟩:=hX
   obtain⟨g,o,rfl,hr⟩:=hx.resolve_left (by omega)
   obtain⟨x,hxj⟩:∃x,xs[j]? =some x:=⟨_,List.getElem?_eq_getElem (by omega)⟩
   have e0:X.cell? ⟨g,o+j,none⟩=some (.int .i64 x):=by have h9:=hr j x hxj;simpa using h9
   have hbg:=hg g o (by omega) rfl
   have hgB:=hbg.1
   have hgx:=aA e0
   obtain⟨z0,d0⟩:=hSw.ii _ _ _ hgB e0
   have f0:=hSw.fz g (o+j) hgB hgx (hbg.free hB0)
   have HE:=ab (e0)
   have hgW:g<wr.heap.size:=aA d0
   clear e0 hx hr hg hbg hxj hgx
   go_wp2
   go_roundw
   case rel=>
    have e0:=aa HE
    exact⟨j+1,by omega,by go_num,by go_num,(hSw.set_i hgB e0)⟩
   case measure=>simp[intOf];omega
  ·obtain rfl:j=n:=by omega
   go_wp2
   go_ret
   exact⟨rfl,hSw⟩
set_option maxRecDepth 20000 in
set_option maxHeartbeats 2000000 in
theorem shmBo(B:Nat)(X Y:World)(hB0:0<B)(K:Int)(h0K:0≤K)(hK:K≤4611686018427387904)(a:Option Addr)(n c:Nat)(xs:List Bool)(w:World)(hX:dO X B a n xs)(hS:cE B X Y w)(hn:n≤1048576):Calls Tryz.prog 92 #[.slice a n c,.int .i64 K] w fun e w'=>e= .returned (.int .i64 (K+1*(n:Int)))∧cE B X Y w':=by
 go_enter Tryz.func92,Tryz.ntmps92
 go_wp2
 go_loopw [1,5] (fun kv i wr=>∃j:Nat,j≤n∧kv= .int .i64 (K+1*(j:Int))∧i= .int .i64 j∧cE B X Y wr) (fun _ i _=>n - (intOf i).toNat)
 case atStart=>exact⟨0,Nat.zero_le _,by simp,rfl,hS⟩
 case round=>
  obtain⟨j,hj,rfl,rfl,hSw⟩:=hrel
  by_cases hlt:j<n
  ·obtain⟨⟨hl,_,hx⟩,hg⟩:=hX
   obtain⟨g,o,rfl,hr⟩:=hx.resolve_left (by omega)
   obtain⟨x,hxj⟩:∃x,xs[j]? =some x:=⟨_,List.getElem?_eq_getElem (by omega)⟩
   have e0:X.cell? ⟨g,o+j,none⟩=some (.bool x):=by have h9:=hr j x hxj;simpa using h9
   have hbg:=hg g o (by omega) rfl
   have hgB:=hbg.1
   have hgx:=aA e0
   obtain⟨z0,d0⟩:=hSw.bb _ _ _ hgB e0
   have f0:=hSw.fz g (o+j) hgB hgx (hbg.free hB0)
   have HE:=ab (e0)
   have hgW:g<wr.heap.size:=aA d0
   clear e0 hx hr hg hbg hxj hgx
   go_wp2
   go_roundw
   case rel=>
    have e0:=aa HE
    exact⟨j+1,by omega,by go_num,by go_num,(hSw.set_b hgB e0)⟩
   case measure=>simp[intOf];omega
  ·obtain rfl:j=n:=by omega
   go_wp2
   go_ret
   exact⟨rfl,hSw⟩
set_option maxRecDepth 20000 in
set_option maxHeartbeats 2000000 in
theorem shmIw(B:Nat)(X Y:World)(hB0:0<B)(K:Int)(h0K:0≤K)(hK:K≤4611686018427387904)(a:Option Addr)(n c:Nat)(xs:List bF)(w:World)(hX:gI X B a n xs)(hS:cE B X Y w)(hn:n≤1048576):Calls Tryz.prog 23 #[.slice a n c,.int .i64 K] w fun e w'=>e= .returned (.int .i64 (K+5*(n:Int)))∧cE B X Y w':=by
 go_enter Tryz.func23,Tryz.ntmps23
 go_wp2
 go_loopw [1,5] (fun kv i wr=>∃j:Nat,j≤n∧kv= .int .i64 (K+5*(j:Int))∧i= .int .i64 j∧cE B X Y wr) (fun _ i _=>n - (intOf i).toNat)
 case atStart=>exact⟨0,Nat.zero_le _,by simp,rfl,hS⟩
 case round=>
  obtain⟨j,hj,rfl,rfl,hSw⟩:=hrel
  by_cases hlt:j<n
  ·obtain⟨⟨hl,_,hx⟩,hg⟩:=hX
   obtain⟨g,o,rfl,hr⟩:=hx.resolve_left (by omega)
   obtain⟨x,hxj⟩:∃x,xs[j]? =some x:=⟨_,List.getElem?_eq_getElem (by omega)⟩
   obtain⟨e0,e1,e2,e3,e4⟩:=hr j x hxj
   have hbg:=hg g o (by omega) rfl
   have hgB:=hbg.1
   have hgx:=aA e0
   obtain⟨z0,d0⟩:=hSw.ii _ _ _ hgB e0
   have f0:=hSw.fz g (o+j*5) hgB hgx (hbg.free hB0)
   obtain⟨z1,d1⟩:=hSw.ii _ _ _ hgB e1
   have f1:=hSw.fz g (o+j*5+1) hgB hgx (hbg.free hB0)
   obtain⟨z2,d2⟩:=hSw.ii _ _ _ hgB e2
   have f2:=hSw.fz g (o+j*5+2) hgB hgx (hbg.free hB0)
   obtain⟨z3,d3⟩:=hSw.ii _ _ _ hgB e3
   have f3:=hSw.fz g (o+j*5+3) hgB hgx (hbg.free hB0)
   obtain⟨z4,d4⟩:=hSw.ii _ _ _ hgB e4
   have f4:=hSw.fz g (o+j*5+4) hgB hgx (hbg.free hB0)
   have HE:=ab (And.intro e0 (And.intro e1 (And.intro e2 (And.intro e3 e4))))
   have hgW:g<wr.heap.size:=aA d0
   clear e0 e1 e2 e3 e4 hx hr hg hbg hxj hgx
   go_wp2
   go_roundw
   case rel=>
    obtain⟨e0,e1,e2,e3,e4⟩:=aa HE
    exact⟨j+1,by omega,by go_num,by go_num,(((((hSw.set_i hgB e0).set_i hgB e1).set_i hgB e2).set_i hgB e3).set_i hgB e4)⟩
   case measure=>simp[intOf];omega
  ·obtain rfl:j=n:=by omega
   go_wp2
   go_ret
   exact⟨rfl,hSw⟩
set_option maxRecDepth 20000 in
set_option maxHeartbeats 2000000 in
theorem shmSr(B:Nat)(X Y:World)(hB0:0<B)(K:Int)(h0K:0≤K)(hK:K≤4611686018427387904)(a:Option Addr)(n c:Nat)(xs:List dY)(w:World)(hX:fk X B a n xs)(hS:cE B X Y w)(hn:n≤1048576):Calls Tryz.prog 46 #[.slice a n c,.int .i64 K] w fun e w'=>e= .returned (.int .i64 (K+2*(n:Int)))∧cE B X Y w':=by
 go_enter Tryz.func46,Tryz.ntmps46
 go_wp2
 go_loopw [1,5] (fun kv i wr=>∃j:Nat,j≤n∧kv= .int .i64 (K+2*(j:Int))∧i= .int .i64 j∧cE B X Y wr) (fun _ i _=>n - (intOf i).toNat)
 case atStart=>exact⟨0,Nat.zero_le _,by simp,rfl,hS⟩
 case round=>
  obtain⟨j,hj,rfl,rfl,hSw⟩:=hrel
  by_cases hlt:j<n
  ·obtain⟨⟨hl,_,hx⟩,hg⟩:=hX
   obtain⟨g,o,rfl,hr⟩:=hx.resolve_left (by omega)
   obtain⟨x,hxj⟩:∃x,xs[j]? =some x:=⟨_,List.getElem?_eq_getElem (by omega)⟩
   obtain⟨e0,e1⟩:=hr j x hxj
   have hbg:=hg g o (by omega) rfl
   have hgB:=hbg.1
   have hgx:=aA e0
   obtain⟨z0,d0⟩:=hSw.ii _ _ _ hgB e0
   have f0:=hSw.fz g (o+j*2) hgB hgx (hbg.free hB0)
   obtain⟨z1,d1⟩:=hSw.ii _ _ _ hgB e1
   have f1:=hSw.fz g (o+j*2+1) hgB hgx (hbg.free hB0)
   have HE:=ab (And.intro e0 e1)
   have hgW:g<wr.heap.size:=aA d0
   clear e0 e1 hx hr hg hbg hxj hgx
   go_wp2
   go_roundw
   case rel=>
    obtain⟨e0,e1⟩:=aa HE
    exact⟨j+1,by omega,by go_num,by go_num,((hSw.set_i hgB e0).set_i hgB e1)⟩
   case measure=>simp[intOf];omega
  ·obtain rfl:j=n:=by omega
   go_wp2
   go_ret
   exact⟨rfl,hSw⟩
set_option maxRecDepth 20000 in
set_option maxHeartbeats 2000000 in
theorem shmPn(B:Nat)(X Y:World)(hB0:0<B)(K:Int)(h0K:0≤K)(hK:K≤4611686018427387904)(a:Option Addr)(n c:Nat)(xs:List cx)(w:World)(hX:cQ X B a n xs)(hS:cE B X Y w)(hn:n≤1048576):Calls Tryz.prog 13 #[.slice a n c,.int .i64 K] w fun e w'=>e= .returned (.int .i64 (K+9*(n:Int)))∧cE B X Y w':=by
 go_enter Tryz.func13,Tryz.ntmps13
 go_wp2
 go_loopw [1,5] (fun kv i wr=>∃j:Nat,j≤n∧kv= .int .i64 (K+9*(j:Int))∧i= .int .i64 j∧cE B X Y wr) (fun _ i _=>n - (intOf i).toNat)
 case atStart=>exact⟨0,Nat.zero_le _,by simp,rfl,hS⟩
 case round=>
  obtain⟨j,hj,rfl,rfl,hSw⟩:=hrel
  by_cases hlt:j<n
  ·obtain⟨⟨hl,_,hx⟩,hg⟩:=hX
   obtain⟨g,o,rfl,hr⟩:=hx.resolve_left (by omega)
   obtain⟨x,hxj⟩:∃x,xs[j]? =some x:=⟨_,List.getElem?_eq_getElem (by omega)⟩
   obtain⟨e0,e1,e2,e3,e4,e5,e6,e7,e8⟩:=hr j x hxj
   have hbg:=hg g o (by omega) rfl
   have hgB:=hbg.1
   have hgx:=aA e0
   obtain⟨z0,d0⟩:=hSw.ii _ _ _ hgB e0
   have f0:=hSw.fz g (o+j*9) hgB hgx (hbg.free hB0)
   obtain⟨z1,d1⟩:=hSw.ii _ _ _ hgB e1
   have f1:=hSw.fz g (o+j*9+1) hgB hgx (hbg.free hB0)
   obtain⟨z2,d2⟩:=hSw.ii _ _ _ hgB e2
   have f2:=hSw.fz g (o+j*9+2) hgB hgx (hbg.free hB0)
   obtain⟨z3,d3⟩:=hSw.ii _ _ _ hgB e3
   have f3:=hSw.fz g (o+j*9+3) hgB hgx (hbg.free hB0)
   obtain⟨z4,d4⟩:=hSw.ii _ _ _ hgB e4
   have f4:=hSw.fz g (o+j*9+4) hgB hgx (hbg.free hB0)
   obtain⟨z5,d5⟩:=hSw.ii _ _ _ hgB e5
   have f5:=hSw.fz g (o+j*9+5) hgB hgx (hbg.free hB0)
   obtain⟨z6,d6⟩:=hSw.ii _ _ _ hgB e6
   have f6:=hSw.fz g (o+j*9+6) hgB hgx (hbg.free hB0)
   obtain⟨z7,d7⟩:=hSw.ii _ _ _ hgB e7
   have f7:=hSw.fz g (o+j*9+7) hgB hgx (hbg.free hB0)
   obtain⟨z8,d8⟩:=hSw.ii _ _ _ hgB e8
   have f8:=hSw.fz g (o+j*9+8) hgB hgx (hbg.free hB0)
   have HE:=ab (And.intro e0 (And.intro e1 (And.intro e2 (And.intro e3 (And.intro e4 (And.intro e5 (And.intro e6 (And.intro e7 e8))))))))
   have hgW:g<wr.heap.size:=aA d0
   clear e0 e1 e2 e3 e4 e5 e6 e7 e8 hx hr hg hbg hxj hgx
   go_wp2
   go_roundw
   case rel=>
    obtain⟨e0,e1,e2,e3,e4,e5,e6,e7,e8⟩:=aa HE
    exact⟨j+1,by omega,by go_num,by go_num,(((((((((hSw.set_i hgB e0).set_i hgB e1).set_i hgB e2).set_i hgB e3).set_i hgB e4).set_i hgB e5).set_i hgB e6).set_i hgB e7).set_i hgB e8)⟩
   case measure=>simp[intOf];omega
  ·obtain rfl:j=n:=by omega
   go_wp2
   go_ret
   exact⟨rfl,hSw⟩
set_option maxRecDepth 20000 in
set_option maxHeartbeats 2000000 in
theorem shmLp(B:Nat)(X Y:World)(hB0:0<B)(K:Int)(h0K:0≤K)(hK:K≤4611686018427387904)(a:Option Addr)(n c:Nat)(xs:List cq)(w:World)(hX:cS X B a n xs)(hS:cE B X Y w)(hn:n≤1048576):Calls Tryz.prog 18 #[.slice a n c,.int .i64 K] w fun e w'=>e= .returned (.int .i64 (K+7*(n:Int)))∧cE B X Y w':=by
 go_enter Tryz.func18,Tryz.ntmps18
 go_wp2
 go_loopw [1,5] (fun kv i wr=>∃j:Nat,j≤n∧kv= .int .i64 (K+7*(j:Int))∧i= .int .i64 j∧cE B X Y wr) (fun _ i _=>n - (intOf i).toNat)
 case atStart=>exact⟨0,Nat.zero_le _,by simp,rfl,hS⟩
 case round=>
  obtain⟨j,hj,rfl,rfl,hSw⟩:=hrel
  by_cases hlt:j<n
  ·obtain⟨⟨hl,_,hx⟩,hg⟩:=hX
   obtain⟨g,o,rfl,hr⟩:=hx.resolve_left (by omega)
   obtain⟨x,hxj⟩:∃x,xs[j]? =some x:=⟨_,List.getElem?_eq_getElem (by omega)⟩
   obtain⟨e0,e1,e2,e3,e4,e5,e6⟩:=hr j x hxj
   have hbg:=hg g o (by omega) rfl
   have hgB:=hbg.1
   have hgx:=aA e0
   obtain⟨z0,d0⟩:=hSw.ii _ _ _ hgB e0
   have f0:=hSw.fz g (o+j*7) hgB hgx (hbg.free hB0)
   obtain⟨z1,d1⟩:=hSw.ii _ _ _ hgB e1
   have f1:=hSw.fz g (o+j*7+1) hgB hgx (hbg.free hB0)
   obtain⟨z2,d2⟩:=hSw.ii _ _ _ hgB e2
   have f2:=hSw.fz g (o+j*7+2) hgB hgx (hbg.free hB0)
   obtain⟨z3,d3⟩:=hSw.ii _ _ _ hgB e3
   have f3:=hSw.fz g (o+j*7+3) hgB hgx (hbg.free hB0)
   obtain⟨z4,d4⟩:=hSw.ii _ _ _ hgB e4
   have f4:=hSw.fz g (o+j*7+4) hgB hgx (hbg.free hB0)
   obtain⟨z5,d5⟩:=hSw.ii _ _ _ hgB e5
   have f5:=hSw.fz g (o+j*7+5) hgB hgx (hbg.free hB0)
   obtain⟨z6,d6⟩:=hSw.ii _ _ _ hgB e6
   have f6:=hSw.fz g (o+j*7+6) hgB hgx (hbg.free hB0)
   have HE:=ab (And.intro e0 (And.intro e1 (And.intro e2 (And.intro e3 (And.intro e4 (And.intro e5 e6))))))
   have hgW:g<wr.heap.size:=aA d0
   clear e0 e1 e2 e3 e4 e5 e6 hx hr hg hbg hxj hgx
   go_wp2
   go_roundw
   case rel=>
    obtain⟨e0,e1,e2,e3,e4,e5,e6⟩:=aa HE
    exact⟨j+1,by omega,by go_num,by go_num,(((((((hSw.set_i hgB e0).set_i hgB e1).set_i hgB e2).set_i hgB e3).set_i hgB e4).set_i hgB e5).set_i hgB e6)⟩
   case measure=>simp[intOf];omega
  ·obtain rfl:j=n:=by omega
   go_wp2
   go_ret
   exact⟨rfl,hSw⟩
set_option maxRecDepth 20000 in
set_option maxHeartbeats 2000000 in
theorem shmOr(B:Nat)(X Y:World)(hB0:0<B)(K:Int)(h0K:0≤K)(hK:K≤4611686018427387904)(a:Option Addr)(n c:Nat)(xs:List bK)(w:World)(hX:dN X B a n xs)(hS:cE B X Y w)(hn:n≤1048576):Calls Tryz.prog 89 #[.slice a n c,.int .i64 K] w fun e w'=>e= .returned (.int .i64 (K+13*(n:Int)))∧cE B X Y w':=by
 go_enter Tryz.func89,Tryz.ntmps89
 go_wp2
 go_loopw [1,5] (fun kv i wr=>∃j:Nat,j≤n∧kv= .int .i64 (K+13*(j:Int))∧i= .int .i64 j∧cE B X Y wr) (fun _ i _=>n - (intOf i).toNat)
 case atStart=>exact⟨0,Nat.zero_le _,by simp,rfl,hS⟩
 case round=>
  obtain⟨j,hj,rfl,rfl,hSw⟩:=hrel
  by_cases hlt:j<n
  ·obtain⟨⟨hl,_,hx⟩,hg⟩:=hX
   obtain⟨g,o,rfl,hr⟩:=hx.resolve_left (by omega)
   obtain⟨x,hxj⟩:∃x,xs[j]? =some x:=⟨_,List.getElem?_eq_getElem (by omega)⟩
   obtain⟨e0,e1,e2,e3,e4,e5,e6,e7,e8,e9,e10,e11,e12⟩:=hr j x hxj
   have hbg:=hg g o (by omega) rfl
   have hgB:=hbg.1
   have hgx:=aA e0
   obtain⟨z0,d0⟩:=hSw.ii _ _ _ hgB e0
   have f0:=hSw.fz g (o+j*13) hgB hgx (hbg.free hB0)
   obtain⟨z1,d1⟩:=hSw.ii _ _ _ hgB e1
   have f1:=hSw.fz g (o+j*13+1) hgB hgx (hbg.free hB0)
   obtain⟨z2,d2⟩:=hSw.ii _ _ _ hgB e2
   have f2:=hSw.fz g (o+j*13+2) hgB hgx (hbg.free hB0)
   obtain⟨z3,d3⟩:=hSw.ii _ _ _ hgB e3
   have f3:=hSw.fz g (o+j*13+3) hgB hgx (hbg.free hB0)
   obtain⟨z4,d4⟩:=hSw.ii _ _ _ hgB e4
   have f4:=hSw.fz g (o+j*13+4) hgB hgx (hbg.free hB0)
   obtain⟨z5,d5⟩:=hSw.ii _ _ _ hgB e5
   have f5:=hSw.fz g (o+j*13+5) hgB hgx (hbg.free hB0)
   obtain⟨z6,d6⟩:=hSw.ii _ _ _ hgB e6
   have f6:=hSw.fz g (o+j*13+6) hgB hgx (hbg.free hB0)
   obtain⟨z7,d7⟩:=hSw.ii _ _ _ hgB e7
   have f7:=hSw.fz g (o+j*13+7) hgB hgx (hbg.free hB0)
   obtain⟨z8,d8⟩:=hSw.ii _ _ _ hgB e8
   have f8:=hSw.fz g (o+j*13+8) hgB hgx (hbg.free hB0)
   obtain⟨z9,d9⟩:=hSw.ii _ _ _ hgB e9
   have f9:=hSw.fz g (o+j*13+9) hgB hgx (hbg.free hB0)
   obtain⟨z10,d10⟩:=hSw.ii _ _ _ hgB e10
   have f10:=hSw.fz g (o+j*13+10) hgB hgx (hbg.free hB0)
   obtain⟨z11,d11⟩:=hSw.ii _ _ _ hgB e11
   have f11:=hSw.fz g (o+j*13+11) hgB hgx (hbg.free hB0)
   obtain⟨z12,d12⟩:=hSw.bb _ _ _ hgB e12
   have f12:=hSw.fz g (o+j*13+12) hgB hgx (hbg.free hB0)
   have HE:=ab (And.intro e0 (And.intro e1 (And.intro e2 (And.intro e3 (And.intro e4 (And.intro e5 (And.intro e6 (And.intro e7 (And.intro e8 (And.intro e9 (And.intro e10 (And.intro e11 e12))))))))))))
   have hgW:g<wr.heap.size:=aA d0
   clear e0 e1 e2 e3 e4 e5 e6 e7 e8 e9 e10 e11 e12 hx hr hg hbg hxj hgx
   go_wp2
   go_roundw
   case rel=>
    obtain⟨e0,e1,e2,e3,e4,e5,e6,e7,e8,e9,e10,e11,e12⟩:=aa HE
    exact⟨j+1,by omega,by go_num,by go_num,(((((((((((((hSw.set_i hgB e0).set_i hgB e1).set_i hgB e2).set_i hgB e3).set_i hgB e4).set_i hgB e5).set_i hgB e6).set_i hgB e7).set_i hgB e8).set_i hgB e9).set_i hgB e10).set_i hgB e11).set_b hgB e12)⟩
   case measure=>simp[intOf];omega
  ·obtain rfl:j=n:=by omega
   go_wp2
   go_ret
   exact⟨rfl,hSw⟩
set_option linter.unusedSimpArgs false
theorem cTi_le(xs:List bH)(i:Nat):eV (xs.take i)≤eV xs:=by
 have h:=cTi_app (xs.take i) (xs.drop i)
 rw[List.take_append_drop]at h
 omega
theorem cTi_len(xs:List bH):xs.length≤eV xs:=by
 induction xs with
 |nil=>exact Nat.zero_le _
 |cons x xs ih=>
  show xs.length+1≤(1+(x.q.length))+eV xs
  omega
set_option maxRecDepth 20000 in
set_option maxHeartbeats 4000000 in
theorem shmTi(B:Nat)(X Y:World)(hB0:0<B)(K:Int)(h0K:0≤K)(a:Option Addr)(n c:Nat)(xs:List bH)(w:World)(hX:fC X B a n xs)(hS:cE B X Y w)(hn:eV xs≤1048576)(hK:K+13*(eV xs:Int)≤4611686018427387904):Calls Tryz.prog 88 #[.slice a n c,.int .i64 K] w fun e w'=>(∃v:Int,e= .returned (.int .i64 v)∧0≤v∧v≤K+13*(eV xs:Int))∧cE B X Y w':=by
 have hnl:n≤1048576:=by have h1:=cTi_len xs;have h2:=hX.1;omega
 go_enter Tryz.func88,Tryz.ntmps88
 go_wp2
 go_loopw [1,5] (fun kv i wr=>∃(j:Nat) (v:Int),j≤n∧kv= .int .i64 v∧i= .int .i64 j∧0≤v∧Hid (v≤K+13*(eV (xs.take j):Int))∧cE B X Y wr) (fun _ i _=>n - (intOf i).toNat)
 case atStart=>exact⟨0,K,Nat.zero_le _,rfl,rfl,h0K,ab (by rw[cTi_0];omega),hS⟩
 case round=>
  obtain⟨j,v,hj,rfl,rfl,hv0,HV,hS0⟩:=hrel
  by_cases hlt:j<n
  ·obtain⟨hl,_,hx⟩:=hX
   obtain⟨g,o,rfl,hbg,hr⟩:=hx.resolve_left (by omega)
   obtain⟨x,hxj⟩:∃x,xs[j]? =some x:=⟨_,List.getElem?_eq_getElem (by omega)⟩
   obtain⟨a0,l0,c0,e0,e1,e2,q0,q9⟩:=hr j x hxj
   have hct:=cTi_take hxj
   have hcl:=cTi_le xs (j+1)
   have hl0:x.q.length=l0:=q0.1
   have hvv:=aa HV
   have hvb:v+13*(1+((l0:Nat):Int))≤4611686018427387904:=by omega
   have hsm:l0≤1048576:=by omega
   have HC:=ab (show K+13*(eV (xs.take (j+1)):Int)=K+13*(eV (xs.take j):Int)+13*(1+((l0:Nat):Int)) by omega)
   have HV2:=ab hvv
   have hgB:=hbg.1
   have hgx:=aA e0
   have hfr:∀i,X.frozen? ⟨g,i,none⟩=false:=fun i=>hbg.free hB0
   have HFR:=ab hfr
   have HEE:=ab (And.intro e0 (And.intro e1 e2))
   have hltI:(j:Int)<(n:Int):=by omega
   clear hx hr hxj hct hcl hl0 hvv hbg hfr e0 e1 e2
   obtain⟨e0,e1,e2⟩:=aa HEE
   have d0:=hS0.sl _ _ _ _ _ hgB e0
   have hgW:g<wr.heap.size:=aA d0
   clear e0 e1 e2
   go_wp2_with fail
   refine(shmIw B X Y hB0 (v) (by omega) (by omega) a0 l0 c0 x.q _ ⟨q0,q9⟩ hS0 (by omega)).mono ?_
   rintro e' w1 ⟨rfl,hS1⟩
   clear d0 hgW hS0
   obtain⟨v1,jD⟩:∃v1,v+5*(l0:Int)=v1:=⟨_,rfl⟩
   rw[jD]
   have hb1:0≤v1∧v1≤v+13*(l0:Int):=by omega
   clear jD
   obtain⟨e0,e1,e2⟩:=aa HEE
   obtain⟨y1,d1⟩:=hS1.ii _ _ _ hgB e1
   have f1:=hS1.fz g (o+j*3+1) hgB hgx (aa HFR _)
   obtain⟨y2,d2⟩:=hS1.bb _ _ _ hgB e2
   have f2:=hS1.fz g (o+j*3+2) hgB hgx (aa HFR _)
   have hgW:g<w1.heap.size:=aA d1
   clear e0 e1 e2
   go_wp2
   go_roundw
   case rel=>exact⟨j+1,v1+1+1,by omega,by go_num,by go_num,by omega,ab (by have h1:=aa HC;have h2:=aa HV2;omega),((hS1.set_i hgB (aa HEE).2.1).set_b hgB (aa HEE).2.2)⟩
   case measure=>simp[intOf];omega
  ·have HE:Hid (v≤K+13*(eV xs:Int)):=ab (by have h9:=aa HV;rwa [List.take_of_length_le (by have:=hX.1;omega)]at h9)
   go_wp2
   go_ret
   exact⟨⟨v,rfl,hv0,aa HE⟩,hS0⟩
theorem cTx_le(xs:List cf)(i:Nat):fd (xs.take i)≤fd xs:=by
 have h:=cTx_app (xs.take i) (xs.drop i)
 rw[List.take_append_drop]at h
 omega
theorem cTx_len(xs:List cf):xs.length≤fd xs:=by
 induction xs with
 |nil=>exact Nat.zero_le _
 |cons x xs ih=>
  show xs.length+1≤(1+(x.ps.length+x.ls.length))+fd xs
  omega
set_option maxRecDepth 20000 in
set_option maxHeartbeats 4000000 in
theorem shmTx(B:Nat)(X Y:World)(hB0:0<B)(K:Int)(h0K:0≤K)(a:Option Addr)(n c:Nat)(xs:List cf)(w:World)(hX:eX X B a n xs)(hS:cE B X Y w)(hn:fd xs≤1048576)(hK:K+13*(fd xs:Int)≤4611686018427387904):Calls Tryz.prog 90 #[.slice a n c,.int .i64 K] w fun e w'=>(∃v:Int,e= .returned (.int .i64 v)∧0≤v∧v≤K+13*(fd xs:Int))∧cE B X Y w':=by
 have hnl:n≤1048576:=by have h1:=cTx_len xs;have h2:=hX.1;omega
 go_enter Tryz.func90,Tryz.ntmps90
 go_wp2
 go_loopw [1,5] (fun kv i wr=>∃(j:Nat) (v:Int),j≤n∧kv= .int .i64 v∧i= .int .i64 j∧0≤v∧Hid (v≤K+13*(fd (xs.take j):Int))∧cE B X Y wr) (fun _ i _=>n - (intOf i).toNat)
 case atStart=>exact⟨0,K,Nat.zero_le _,rfl,rfl,h0K,ab (by rw[cTx_0];omega),hS⟩
 case round=>
  obtain⟨j,v,hj,rfl,rfl,hv0,HV,hS0⟩:=hrel
  by_cases hlt:j<n
  ·obtain⟨hl,_,hx⟩:=hX
   obtain⟨g,o,rfl,hbg,hr⟩:=hx.resolve_left (by omega)
   obtain⟨x,hxj⟩:∃x,xs[j]? =some x:=⟨_,List.getElem?_eq_getElem (by omega)⟩
   obtain⟨a1,l1,c1,a2,l2,c2,⟨e0,e1,e2⟩,q1,q2⟩:=hr j x hxj
   have hct:=cTx_take hxj
   have hcl:=cTx_le xs (j+1)
   have hl0:x.ps.length=l1:=q1.len.1
   have hl1:x.ls.length=l2:=q2.len.1
   have hvv:=aa HV
   have hvb:v+13*(1+((l1+l2:Nat):Int))≤4611686018427387904:=by omega
   have hsm:l1+l2≤1048576:=by omega
   have HC:=ab (show K+13*(fd (xs.take (j+1)):Int)=K+13*(fd (xs.take j):Int)+13*(1+((l1+l2:Nat):Int)) by omega)
   have HV2:=ab hvv
   have hgB:=hbg.1
   have hgx:=aA e0
   have hfr:∀i,X.frozen? ⟨g,i,none⟩=false:=fun i=>hbg.free hB0
   have HFR:=ab hfr
   have HEE:=ab (And.intro e0 (And.intro e1 e2))
   have hltI:(j:Int)<(n:Int):=by omega
   clear hx hr hxj hct hcl hl0 hl1 hvv hbg hfr e0 e1 e2
   obtain⟨e0,e1,e2⟩:=aa HEE
   obtain⟨y0,d0⟩:=hS0.ii _ _ _ hgB e0
   have f0:=hS0.fz g (o+j*3) hgB hgx (aa HFR _)
   have d1:=hS0.sl _ _ _ _ _ hgB e1
   have hgW:g<wr.heap.size:=aA d0
   clear e0 e1 e2
   go_wp2_with fail
   refine(shmPn B X Y hB0 (v+1) (by omega) (by omega) a1 l1 c1 x.ps _ q1 (hS0.set_i hgB (aa HEE).1) (by omega)).mono ?_
   rintro e' w1 ⟨rfl,hS1⟩
   clear d0 f0 d1 hgW hS0
   obtain⟨v1,jD⟩:∃v1,v+1+9*(l1:Int)=v1:=⟨_,rfl⟩
   rw[jD]
   have hb1:0≤v1∧v1≤v+1+13*(l1:Int):=by omega
   clear jD
   obtain⟨e0,e1,e2⟩:=aa HEE
   have d2:=hS1.sl _ _ _ _ _ hgB e2
   have hgW:g<w1.heap.size:=aA d2
   clear e0 e1 e2
   go_wp2_with fail
   refine(shmLp B X Y hB0 (v1) (by omega) (by omega) a2 l2 c2 x.ls _ q2 hS1 (by omega)).mono ?_
   rintro e' w2 ⟨rfl,hS2⟩
   clear d2 hgW hS1
   obtain⟨v2,hv2⟩:∃v2,v1+7*(l2:Int)=v2:=⟨_,rfl⟩
   rw[hv2]
   have hb2:0≤v2∧v2≤v1+13*(l2:Int):=by omega
   clear hv2
   go_wp2
   go_roundw
   case rel=>exact⟨j+1,v2,by omega,by go_num,by go_num,by omega,ab (by have h1:=aa HC;have h2:=aa HV2;omega),hS2⟩
   case measure=>simp[intOf];omega
  ·have HE:Hid (v≤K+13*(fd xs:Int)):=ab (by have h9:=aa HV;rwa [List.take_of_length_le (by have:=hX.1;omega)]at h9)
   go_wp2
   go_ret
   exact⟨⟨v,rfl,hv0,aa HE⟩,hS0⟩
theorem cTk_le(xs:List dr)(i:Nat):fD (xs.take i)≤fD xs:=by
 have h:=cTk_app (xs.take i) (xs.drop i)
 rw[List.take_append_drop]at h
 omega
theorem cTk_len(xs:List dr):xs.length≤fD xs:=by
 induction xs with
 |nil=>exact Nat.zero_le _
 |cons x xs ih=>
  show xs.length+1≤(1+(eV x.ins+x.rows.length+(x.ps.length+x.ls.length)))+fD xs
  omega
set_option maxRecDepth 20000 in
set_option maxHeartbeats 4000000 in
theorem shmTk(B:Nat)(X Y:World)(hB0:0<B)(K:Int)(h0K:0≤K)(a:Option Addr)(n c:Nat)(xs:List dr)(w:World)(hX:eQ X B a n xs)(hS:cE B X Y w)(hn:fD xs≤1048576)(hK:K+13*(fD xs:Int)≤4611686018427387904):Calls Tryz.prog 47 #[.slice a n c,.int .i64 K] w fun e w'=>(∃v:Int,e= .returned (.int .i64 v)∧0≤v∧v≤K+13*(fD xs:Int))∧cE B X Y w':=by
 have hnl:n≤1048576:=by have h1:=cTk_len xs;have h2:=hX.1;omega
 go_enter Tryz.func47,Tryz.ntmps47
 go_wp2
 go_loopw [1,5] (fun kv i wr=>∃(j:Nat) (v:Int),j≤n∧kv= .int .i64 v∧i= .int .i64 j∧0≤v∧Hid (v≤K+13*(fD (xs.take j):Int))∧cE B X Y wr) (fun _ i _=>n - (intOf i).toNat)
 case atStart=>exact⟨0,K,Nat.zero_le _,rfl,rfl,h0K,ab (by rw[cTk_0];omega),hS⟩
 case round=>
  obtain⟨j,v,hj,rfl,rfl,hv0,HV,hS0⟩:=hrel
  by_cases hlt:j<n
  ·obtain⟨hl,_,hx⟩:=hX
   obtain⟨g,o,rfl,hbg,hr⟩:=hx.resolve_left (by omega)
   obtain⟨x,hxj⟩:∃x,xs[j]? =some x:=⟨_,List.getElem?_eq_getElem (by omega)⟩
   obtain⟨a0,l0,c0,a2,l2,c2,a5,l5,c5,a6,l6,c6,⟨e0,e1,e2,e3,e4,e5,e6⟩,q0,q2,q5,q6⟩:=hr j x hxj
   have hct:=cTk_take hxj
   have hcl:=cTk_le xs (j+1)
   have hl0:x.rows.length=l2:=q2.len.1
   have hl1:x.ps.length=l5:=q5.len.1
   have hl2:x.ls.length=l6:=q6.len.1
   have hvv:=aa HV
   have hvb:v+13*(1+((eV x.ins+l2+(l5+l6):Nat):Int))≤4611686018427387904:=by omega
   have hsm:eV x.ins+l2+(l5+l6)≤1048576:=by omega
   have HC:=ab (show K+13*(fD (xs.take (j+1)):Int)=K+13*(fD (xs.take j):Int)+13*(1+((eV x.ins+l2+(l5+l6):Nat):Int)) by omega)
   have HV2:=ab hvv
   have hgB:=hbg.1
   have hgx:=aA e0
   have hfr:∀i,X.frozen? ⟨g,i,none⟩=false:=fun i=>hbg.free hB0
   have HFR:=ab hfr
   have HEE:=ab (And.intro e0 (And.intro e1 (And.intro e2 (And.intro e3 (And.intro e4 (And.intro e5 e6))))))
   have hltI:(j:Int)<(n:Int):=by omega
   clear hx hr hxj hct hcl hl0 hl1 hl2 hvv hbg hfr e0 e1 e2 e3 e4 e5 e6
   obtain⟨e0,e1,e2,e3,e4,e5,e6⟩:=aa HEE
   have d0:=hS0.sl _ _ _ _ _ hgB e0
   have hgW:g<wr.heap.size:=aA d0
   clear e0 e1 e2 e3 e4 e5 e6
   go_wp2_with fail
   refine(shmTi B X Y hB0 (v) (by omega) a0 l0 c0 x.ins _ q0 hS0 (by omega) (by omega)).mono ?_
   rintro e' w1 ⟨⟨v1,rfl,hba1,hbb1⟩,hS1⟩
   have hb1:=And.intro hba1 hbb1
   clear d0 hgW hS0 hba1 hbb1
   obtain⟨e0,e1,e2,e3,e4,e5,e6⟩:=aa HEE
   obtain⟨y1,d1⟩:=hS1.ii _ _ _ hgB e1
   have f1:=hS1.fz g (o+j*7+1) hgB hgx (aa HFR _)
   have d2:=hS1.sl _ _ _ _ _ hgB e2
   have hgW:g<w1.heap.size:=aA d1
   clear e0 e1 e2 e3 e4 e5 e6
   go_wp2_with fail
   refine(shmOr B X Y hB0 (v1+1) (by omega) (by omega) a2 l2 c2 x.rows _ q2 (hS1.set_i hgB (aa HEE).2.1) (by omega)).mono ?_
   rintro e' w2 ⟨rfl,hS2⟩
   clear d1 f1 d2 hgW hS1
   obtain⟨v2,hv2⟩:∃v2,v1+1+13*(l2:Int)=v2:=⟨_,rfl⟩
   rw[hv2]
   have hb2:0≤v2∧v2≤v1+1+13*(l2:Int):=by omega
   clear hv2
   obtain⟨e0,e1,e2,e3,e4,e5,e6⟩:=aa HEE
   obtain⟨y3,d3⟩:=hS2.ii _ _ _ hgB e3
   have f3:=hS2.fz g (o+j*7+3) hgB hgx (aa HFR _)
   obtain⟨y4,d4⟩:=hS2.ii _ _ _ hgB e4
   have f4:=hS2.fz g (o+j*7+4) hgB hgx (aa HFR _)
   have d5:=hS2.sl _ _ _ _ _ hgB e5
   have hgW:g<w2.heap.size:=aA d3
   clear e0 e1 e2 e3 e4 e5 e6
   go_wp2_with fail
   refine(shmPn B X Y hB0 (v2+1+1) (by omega) (by omega) a5 l5 c5 x.ps _ q5 ((hS2.set_i hgB (aa HEE).2.2.2.1).set_i hgB (aa HEE).2.2.2.2.1) (by omega)).mono ?_
   rintro e' w3 ⟨rfl,hS3⟩
   clear d3 f3 d4 f4 d5 hgW hS2
   obtain⟨v3,hv3⟩:∃v3,v2+1+1+9*(l5:Int)=v3:=⟨_,rfl⟩
   rw[hv3]
   have hb3:0≤v3∧v3≤v2+1+1+13*(l5:Int):=by omega
   clear hv3
   obtain⟨e0,e1,e2,e3,e4,e5,e6⟩:=aa HEE
   have d6:=hS3.sl _ _ _ _ _ hgB e6
   have hgW:g<w3.heap.size:=aA d6
   clear e0 e1 e2 e3 e4 e5 e6
   go_wp2_with fail
   refine(shmLp B X Y hB0 (v3) (by omega) (by omega) a6 l6 c6 x.ls _ q6 hS3 (by omega)).mono ?_
   rintro e' w4 ⟨rfl,hS4⟩
   clear d6 hgW hS3
   obtain⟨v4,hv4⟩:∃v4,v3+7*(l6:Int)=v4:=⟨_,rfl⟩
   rw[hv4]
   have hb4:0≤v4∧v4≤v3+13*(l6:Int):=by omega
   clear hv4
   go_wp2
   go_roundw
   case rel=>exact⟨j+1,v4,by omega,by go_num,by go_num,by omega,ab (by have h1:=aa HC;have h2:=aa HV2;omega),hS4⟩
   case measure=>simp[intOf];omega
  ·have HE:Hid (v≤K+13*(fD xs:Int)):=ab (by have h9:=aa HV;rwa [List.take_of_length_le (by have:=hX.1;omega)]at h9)
   go_wp2
   go_ret
   exact⟨⟨v,rfl,hv0,aa HE⟩,hS0⟩
theorem cSk_le(xs:List bC)(i:Nat):fE (xs.take i)≤fE xs:=by
 have h:=cSk_app (xs.take i) (xs.drop i)
 rw[List.take_append_drop]at h
 omega
theorem cSk_len(xs:List bC):xs.length≤fE xs:=by
 induction xs with
 |nil=>exact Nat.zero_le _
 |cons x xs ih=>
  show xs.length+1≤(1+(fd x.rd+x.ps.length+x.ls.length))+fE xs
  omega
set_option maxRecDepth 20000 in
set_option maxHeartbeats 4000000 in
theorem shmSk(B:Nat)(X Y:World)(hB0:0<B)(K:Int)(h0K:0≤K)(a:Option Addr)(n c:Nat)(xs:List bC)(w:World)(hX:fa X B a n xs)(hS:cE B X Y w)(hn:fE xs≤1048576)(hK:K+13*(fE xs:Int)≤4611686018427387904):Calls Tryz.prog 48 #[.slice a n c,.int .i64 K] w fun e w'=>(∃v:Int,e= .returned (.int .i64 v)∧0≤v∧v≤K+13*(fE xs:Int))∧cE B X Y w':=by
 have hnl:n≤1048576:=by have h1:=cSk_len xs;have h2:=hX.1;omega
 go_enter Tryz.func48,Tryz.ntmps48
 go_wp2
 go_loopw [1,5] (fun kv i wr=>∃(j:Nat) (v:Int),j≤n∧kv= .int .i64 v∧i= .int .i64 j∧0≤v∧Hid (v≤K+13*(fE (xs.take j):Int))∧cE B X Y wr) (fun _ i _=>n - (intOf i).toNat)
 case atStart=>exact⟨0,K,Nat.zero_le _,rfl,rfl,h0K,ab (by rw[cSk_0];omega),hS⟩
 case round=>
  obtain⟨j,v,hj,rfl,rfl,hv0,HV,hS0⟩:=hrel
  by_cases hlt:j<n
  ·obtain⟨hl,_,hx⟩:=hX
   obtain⟨g,o,rfl,hbg,hr⟩:=hx.resolve_left (by omega)
   obtain⟨x,hxj⟩:∃x,xs[j]? =some x:=⟨_,List.getElem?_eq_getElem (by omega)⟩
   obtain⟨a0,l0,c0,a2,l2,c2,a3,l3,c3,⟨e0,e1,e2,e3⟩,q0,q2,q3⟩:=hr j x hxj
   have hct:=cSk_take hxj
   have hcl:=cSk_le xs (j+1)
   have hl0:x.ps.length=l2:=q2.len.1
   have hl1:x.ls.length=l3:=q3.len.1
   have hvv:=aa HV
   have hvb:v+13*(1+((fd x.rd+l2+l3:Nat):Int))≤4611686018427387904:=by omega
   have hsm:fd x.rd+l2+l3≤1048576:=by omega
   have HC:=ab (show K+13*(fE (xs.take (j+1)):Int)=K+13*(fE (xs.take j):Int)+13*(1+((fd x.rd+l2+l3:Nat):Int)) by omega)
   have HV2:=ab hvv
   have hgB:=hbg.1
   have hgx:=aA e0
   have hfr:∀i,X.frozen? ⟨g,i,none⟩=false:=fun i=>hbg.free hB0
   have HFR:=ab hfr
   have HEE:=ab (And.intro e0 (And.intro e1 (And.intro e2 e3)))
   have hltI:(j:Int)<(n:Int):=by omega
   clear hx hr hxj hct hcl hl0 hl1 hvv hbg hfr e0 e1 e2 e3
   obtain⟨e0,e1,e2,e3⟩:=aa HEE
   have d0:=hS0.sl _ _ _ _ _ hgB e0
   have hgW:g<wr.heap.size:=aA d0
   clear e0 e1 e2 e3
   go_wp2_with fail
   refine(shmTx B X Y hB0 (v) (by omega) a0 l0 c0 x.rd _ q0 hS0 (by omega) (by omega)).mono ?_
   rintro e' w1 ⟨⟨v1,rfl,hba1,hbb1⟩,hS1⟩
   have hb1:=And.intro hba1 hbb1
   clear d0 hgW hS0 hba1 hbb1
   obtain⟨e0,e1,e2,e3⟩:=aa HEE
   obtain⟨y1,d1⟩:=hS1.ii _ _ _ hgB e1
   have f1:=hS1.fz g (o+j*4+1) hgB hgx (aa HFR _)
   have d2:=hS1.sl _ _ _ _ _ hgB e2
   have hgW:g<w1.heap.size:=aA d1
   clear e0 e1 e2 e3
   go_wp2_with fail
   refine(shmPn B X Y hB0 (v1+1) (by omega) (by omega) a2 l2 c2 x.ps _ q2 (hS1.set_i hgB (aa HEE).2.1) (by omega)).mono ?_
   rintro e' w2 ⟨rfl,hS2⟩
   clear d1 f1 d2 hgW hS1
   obtain⟨v2,hv2⟩:∃v2,v1+1+9*(l2:Int)=v2:=⟨_,rfl⟩
   rw[hv2]
   have hb2:0≤v2∧v2≤v1+1+13*(l2:Int):=by omega
   clear hv2
   obtain⟨e0,e1,e2,e3⟩:=aa HEE
   have d3:=hS2.sl _ _ _ _ _ hgB e3
   have hgW:g<w2.heap.size:=aA d3
   clear e0 e1 e2 e3
   go_wp2_with fail
   refine(shmLp B X Y hB0 (v2) (by omega) (by omega) a3 l3 c3 x.ls _ q3 hS2 (by omega)).mono ?_
   rintro e' w3 ⟨rfl,hS3⟩
   clear d3 hgW hS2
   obtain⟨v3,hv3⟩:∃v3,v2+7*(l3:Int)=v3:=⟨_,rfl⟩
   rw[hv3]
   have hb3:0≤v3∧v3≤v2+13*(l3:Int):=by omega
   clear hv3
   go_wp2
   go_roundw
   case rel=>exact⟨j+1,v3,by omega,by go_num,by go_num,by omega,ab (by have h1:=aa HC;have h2:=aa HV2;omega),hS3⟩
   case measure=>simp[intOf];omega
  ·have HE:Hid (v≤K+13*(fE xs:Int)):=ab (by have h9:=aa HV;rwa [List.take_of_length_le (by have:=hX.1;omega)]at h9)
   go_wp2
   go_ret
   exact⟨⟨v,rfl,hv0,aa HE⟩,hS0⟩
theorem cSn_le(xs:List cD)(i:Nat):di (xs.take i)≤di xs:=by
 have h:=cSn_app (xs.take i) (xs.drop i)
 rw[List.take_append_drop]at h
 omega
theorem cSn_len(xs:List cD):xs.length≤di xs:=by
 induction xs with
 |nil=>exact Nat.zero_le _
 |cons x xs ih=>
  show xs.length+1≤(1+(x.rows.length+x.marks.length))+di xs
  omega
set_option maxRecDepth 20000 in
set_option maxHeartbeats 4000000 in
theorem shmSn(B:Nat)(X Y:World)(hB0:0<B)(K:Int)(h0K:0≤K)(a:Option Addr)(n c:Nat)(xs:List cD)(w:World)(hX:bE X B a n xs)(hS:cE B X Y w)(hn:di xs≤1048576)(hK:K+13*(di xs:Int)≤4611686018427387904):Calls Tryz.prog 93 #[.slice a n c,.int .i64 K] w fun e w'=>(∃v:Int,e= .returned (.int .i64 v)∧0≤v∧v≤K+13*(di xs:Int))∧cE B X Y w':=by
 have hnl:n≤1048576:=by have h1:=cSn_len xs;have h2:=hX.1;omega
 go_enter Tryz.func93,Tryz.ntmps93
 go_wp2
 go_loopw [1,5] (fun kv i wr=>∃(j:Nat) (v:Int),j≤n∧kv= .int .i64 v∧i= .int .i64 j∧0≤v∧Hid (v≤K+13*(di (xs.take j):Int))∧cE B X Y wr) (fun _ i _=>n - (intOf i).toNat)
 case atStart=>exact⟨0,K,Nat.zero_le _,rfl,rfl,h0K,ab (by rw[cSn_0];omega),hS⟩
 case round=>
  obtain⟨j,v,hj,rfl,rfl,hv0,HV,hS0⟩:=hrel
  by_cases hlt:j<n
  ·obtain⟨hl,_,hx⟩:=hX
   obtain⟨g,o,rfl,hbg,hr⟩:=hx.resolve_left (by omega)
   obtain⟨x,hxj⟩:∃x,xs[j]? =some x:=⟨_,List.getElem?_eq_getElem (by omega)⟩
   obtain⟨a1,l1,c1,a2,l2,c2,⟨e0,e1,e2⟩,q1,q2⟩:=hr j x hxj
   have hct:=cSn_take hxj
   have hcl:=cSn_le xs (j+1)
   have hl0:x.rows.length=l1:=q1.len.1
   have hl1:x.marks.length=l2:=q2.len.1
   have hvv:=aa HV
   have hvb:v+13*(1+((l1+l2:Nat):Int))≤4611686018427387904:=by omega
   have hsm:l1+l2≤1048576:=by omega
   have HC:=ab (show K+13*(di (xs.take (j+1)):Int)=K+13*(di (xs.take j):Int)+13*(1+((l1+l2:Nat):Int)) by omega)
   have HV2:=ab hvv
   have hgB:=hbg.1
   have hgx:=aA e0
   have hfr:∀i,X.frozen? ⟨g,i,none⟩=false:=fun i=>hbg.free hB0
   have HFR:=ab hfr
   have HEE:=ab (And.intro e0 (And.intro e1 e2))
   have hltI:(j:Int)<(n:Int):=by omega
   clear hx hr hxj hct hcl hl0 hl1 hvv hbg hfr e0 e1 e2
   obtain⟨e0,e1,e2⟩:=aa HEE
   obtain⟨y0,d0⟩:=hS0.ii _ _ _ hgB e0
   have f0:=hS0.fz g (o+j*3) hgB hgx (aa HFR _)
   have d1:=hS0.sl _ _ _ _ _ hgB e1
   have hgW:g<wr.heap.size:=aA d0
   clear e0 e1 e2
   go_wp2_with fail
   refine(shmOr B X Y hB0 (v+1) (by omega) (by omega) a1 l1 c1 x.rows _ q1 (hS0.set_i hgB (aa HEE).1) (by omega)).mono ?_
   rintro e' w1 ⟨rfl,hS1⟩
   clear d0 f0 d1 hgW hS0
   obtain⟨v1,jD⟩:∃v1,v+1+13*(l1:Int)=v1:=⟨_,rfl⟩
   rw[jD]
   have hb1:0≤v1∧v1≤v+1+13*(l1:Int):=by omega
   clear jD
   obtain⟨e0,e1,e2⟩:=aa HEE
   have d2:=hS1.sl _ _ _ _ _ hgB e2
   have hgW:g<w1.heap.size:=aA d2
   clear e0 e1 e2
   go_wp2_with fail
   refine(shmIn B X Y hB0 (v1) (by omega) (by omega) a2 l2 c2 x.marks _ q2 hS1 (by omega)).mono ?_
   rintro e' w2 ⟨rfl,hS2⟩
   clear d2 hgW hS1
   obtain⟨v2,hv2⟩:∃v2,v1+1*(l2:Int)=v2:=⟨_,rfl⟩
   rw[hv2]
   have hb2:0≤v2∧v2≤v1+13*(l2:Int):=by omega
   clear hv2
   go_wp2
   go_roundw
   case rel=>exact⟨j+1,v2,by omega,by go_num,by go_num,by omega,ab (by have h1:=aa HC;have h2:=aa HV2;omega),hS2⟩
   case measure=>simp[intOf];omega
  ·have HE:Hid (v≤K+13*(di xs:Int)):=ab (by have h9:=aa HV;rwa [List.take_of_length_le (by have:=hX.1;omega)]at h9)
   go_wp2
   go_ret
   exact⟨⟨v,rfl,hv0,aa HE⟩,hS0⟩
theorem cLg_le(xs:List bS)(i:Nat):fl (xs.take i)≤fl xs:=by
 have h:=cLg_app (xs.take i) (xs.drop i)
 rw[List.take_append_drop]at h
 omega
theorem cLg_len(xs:List bS):xs.length≤fl xs:=by
 induction xs with
 |nil=>exact Nat.zero_le _
 |cons x xs ih=>
  show xs.length+1≤(1+(x.q.length))+fl xs
  omega
set_option maxRecDepth 20000 in
set_option maxHeartbeats 4000000 in
theorem shmLg(B:Nat)(X Y:World)(hB0:0<B)(K:Int)(h0K:0≤K)(a:Option Addr)(n c:Nat)(xs:List bS)(w:World)(hX:ep X B a n xs)(hS:cE B X Y w)(hn:fl xs≤1048576)(hK:K+13*(fl xs:Int)≤4611686018427387904):Calls Tryz.prog 45 #[.slice a n c,.int .i64 K] w fun e w'=>(∃v:Int,e= .returned (.int .i64 v)∧0≤v∧v≤K+13*(fl xs:Int))∧cE B X Y w':=by
 have hnl:n≤1048576:=by have h1:=cLg_len xs;have h2:=hX.1;omega
 go_enter Tryz.func45,Tryz.ntmps45
 go_wp2
 go_loopw [1,5] (fun kv i wr=>∃(j:Nat) (v:Int),j≤n∧kv= .int .i64 v∧i= .int .i64 j∧0≤v∧Hid (v≤K+13*(fl (xs.take j):Int))∧cE B X Y wr) (fun _ i _=>n - (intOf i).toNat)
 case atStart=>exact⟨0,K,Nat.zero_le _,rfl,rfl,h0K,ab (by rw[cLg_0];omega),hS⟩
 case round=>
  obtain⟨j,v,hj,rfl,rfl,hv0,HV,hS0⟩:=hrel
  by_cases hlt:j<n
  ·obtain⟨hl,_,hx⟩:=hX
   obtain⟨g,o,rfl,hbg,hr⟩:=hx.resolve_left (by omega)
   obtain⟨x,hxj⟩:∃x,xs[j]? =some x:=⟨_,List.getElem?_eq_getElem (by omega)⟩
   obtain⟨a0,l0,c0,e0,q0⟩:=hr j x hxj
   rw[Nat.mul_one]at e0
   have hct:=cLg_take hxj
   have hcl:=cLg_le xs (j+1)
   have hl0:x.q.length=l0:=q0.len.1
   have hvv:=aa HV
   have hvb:v+13*(1+((l0:Nat):Int))≤4611686018427387904:=by omega
   have hsm:l0≤1048576:=by omega
   have HC:=ab (show K+13*(fl (xs.take (j+1)):Int)=K+13*(fl (xs.take j):Int)+13*(1+((l0:Nat):Int)) by omega)
   have HV2:=ab hvv
   have hgB:=hbg.1
   have hgx:=aA e0
   have hfr:∀i,X.frozen? ⟨g,i,none⟩=false:=fun i=>hbg.free hB0
   have HFR:=ab hfr
   have HEE:=ab (e0)
   have hltI:(j:Int)<(n:Int):=by omega
   clear hx hr hxj hct hcl hl0 hvv hbg hfr e0
   have e0:=aa HEE
   have d0:=hS0.sl _ _ _ _ _ hgB e0
   have hgW:g<wr.heap.size:=aA d0
   clear e0
   go_wp2_with fail
   refine(shmIw B X Y hB0 (v) (by omega) (by omega) a0 l0 c0 x.q _ q0 hS0 (by omega)).mono ?_
   rintro e' w1 ⟨rfl,hS1⟩
   clear d0 hgW hS0
   obtain⟨v1,jD⟩:∃v1,v+5*(l0:Int)=v1:=⟨_,rfl⟩
   rw[jD]
   have hb1:0≤v1∧v1≤v+13*(l0:Int):=by omega
   clear jD
   go_wp2
   go_roundw
   case rel=>exact⟨j+1,v1,by omega,by go_num,by go_num,by omega,ab (by have h1:=aa HC;have h2:=aa HV2;omega),hS1⟩
   case measure=>simp[intOf];omega
  ·have HE:Hid (v≤K+13*(fl xs:Int)):=ab (by have h9:=aa HV;rwa [List.take_of_length_le (by have:=hX.1;omega)]at h9)
   go_wp2
   go_ret
   exact⟨⟨v,rfl,hv0,aa HE⟩,hS0⟩
set_option linter.unusedSimpArgs false
attribute [local go_sem ↓] dJ
attribute [local go_sem ↓] dS
attribute [local go_sem ↓] eM
set_option maxRecDepth 20000 in
set_option maxHeartbeats 8000000 in
theorem shmCs(B:Nat)(X Y:World)(hB0:0<B)(K:Int)(h0K:0≤K)(x:fW)(a20:Option Addr)(l20 c20:Nat)(a21:Option Addr)(l21 c21:Nat)(w:World)(h20:bn X B a20 l20 x.at_)(h21:bE X B a21 l21 x.ssn)(hS:cE B X Y w)(m20:l20≤1048576)(m21:di x.ssn≤1048576)(hK:K+13*((l20+di x.ssn:Nat):Int)≤4611686018427387904):Calls Tryz.prog 94 #[.agg #[.int .i64 x.sfn,.slice a20 l20 c20,.slice a21 l21 c21],.int .i64 K] w fun e w'=>(∃v:Int,e= .returned (.int .i64 v)∧0≤v∧v≤K+13*((l20+di x.ssn:Nat):Int))∧cE B X Y w':=by
 have hbA:Below w.heap.size w (w.alloc (.cells #[.int .i64 x.sfn,.slice a20 l20 c20,.slice a21 l21 c21] 47)):=ai _ _
 have bA:(w.alloc (.cells #[.int .i64 x.sfn,.slice a20 l20 c20,.slice a21 l21 c21] 47)).heap[w.heap.size]? =some (.cells #[.int .i64 x.sfn,.slice a20 l20 c20,.slice a21 l21 c21] 47 (0,0)):=aR _ _ _
 have hS0:=(hS.bel hbA).re
 have hST:=ab (hS.bel hbA)
 have zB:X.heap.size≤w.heap.size:=Nat.le_trans hS.low hS.size
 go_enter Tryz.func94,Tryz.ntmps94
 go_upto_region 1 with fail
 generalize w.alloc (.cells #[.int .i64 x.sfn,.slice a20 l20 c20,.slice a21 l21 c21] 47)=W0 at hS0 hST bA ⊢
 clear hS hbA
 have ca1:=cA bA 1
 simp only[gA,gZ,gS]at ca1
 go_wp2_with fail
 clear ca1
 refine(shmIn B X W0 hB0 K (by omega) (by omega) a20 l20 c20 x.at_ _ h20 hS0 m20).mono ?_
 rintro e' y0 ⟨rfl,hS1⟩
 obtain⟨v0,hv0⟩:∃v0,K+1*(l20:Int)=v0:=⟨_,rfl⟩
 rw[hv0]
 have hb0:0≤v0∧v0≤K+13*((l20:Int)):=by omega
 clear hv0
 have bA0:=(hS1.old _ (ao bA) (Or.inr zB)).trans bA
 have ca2:=cA bA0 2
 simp only[gA,gZ,gS]at ca2
 go_wp2_with fail
 clear ca2
 refine(shmSn B X W0 hB0 v0 (by omega) a21 l21 c21 x.ssn _ h21 hS1 m21 (by omega)).mono ?_
 rintro e' y1 ⟨⟨v1,rfl,hb1⟩,hS2⟩
 have bA1:=(hS2.old _ (ao bA) (Or.inr zB)).trans bA
 clear bA0 hS1
 go_wp2
 go_ret
 exact⟨⟨v1,rfl,by omega,by omega⟩,(aa hST).tr hS2⟩
set_option maxRecDepth 20000 in
set_option maxHeartbeats 8000000 in
theorem shmCk(B:Nat)(X Y:World)(hB0:0<B)(K:Int)(h0K:0≤K)(x:fW)(a16:Option Addr)(l16 c16:Nat)(a17:Option Addr)(l17 c17:Nat)(a18:Option Addr)(l18 c18:Nat)(a20:Option Addr)(l20 c20:Nat)(a21:Option Addr)(l21 c21:Nat)(w:World)(h16:bn X B a16 l16 x.src)(h17:dO X B a17 l17 x.tsk)(h18:bE X B a18 l18 x.sn)(h20:bn X B a20 l20 x.at_)(h21:bE X B a21 l21 x.ssn)(hS:cE B X Y w)(m16:l16≤1048576)(m17:l17≤1048576)(m18:di x.sn≤1048576)(m20:l20≤1048576)(m21:di x.ssn≤1048576)(hK:K+13*((l16+l17+di x.sn+(l20+di x.ssn):Nat):Int)≤4611686018427387904):Calls Tryz.prog 49 #[.agg #[.int .i64 x.n,.bool x.op,.slice a16 l16 c16,.slice a17 l17 c17,.slice a18 l18 c18,.int .i64 x.sfn,.slice a20 l20 c20,.slice a21 l21 c21],.int .i64 K] w fun e w'=>(∃v:Int,e= .returned (.int .i64 v)∧0≤v∧v≤K+13*((l16+l17+di x.sn+(l20+di x.ssn):Nat):Int))∧cE B X Y w':=by
 have hbA:Below w.heap.size w (w.alloc (.cells #[.int .i64 x.n,.bool x.op,.slice a16 l16 c16,.slice a17 l17 c17,.slice a18 l18 c18,.int .i64 x.sfn,.slice a20 l20 c20,.slice a21 l21 c21] 49)):=ai _ _
 have bA:(w.alloc (.cells #[.int .i64 x.n,.bool x.op,.slice a16 l16 c16,.slice a17 l17 c17,.slice a18 l18 c18,.int .i64 x.sfn,.slice a20 l20 c20,.slice a21 l21 c21] 49)).heap[w.heap.size]? =some (.cells #[.int .i64 x.n,.bool x.op,.slice a16 l16 c16,.slice a17 l17 c17,.slice a18 l18 c18,.int .i64 x.sfn,.slice a20 l20 c20,.slice a21 l21 c21] 49 (0,0)):=aR _ _ _
 have hS0:=(hS.bel hbA).re
 have hST:=ab (hS.bel hbA)
 have zB:X.heap.size≤w.heap.size:=Nat.le_trans hS.low hS.size
 go_enter Tryz.func49,Tryz.ntmps49
 go_upto_region 1 with fail
 generalize w.alloc (.cells #[.int .i64 x.n,.bool x.op,.slice a16 l16 c16,.slice a17 l17 c17,.slice a18 l18 c18,.int .i64 x.sfn,.slice a20 l20 c20,.slice a21 l21 c21] 49)=W0 at hS0 hST bA ⊢
 clear hS hbA
 have ca2:=cA bA 2
 simp only[gA,gZ,gS]at ca2
 go_wp2_with fail
 clear ca2
 refine(shmIn B X W0 hB0 K (by omega) (by omega) a16 l16 c16 x.src _ h16 hS0 m16).mono ?_
 rintro e' y0 ⟨rfl,hS1⟩
 obtain⟨v0,hv0⟩:∃v0,K+1*(l16:Int)=v0:=⟨_,rfl⟩
 rw[hv0]
 have hb0:0≤v0∧v0≤K+13*((l16:Int)):=by omega
 clear hv0
 have bA0:=(hS1.old _ (ao bA) (Or.inr zB)).trans bA
 have ca3:=cA bA0 3
 simp only[gA,gZ,gS]at ca3
 go_wp2_with fail
 clear ca3
 refine(shmBo B X W0 hB0 v0 (by omega) (by omega) a17 l17 c17 x.tsk _ h17 hS1 m17).mono ?_
 rintro e' y1 ⟨rfl,hS2⟩
 obtain⟨v1,jD⟩:∃v1,v0+1*(l17:Int)=v1:=⟨_,rfl⟩
 rw[jD]
 have hb1:0≤v1∧v1≤v0+13*((l17:Int)):=by omega
 clear jD
 have bA1:=(hS2.old _ (ao bA) (Or.inr zB)).trans bA
 clear bA0 hS1
 have ca4:=cA bA1 4
 simp only[gA,gZ,gS]at ca4
 go_wp2_with fail
 clear ca4
 refine(shmSn B X W0 hB0 v1 (by omega) a18 l18 c18 x.sn _ h18 hS2 m18 (by omega)).mono ?_
 rintro e' y2 ⟨⟨v2,rfl,hb2⟩,hS3⟩
 have bA2:=(hS3.old _ (ao bA) (Or.inr zB)).trans bA
 clear bA1 hS2
 have ca5:=cA bA2 5
 have ca6:=cA bA2 6
 have ca7:=cA bA2 7
 simp only[gA,gZ,gS]at ca5 ca6 ca7
 go_wp2_with fail
 clear ca5 ca6 ca7
 refine(shmCs B X W0 hB0 v2 (by omega) x a20 l20 c20 a21 l21 c21 _ h20 h21 hS3 m20 m21 (by omega)).mono ?_
 rintro e' y3 ⟨⟨v3,rfl,hb3⟩,hS4⟩
 have bA3:=(hS4.old _ (ao bA) (Or.inr zB)).trans bA
 clear bA2 hS3
 go_wp2
 go_ret
 exact⟨⟨v3,rfl,by omega,by omega⟩,(aa hST).tr hS4⟩
set_option maxRecDepth 20000 in
set_option maxHeartbeats 8000000 in
theorem shmFl(B:Nat)(X Y:World)(hB0:0<B)(K:Int)(h0K:0≤K)(x:fW)(a10:Option Addr)(l10 c10:Nat)(a11:Option Addr)(l11 c11:Nat)(a12:Option Addr)(l12 c12:Nat)(a13:Option Addr)(l13 c13:Nat)(a16:Option Addr)(l16 c16:Nat)(a17:Option Addr)(l17 c17:Nat)(a18:Option Addr)(l18 c18:Nat)(a20:Option Addr)(l20 c20:Nat)(a21:Option Addr)(l21 c21:Nat)(w:World)(h:FlIs X B a10 l10 a11 l11 a12 l12 a13 l13 a16 l16 a17 l17 a18 l18 a20 l20 a21 l21 x)(hS:cE B X Y w)(hc:fl x.logs+l11+fD x.tks+fE x.sks+(l16+l17+di x.sn+(l20+di x.ssn))≤1048576)(hK:K+13*((fl x.logs+l11+fD x.tks+fE x.sks+(l16+l17+di x.sn+(l20+di x.ssn)):Nat):Int)≤4611686018427387904):Calls Tryz.prog 12 #[.agg #[.int .i64 x.s,.int .i64 x.t,.int .i64 x.k,.int .i64 x.z,.int .i64 x.p,.int .i64 x.l,.int .i64 x.e,.bool x.b,.int .i64 x.v,.int .i64 x.r,.slice a10 l10 c10,.slice a11 l11 c11,.slice a12 l12 c12,.slice a13 l13 c13,.int .i64 x.n,.bool x.op,.slice a16 l16 c16,.slice a17 l17 c17,.slice a18 l18 c18,.int .i64 x.sfn,.slice a20 l20 c20,.slice a21 l21 c21],.int .i64 K] w fun e w'=>(∃v:Int,e= .returned (.int .i64 v)∧0≤v∧v≤K+13*((fl x.logs+l11+fD x.tks+fE x.sks+(l16+l17+di x.sn+(l20+di x.ssn)):Nat):Int))∧cE B X Y w':=by
 have hbA:Below w.heap.size w (w.alloc (.cells #[.int .i64 x.s,.int .i64 x.t,.int .i64 x.k,.int .i64 x.z,.int .i64 x.p,.int .i64 x.l,.int .i64 x.e,.bool x.b,.int .i64 x.v,.int .i64 x.r,.slice a10 l10 c10,.slice a11 l11 c11,.slice a12 l12 c12,.slice a13 l13 c13,.int .i64 x.n,.bool x.op,.slice a16 l16 c16,.slice a17 l17 c17,.slice a18 l18 c18,.int .i64 x.sfn,.slice a20 l20 c20,.slice a21 l21 c21] 51)):=ai _ _
 have bA:(w.alloc (.cells #[.int .i64 x.s,.int .i64 x.t,.int .i64 x.k,.int .i64 x.z,.int .i64 x.p,.int .i64 x.l,.int .i64 x.e,.bool x.b,.int .i64 x.v,.int .i64 x.r,.slice a10 l10 c10,.slice a11 l11 c11,.slice a12 l12 c12,.slice a13 l13 c13,.int .i64 x.n,.bool x.op,.slice a16 l16 c16,.slice a17 l17 c17,.slice a18 l18 c18,.int .i64 x.sfn,.slice a20 l20 c20,.slice a21 l21 c21] 51)).heap[w.heap.size]? =some (.cells #[.int .i64 x.s,.int .i64 x.t,.int .i64 x.k,.int .i64 x.z,.int .i64 x.p,.int .i64 x.l,.int .i64 x.e,.bool x.b,.int .i64 x.v,.int .i64 x.r,.slice a10 l10 c10,.slice a11 l11 c11,.slice a12 l12 c12,.slice a13 l13 c13,.int .i64 x.n,.bool x.op,.slice a16 l16 c16,.slice a17 l17 c17,.slice a18 l18 c18,.int .i64 x.sfn,.slice a20 l20 c20,.slice a21 l21 c21] 51 (0,0)):=aR _ _ _
 have hS0:=(hS.bel hbA).re
 have hST:=ab (hS.bel hbA)
 have zB:X.heap.size≤w.heap.size:=Nat.le_trans hS.low hS.size
 go_enter Tryz.func12,Tryz.ntmps12
 go_upto_region 1 with fail
 generalize w.alloc (.cells #[.int .i64 x.s,.int .i64 x.t,.int .i64 x.k,.int .i64 x.z,.int .i64 x.p,.int .i64 x.l,.int .i64 x.e,.bool x.b,.int .i64 x.v,.int .i64 x.r,.slice a10 l10 c10,.slice a11 l11 c11,.slice a12 l12 c12,.slice a13 l13 c13,.int .i64 x.n,.bool x.op,.slice a16 l16 c16,.slice a17 l17 c17,.slice a18 l18 c18,.int .i64 x.sfn,.slice a20 l20 c20,.slice a21 l21 c21] 51)=W0 at hS0 hST bA ⊢
 clear hS hbA
 have ca10:=cA bA 10
 simp only[gA,gZ,gS]at ca10
 go_wp2_with fail
 clear ca10
 refine(shmLg B X W0 hB0 K (by omega) a10 l10 c10 x.logs _ h.logs hS0 (by omega) (by omega)).mono ?_
 rintro e' y0 ⟨⟨v0,rfl,hb0⟩,hS1⟩
 have bA0:=(hS1.old _ (ao bA) (Or.inr zB)).trans bA
 have ca11:=cA bA0 11
 simp only[gA,gZ,gS]at ca11
 go_wp2_with fail
 clear ca11
 refine(shmSr B X W0 hB0 v0 (by omega) (by omega) a11 l11 c11 x.srcs _ h.srcs hS1 (by omega)).mono ?_
 rintro e' y1 ⟨rfl,hS2⟩
 obtain⟨v1,jD⟩:∃v1,v0+2*(l11:Int)=v1:=⟨_,rfl⟩
 rw[jD]
 have hb1:0≤v1∧v1≤v0+13*((l11:Int)):=by omega
 clear jD
 have bA1:=(hS2.old _ (ao bA) (Or.inr zB)).trans bA
 clear bA0 hS1
 have ca12:=cA bA1 12
 simp only[gA,gZ,gS]at ca12
 go_wp2_with fail
 clear ca12
 refine(shmTk B X W0 hB0 v1 (by omega) a12 l12 c12 x.tks _ h.tks hS2 (by omega) (by omega)).mono ?_
 rintro e' y2 ⟨⟨v2,rfl,hb2⟩,hS3⟩
 have bA2:=(hS3.old _ (ao bA) (Or.inr zB)).trans bA
 clear bA1 hS2
 have ca13:=cA bA2 13
 simp only[gA,gZ,gS]at ca13
 go_wp2_with fail
 clear ca13
 refine(shmSk B X W0 hB0 v2 (by omega) a13 l13 c13 x.sks _ h.sks hS3 (by omega) (by omega)).mono ?_
 rintro e' y3 ⟨⟨v3,rfl,hb3⟩,hS4⟩
 have bA3:=(hS4.old _ (ao bA) (Or.inr zB)).trans bA
 clear bA2 hS3
 have ca14:=cA bA3 14
 have ca15:=cA bA3 15
 have ca16:=cA bA3 16
 have ca17:=cA bA3 17
 have ca18:=cA bA3 18
 have ca19:=cA bA3 19
 have ca20:=cA bA3 20
 have ca21:=cA bA3 21
 simp only[gA,gZ,gS]at ca14 ca15 ca16 ca17 ca18 ca19 ca20 ca21
 go_wp2_with fail
 clear ca14 ca15 ca16 ca17 ca18 ca19 ca20 ca21
 refine(shmCk B X W0 hB0 v3 (by omega) x a16 l16 c16 a17 l17 c17 a18 l18 c18 a20 l20 c20 a21 l21 c21 _ h.src h.tsk h.sn h.at_ h.ssn hS4 (by omega) (by omega) (by omega) (by omega) (by omega) (by omega)).mono ?_
 rintro e' y4 ⟨⟨v4,rfl,hb4⟩,hS5⟩
 have bA4:=(hS5.old _ (ao bA) (Or.inr zB)).trans bA
 clear bA3 hS4
 go_wp2
 go_ret
 exact⟨⟨v4,rfl,by omega,by omega⟩,(aa hST).tr hS5⟩
end Go.Proofs.YtealpjmannopeaaGreat
