/- Laid together: what the claim needs of the texts that were built one by one. -/
import Derived.Test.YtealpjmannopeaaGreatX4
import Derived.Test.YtealpjmannopeaaGreatX5
import Derived.Test.YtealpjmannopeaaGreatX6
import Derived.BigQuiet
import Derived.Lib.SmallJoins
import Derived.Deep.MidRow
import Derived.Test.YtealpjmannopeaaGreatX0
set_option linter.unusedVariables false
namespace Go.Proofs.YtealpjmannopeaaGreat
open Go.ChangeShapes Go.WideShapes Go.ChangeAt Go.RowKit Go.Deep
theorem aU{w:World}{g:Nat}{cs:Array Value}{ty:Nat}(h:w.heap[g]? =some (.cells cs ty (0,0)))(i:Nat):w.cell? ⟨g,i,none⟩=cs[i]? ∧w.frozen? ⟨g,i,none⟩=false:=⟨cA h i,Joins.unfrozen_of_block h i⟩
theorem bq{P:World→Prop}{g:Nat}(hP:∀(W:World) (p:Addr) (v:Value),p.block=g→P W→P (W.setCell p v)):∀(vs:List Value) (o:Nat) (W:World),P W→P (W.setCells g o vs)
 | [],_,_,h=>h
 |v :: r,o,W,h=>bq hP r (o+1) _ (hP W ⟨g,o,none⟩ v rfl h)
theorem gm{P:Program}{fn:Func}{p:Tmp}{ty:TypeId}(h:fn.results=#[.cell p ty])(tmps:Array Value)(w:World)(b o:Nat)(cs:List Value)(d:TypeDesc)(hp:tmps.getD p undef= .pointer (some ⟨b,o,none⟩))(hc:w.rangeAt b o cs)(hu:P.underlying ty=some d)(hd:d.isRow=true)(hi:(P.info? ty).map (·.size)=some cs.length):(results fn tmps).run P w= .ok (.agg cs.toArray) w:=by
 have hp':tmps[p]?.getD undef= .pointer (some ⟨b,o,none⟩):=by simpa using hp
 simp[results,h,hp',asAddr,run_loadVar_mid w b o ty cs d hc hu hd hi]
theorem ao{w:World}{g:Nat}{o:Obj}(h:w.heap[g]? =some o):g<w.heap.size:=(Array.getElem?_eq_some_iff.1 h).1
theorem aR(w:World)(cs:Array Value)(ty:Nat):(w.alloc (.cells cs ty)).heap[w.heap.size]? =some (.cells cs ty (0,0)):=by show(w.heap.push _)[w.heap.size]? =_;simp
/-- A flow. -/
structure fW where
 s:Int
 t:Int
 k:Int
 z:Int
 p:Int
 l:Int
 e:Int
 b:Bool
 v:Int
 r:Int
 logs:List bS
 srcs:List dY
 tks:List dr
 sks:List bC
 n:Int
 op:Bool
 src:List Int
 tsk:List Bool
 sn:List cD
 sfn:Int
 at_:List Int
 ssn:List cD
set_option maxRecDepth 20000 in
set_option maxHeartbeats 2000000 in
theorem szFl_one(x:fW)(a10:Option Addr)(l10 c10:Nat)(a11:Option Addr)(l11 c11:Nat)(a12:Option Addr)(l12 c12:Nat)(a13:Option Addr)(l13 c13:Nat)(a16:Option Addr)(l16 c16:Nat)(a17:Option Addr)(l17 c17:Nat)(a18:Option Addr)(l18 c18:Nat)(a20:Option Addr)(l20 c20:Nat)(a21:Option Addr)(l21 c21:Nat)(L:Int)(w:World)(h10:ep w 0 a10 l10 x.logs)(h11:fk w 0 a11 l11 x.srcs)(h12:eQ w 0 a12 l12 x.tks)(h13:fa w 0 a13 l13 x.sks)(h16:bn w 0 a16 l16 x.src)(h17:dO w 0 a17 l17 x.tsk)(h18:bE w 0 a18 l18 x.sn)(h20:bn w 0 a20 l20 x.at_)(h21:bE w 0 a21 l21 x.ssn)(h0L:0≤L)(hL:L≤1048576):Calls Tryz.prog 6 #[.agg #[.int .i64 x.s,.int .i64 x.t,.int .i64 x.k,.int .i64 x.z,.int .i64 x.p,.int .i64 x.l,.int .i64 x.e,.bool x.b,.int .i64 x.v,.int .i64 x.r,.slice a10 l10 c10,.slice a11 l11 c11,.slice a12 l12 c12,.slice a13 l13 c13,.int .i64 x.n,.bool x.op,.slice a16 l16 c16,.slice a17 l17 c17,.slice a18 l18 c18,.int .i64 x.sfn,.slice a20 l20 c20,.slice a21 l21 c21],.int .i64 L] w fun e w'=>gG (L - ((fl x.logs+l11+fD x.tks+fE x.sks+(l16+l17+di x.sn+(l20+di x.ssn)):Nat):Int)) ((l10≤1048576∧∀y ∈ x.logs,y.sm)∧l11≤1048576∧(l12≤1048576∧∀y ∈ x.tks,y.sm)∧(l13≤1048576∧∀y ∈ x.sks,y.sm)∧l16≤1048576∧l17≤1048576∧(l18≤1048576∧∀y ∈ x.sn,y.sm)∧l20≤1048576∧(l21≤1048576∧∀y ∈ x.ssn,y.sm)) e∧Below w.heap.size w w':=by
 have HB0:Below w.heap.size w (w.alloc (.cells #[.int .i64 x.s,.int .i64 x.t,.int .i64 x.k,.int .i64 x.z,.int .i64 x.p,.int .i64 x.l,.int .i64 x.e,.bool x.b,.int .i64 x.v,.int .i64 x.r,.slice a10 l10 c10,.slice a11 l11 c11,.slice a12 l12 c12,.slice a13 l13 c13,.int .i64 x.n,.bool x.op,.slice a16 l16 c16,.slice a17 l17 c17,.slice a18 l18 c18,.int .i64 x.sfn,.slice a20 l20 c20,.slice a21 l21 c21] 36)):=ai _ _
 have bA:=aR w #[.int .i64 x.s,.int .i64 x.t,.int .i64 x.k,.int .i64 x.z,.int .i64 x.p,.int .i64 x.l,.int .i64 x.e,.bool x.b,.int .i64 x.v,.int .i64 x.r,.slice a10 l10 c10,.slice a11 l11 c11,.slice a12 l12 c12,.slice a13 l13 c13,.int .i64 x.n,.bool x.op,.slice a16 l16 c16,.slice a17 l17 c17,.slice a18 l18 c18,.int .i64 x.sfn,.slice a20 l20 c20,.slice a21 l21 c21] 36
 go_enter Tryz.func6,Tryz.ntmps6
 go_upto_region 1 with fail
 generalize (w.alloc (.cells #[.int .i64 x.s,.int .i64 x.t,.int .i64 x.k,.int .i64 x.z,.int .i64 x.p,.int .i64 x.l,.int .i64 x.e,.bool x.b,.int .i64 x.v,.int .i64 x.r,.slice a10 l10 c10,.slice a11 l11 c11,.slice a12 l12 c12,.slice a13 l13 c13,.int .i64 x.n,.bool x.op,.slice a16 l16 c16,.slice a17 l17 c17,.slice a18 l18 c18,.int .i64 x.sfn,.slice a20 l20 c20,.slice a21 l21 c21] 36))=W0 at bA HB0 ⊢
 have ca10:=cA bA 10
 simp only[gA,gZ,gS]at ca10
 go_wp2_with fail
 clear ca10
 refine(szLg_p a10 l10 c10 x.logs L _ (h10.below HB0) (by omega) (by omega)).mono ?_
 rintro e y0 ⟨⟨r0,rfl,hr⟩,hb0⟩
 have HB1:=ae HB0 hb0
 replace bA:=(hb0.block _ (ao bA)).trans bA
 clear hb0 HB0
 rcases hr with rfl|⟨p0,q0,s0⟩
 ·go_wp2
  go_ret
  exact⟨⟨_,rfl,Or.inl rfl⟩,HB1⟩
 have t0:¬ r0<0:=by omega
 have ca11:=cA bA 11
 simp only[gA,gZ,gS]at ca11
 go_wp2_with fail
 clear ca11
 refine(szSr_p a11 l11 c11 r0 _ h11.len.2 (by omega) (by omega)).mono ?_
 rintro e y1 ⟨⟨r1,rfl,hr⟩,hw⟩
 have HB2:=HB1
 rw[←hw]at bA HB2
 clear hw HB1
 rcases hr with rfl|⟨p1,q1,s1⟩
 ·go_wp2
  go_ret
  exact⟨⟨_,rfl,Or.inl rfl⟩,HB2⟩
 have t1:¬ r1<0:=by omega
 have ca12:=cA bA 12
 simp only[gA,gZ,gS]at ca12
 go_wp2_with fail
 clear ca12
 refine(szTk_p a12 l12 c12 x.tks r1 _ (h12.below HB2) (by omega) (by omega)).mono ?_
 rintro e y2 ⟨⟨r2,rfl,hr⟩,hb2⟩
 have HB3:=ae HB2 hb2
 replace bA:=(hb2.block _ (ao bA)).trans bA
 clear hb2 HB2
 rcases hr with rfl|⟨p2,q2,s2⟩
 ·go_wp2
  go_ret
  exact⟨⟨_,rfl,Or.inl rfl⟩,HB3⟩
 have t2:¬ r2<0:=by omega
 have ca13:=cA bA 13
 simp only[gA,gZ,gS]at ca13
 go_wp2_with fail
 clear ca13
 refine(szSk_p a13 l13 c13 x.sks r2 _ (h13.below HB3) (by omega) (by omega)).mono ?_
 rintro e y3 ⟨⟨r3,rfl,hr⟩,hb3⟩
 have HB4:=ae HB3 hb3
 replace bA:=(hb3.block _ (ao bA)).trans bA
 clear hb3 HB3
 rcases hr with rfl|⟨p3,q3,s3⟩
 ·go_wp2
  go_ret
  exact⟨⟨_,rfl,Or.inl rfl⟩,HB4⟩
 have t3:¬ r3<0:=by omega
 have ca14:=cA bA 14
 have ca15:=cA bA 15
 have ca16:=cA bA 16
 have ca17:=cA bA 17
 have ca18:=cA bA 18
 have ca19:=cA bA 19
 have ca20:=cA bA 20
 have ca21:=cA bA 21
 simp only[gA,gZ,gS]at ca14 ca15 ca16 ca17 ca18 ca19 ca20 ca21
 go_wp2_with fail
 clear ca14 ca15 ca16 ca17 ca18 ca19 ca20 ca21
 refine(szCk_one ⟨x.n,x.op,x.src,x.tsk,x.sn,x.sfn,x.at_,x.ssn⟩ a16 l16 c16 a17 l17 c17 a18 l18 c18 a20 l20 c20 a21 l21 c21 r3 _ (h16.below HB4) (h17.below HB4) (h18.below HB4) (h20.below HB4) (h21.below HB4) (by omega) (by omega)).mono ?_
 rintro e y4 ⟨⟨r4,rfl,hr⟩,hb4⟩
 have HB5:=ae HB4 hb4
 replace bA:=(hb4.block _ (ao bA)).trans bA
 clear hb4 HB4
 rcases hr with rfl|⟨p4,q4,s4⟩
 ·go_wp2
  go_ret
  exact⟨⟨_,rfl,Or.inl rfl⟩,HB5⟩
 have t4:¬ r4<0:=by omega
 go_wp2
 go_ret
 exact⟨⟨_,rfl,Or.inr ⟨p4,by omega,s0,s1,s2,s3,s4.1,s4.2.1,s4.2.2.1,s4.2.2.2.1,s4.2.2.2.2⟩⟩,HB5⟩
set_option maxRecDepth 20000 in
set_option maxHeartbeats 4000000 in
theorem toFl_one(x:fW)(a10:Option Addr)(l10 c10:Nat)(a11:Option Addr)(l11 c11:Nat)(a12:Option Addr)(l12 c12:Nat)(a13:Option Addr)(l13 c13:Nat)(a16:Option Addr)(l16 c16:Nat)(a17:Option Addr)(l17 c17:Nat)(a18:Option Addr)(l18 c18:Nat)(a20:Option Addr)(l20 c20:Nat)(a21:Option Addr)(l21 c21:Nat)(w:World)(h10:ep w 0 a10 l10 x.logs)(h11:fk w 0 a11 l11 x.srcs)(h12:eQ w 0 a12 l12 x.tks)(h13:fa w 0 a13 l13 x.sks)(h16:bn w 0 a16 l16 x.src)(h17:dO w 0 a17 l17 x.tsk)(h18:bE w 0 a18 l18 x.sn)(h20:bn w 0 a20 l20 x.at_)(h21:bE w 0 a21 l21 x.ssn)(m10:(l10≤1048576∧∀y ∈ x.logs,y.sm))(m11:l11≤1048576)(m12:(l12≤1048576∧∀y ∈ x.tks,y.sm))(m13:(l13≤1048576∧∀y ∈ x.sks,y.sm))(m16:l16≤1048576)(m17:l17≤1048576)(m18:(l18≤1048576∧∀y ∈ x.sn,y.sm))(m20:l20≤1048576)(m21:(l21≤1048576∧∀y ∈ x.ssn,y.sm)):Calls Tryz.prog 8 #[.agg #[.int .i64 x.s,.int .i64 x.t,.int .i64 x.k,.int .i64 x.z,.int .i64 x.p,.int .i64 x.l,.int .i64 x.e,.bool x.b,.int .i64 x.v,.int .i64 x.r,.slice a10 l10 c10,.slice a11 l11 c11,.slice a12 l12 c12,.slice a13 l13 c13,.int .i64 x.n,.bool x.op,.slice a16 l16 c16,.slice a17 l17 c17,.slice a18 l18 c18,.int .i64 x.sfn,.slice a20 l20 c20,.slice a21 l21 c21]] w fun e w'=>∃b10 b11 b12 b13 b16 b17 b18 b20 b21,e= .returned (.agg #[.int .i64 x.s,.int .i64 x.t,.int .i64 x.k,.int .i64 x.z,.int .i64 x.p,.int .i64 x.l,.int .i64 x.e,.bool x.b,.int .i64 x.v,.int .i64 x.r,.slice b10 l10 l10,.slice b11 l11 l11,.slice b12 l12 l12,.slice b13 l13 l13,.int .i64 x.n,.bool x.op,.slice b16 l16 l16,.slice b17 l17 l17,.slice b18 l18 l18,.int .i64 x.sfn,.slice b20 l20 l20,.slice b21 l21 l21])∧ep w' w.heap.size b10 l10 x.logs∧fk w' w.heap.size b11 l11 x.srcs∧eQ w' w.heap.size b12 l12 x.tks∧fa w' w.heap.size b13 l13 x.sks∧bn w' w.heap.size b16 l16 x.src∧dO w' w.heap.size b17 l17 x.tsk∧bE w' w.heap.size b18 l18 x.sn∧bn w' w.heap.size b20 l20 x.at_∧bE w' w.heap.size b21 l21 x.ssn∧Below w.heap.size w w':=by
 have HB0:Below w.heap.size w (((w.alloc (.cells #[.int .i64 x.s,.int .i64 x.t,.int .i64 x.k,.int .i64 x.z,.int .i64 x.p,.int .i64 x.l,.int .i64 x.e,.bool x.b,.int .i64 x.v,.int .i64 x.r,.slice a10 l10 c10,.slice a11 l11 c11,.slice a12 l12 c12,.slice a13 l13 c13,.int .i64 x.n,.bool x.op,.slice a16 l16 c16,.slice a17 l17 c17,.slice a18 l18 c18,.int .i64 x.sfn,.slice a20 l20 c20,.slice a21 l21 c21] 36)).alloc (.cells #[.int .i64 0,.int .i64 0,.int .i64 0,.int .i64 0,.int .i64 0,.int .i64 0,.int .i64 0,.bool false,.int .i64 0,.int .i64 0,.slice none 0 0,.slice none 0 0,.slice none 0 0,.slice none 0 0,.int .i64 0,.bool false,.slice none 0 0,.slice none 0 0,.slice none 0 0,.int .i64 0,.slice none 0 0,.slice none 0 0] 51)).alloc (.cells #[.int .i64 0,.int .i64 0,.int .i64 0,.int .i64 0,.int .i64 0,.int .i64 0,.int .i64 0,.bool false,.int .i64 0,.int .i64 0,.slice none 0 0,.slice none 0 0,.slice none 0 0,.slice none 0 0,.int .i64 0,.bool false,.slice none 0 0,.slice none 0 0,.slice none 0 0,.int .i64 0,.slice none 0 0,.slice none 0 0] 51)):=aB (aB (ai _ _) _) _
 have bA:(((w.alloc (.cells #[.int .i64 x.s,.int .i64 x.t,.int .i64 x.k,.int .i64 x.z,.int .i64 x.p,.int .i64 x.l,.int .i64 x.e,.bool x.b,.int .i64 x.v,.int .i64 x.r,.slice a10 l10 c10,.slice a11 l11 c11,.slice a12 l12 c12,.slice a13 l13 c13,.int .i64 x.n,.bool x.op,.slice a16 l16 c16,.slice a17 l17 c17,.slice a18 l18 c18,.int .i64 x.sfn,.slice a20 l20 c20,.slice a21 l21 c21] 36)).alloc (.cells #[.int .i64 0,.int .i64 0,.int .i64 0,.int .i64 0,.int .i64 0,.int .i64 0,.int .i64 0,.bool false,.int .i64 0,.int .i64 0,.slice none 0 0,.slice none 0 0,.slice none 0 0,.slice none 0 0,.int .i64 0,.bool false,.slice none 0 0,.slice none 0 0,.slice none 0 0,.int .i64 0,.slice none 0 0,.slice none 0 0] 51)).alloc (.cells #[.int .i64 0,.int .i64 0,.int .i64 0,.int .i64 0,.int .i64 0,.int .i64 0,.int .i64 0,.bool false,.int .i64 0,.int .i64 0,.slice none 0 0,.slice none 0 0,.slice none 0 0,.slice none 0 0,.int .i64 0,.bool false,.slice none 0 0,.slice none 0 0,.slice none 0 0,.int .i64 0,.slice none 0 0,.slice none 0 0] 51)).heap[w.heap.size]? =some (.cells #[.int .i64 x.s,.int .i64 x.t,.int .i64 x.k,.int .i64 x.z,.int .i64 x.p,.int .i64 x.l,.int .i64 x.e,.bool x.b,.int .i64 x.v,.int .i64 x.r,.slice a10 l10 c10,.slice a11 l11 c11,.slice a12 l12 c12,.slice a13 l13 c13,.int .i64 x.n,.bool x.op,.slice a16 l16 c16,.slice a17 l17 c17,.slice a18 l18 c18,.int .i64 x.sfn,.slice a20 l20 c20,.slice a21 l21 c21] 36 (0,0)):=(Below.heap_alloc _ _ _ (jJ)).trans ((Below.heap_alloc _ _ _ (by simp)).trans (aR _ _ _))
 have bR:(((w.alloc (.cells #[.int .i64 x.s,.int .i64 x.t,.int .i64 x.k,.int .i64 x.z,.int .i64 x.p,.int .i64 x.l,.int .i64 x.e,.bool x.b,.int .i64 x.v,.int .i64 x.r,.slice a10 l10 c10,.slice a11 l11 c11,.slice a12 l12 c12,.slice a13 l13 c13,.int .i64 x.n,.bool x.op,.slice a16 l16 c16,.slice a17 l17 c17,.slice a18 l18 c18,.int .i64 x.sfn,.slice a20 l20 c20,.slice a21 l21 c21] 36)).alloc (.cells #[.int .i64 0,.int .i64 0,.int .i64 0,.int .i64 0,.int .i64 0,.int .i64 0,.int .i64 0,.bool false,.int .i64 0,.int .i64 0,.slice none 0 0,.slice none 0 0,.slice none 0 0,.slice none 0 0,.int .i64 0,.bool false,.slice none 0 0,.slice none 0 0,.slice none 0 0,.int .i64 0,.slice none 0 0,.slice none 0 0] 51)).alloc (.cells #[.int .i64 0,.int .i64 0,.int .i64 0,.int .i64 0,.int .i64 0,.int .i64 0,.int .i64 0,.bool false,.int .i64 0,.int .i64 0,.slice none 0 0,.slice none 0 0,.slice none 0 0,.slice none 0 0,.int .i64 0,.bool false,.slice none 0 0,.slice none 0 0,.slice none 0 0,.int .i64 0,.slice none 0 0,.slice none 0 0] 51)).heap[w.heap.size+1]? =some (.cells #[.int .i64 0,.int .i64 0,.int .i64 0,.int .i64 0,.int .i64 0,.int .i64 0,.int .i64 0,.bool false,.int .i64 0,.int .i64 0,.slice none 0 0,.slice none 0 0,.slice none 0 0,.slice none 0 0,.int .i64 0,.bool false,.slice none 0 0,.slice none 0 0,.slice none 0 0,.int .i64 0,.slice none 0 0,.slice none 0 0] 51 (0,0)):=(Below.heap_alloc _ _ _ (by simp)).trans (by have h9:=aR (w.alloc (.cells #[.int .i64 x.s,.int .i64 x.t,.int .i64 x.k,.int .i64 x.z,.int .i64 x.p,.int .i64 x.l,.int .i64 x.e,.bool x.b,.int .i64 x.v,.int .i64 x.r,.slice a10 l10 c10,.slice a11 l11 c11,.slice a12 l12 c12,.slice a13 l13 c13,.int .i64 x.n,.bool x.op,.slice a16 l16 c16,.slice a17 l17 c17,.slice a18 l18 c18,.int .i64 x.sfn,.slice a20 l20 c20,.slice a21 l21 c21] 36)) #[.int .i64 0,.int .i64 0,.int .i64 0,.int .i64 0,.int .i64 0,.int .i64 0,.int .i64 0,.bool false,.int .i64 0,.int .i64 0,.slice none 0 0,.slice none 0 0,.slice none 0 0,.slice none 0 0,.int .i64 0,.bool false,.slice none 0 0,.slice none 0 0,.slice none 0 0,.int .i64 0,.slice none 0 0,.slice none 0 0] 51;rw[World.size_alloc]at h9;exact h9)
 have bO:(((w.alloc (.cells #[.int .i64 x.s,.int .i64 x.t,.int .i64 x.k,.int .i64 x.z,.int .i64 x.p,.int .i64 x.l,.int .i64 x.e,.bool x.b,.int .i64 x.v,.int .i64 x.r,.slice a10 l10 c10,.slice a11 l11 c11,.slice a12 l12 c12,.slice a13 l13 c13,.int .i64 x.n,.bool x.op,.slice a16 l16 c16,.slice a17 l17 c17,.slice a18 l18 c18,.int .i64 x.sfn,.slice a20 l20 c20,.slice a21 l21 c21] 36)).alloc (.cells #[.int .i64 0,.int .i64 0,.int .i64 0,.int .i64 0,.int .i64 0,.int .i64 0,.int .i64 0,.bool false,.int .i64 0,.int .i64 0,.slice none 0 0,.slice none 0 0,.slice none 0 0,.slice none 0 0,.int .i64 0,.bool false,.slice none 0 0,.slice none 0 0,.slice none 0 0,.int .i64 0,.slice none 0 0,.slice none 0 0] 51)).alloc (.cells #[.int .i64 0,.int .i64 0,.int .i64 0,.int .i64 0,.int .i64 0,.int .i64 0,.int .i64 0,.bool false,.int .i64 0,.int .i64 0,.slice none 0 0,.slice none 0 0,.slice none 0 0,.slice none 0 0,.int .i64 0,.bool false,.slice none 0 0,.slice none 0 0,.slice none 0 0,.int .i64 0,.slice none 0 0,.slice none 0 0] 51)).heap[w.heap.size+1+1]? =some (.cells #[.int .i64 0,.int .i64 0,.int .i64 0,.int .i64 0,.int .i64 0,.int .i64 0,.int .i64 0,.bool false,.int .i64 0,.int .i64 0,.slice none 0 0,.slice none 0 0,.slice none 0 0,.slice none 0 0,.int .i64 0,.bool false,.slice none 0 0,.slice none 0 0,.slice none 0 0,.int .i64 0,.slice none 0 0,.slice none 0 0] 51 (0,0)):=by have h9:=aR ((w.alloc (.cells #[.int .i64 x.s,.int .i64 x.t,.int .i64 x.k,.int .i64 x.z,.int .i64 x.p,.int .i64 x.l,.int .i64 x.e,.bool x.b,.int .i64 x.v,.int .i64 x.r,.slice a10 l10 c10,.slice a11 l11 c11,.slice a12 l12 c12,.slice a13 l13 c13,.int .i64 x.n,.bool x.op,.slice a16 l16 c16,.slice a17 l17 c17,.slice a18 l18 c18,.int .i64 x.sfn,.slice a20 l20 c20,.slice a21 l21 c21] 36)).alloc (.cells #[.int .i64 0,.int .i64 0,.int .i64 0,.int .i64 0,.int .i64 0,.int .i64 0,.int .i64 0,.bool false,.int .i64 0,.int .i64 0,.slice none 0 0,.slice none 0 0,.slice none 0 0,.slice none 0 0,.int .i64 0,.bool false,.slice none 0 0,.slice none 0 0,.slice none 0 0,.int .i64 0,.slice none 0 0,.slice none 0 0] 51)) #[.int .i64 0,.int .i64 0,.int .i64 0,.int .i64 0,.int .i64 0,.int .i64 0,.int .i64 0,.bool false,.int .i64 0,.int .i64 0,.slice none 0 0,.slice none 0 0,.slice none 0 0,.slice none 0 0,.int .i64 0,.bool false,.slice none 0 0,.slice none 0 0,.slice none 0 0,.int .i64 0,.slice none 0 0,.slice none 0 0] 51;rw[World.size_alloc,World.size_alloc]at h9;exact h9
 go_enter Tryz.func8,Tryz.ntmps8
 go_upto_region 2 with fail
 generalize (((w.alloc (.cells #[.int .i64 x.s,.int .i64 x.t,.int .i64 x.k,.int .i64 x.z,.int .i64 x.p,.int .i64 x.l,.int .i64 x.e,.bool x.b,.int .i64 x.v,.int .i64 x.r,.slice a10 l10 c10,.slice a11 l11 c11,.slice a12 l12 c12,.slice a13 l13 c13,.int .i64 x.n,.bool x.op,.slice a16 l16 c16,.slice a17 l17 c17,.slice a18 l18 c18,.int .i64 x.sfn,.slice a20 l20 c20,.slice a21 l21 c21] 36)).alloc (.cells #[.int .i64 0,.int .i64 0,.int .i64 0,.int .i64 0,.int .i64 0,.int .i64 0,.int .i64 0,.bool false,.int .i64 0,.int .i64 0,.slice none 0 0,.slice none 0 0,.slice none 0 0,.slice none 0 0,.int .i64 0,.bool false,.slice none 0 0,.slice none 0 0,.slice none 0 0,.int .i64 0,.slice none 0 0,.slice none 0 0] 51)).alloc (.cells #[.int .i64 0,.int .i64 0,.int .i64 0,.int .i64 0,.int .i64 0,.int .i64 0,.int .i64 0,.bool false,.int .i64 0,.int .i64 0,.slice none 0 0,.slice none 0 0,.slice none 0 0,.slice none 0 0,.int .i64 0,.bool false,.slice none 0 0,.slice none 0 0,.slice none 0 0,.int .i64 0,.slice none 0 0,.slice none 0 0] 51))=W0 at bA bR bO HB0 ⊢
 have HBW:=ab HB0
 clear HB0
 have ca0:=Joins.cell_of_block bA 0
 have ca1:=Joins.cell_of_block bA 1
 have ca2:=Joins.cell_of_block bA 2
 have ca3:=Joins.cell_of_block bA 3
 have ca4:=Joins.cell_of_block bA 4
 have ca5:=Joins.cell_of_block bA 5
 have ca6:=Joins.cell_of_block bA 6
 have ca7:=Joins.cell_of_block bA 7
 have ca8:=Joins.cell_of_block bA 8
 have ca9:=Joins.cell_of_block bA 9
 simp only [List.getElem?_toArray,List.getElem?_cons_zero,List.getElem?_cons_succ] at ca0 ca1 ca2 ca3 ca4 ca5 ca6 ca7 ca8 ca9
 go_wp2_with fail
 clear ca0 ca1 ca2 ca3 ca4 ca5 ca6 ca7 ca8 ca9
 refine(toJob_any x.s x.t x.k x.z x.p x.l x.e x.b x.v x.r _).mono ?_
 rintro e' y0 ⟨rfl,hb0⟩
 have zO0:=ao bO
 replace HBW:=ab (ae (aa HBW) hb0)
 replace bA:=(hb0.block _ (ao bA)).trans bA
 replace bR:=(hb0.block _ (ao bR)).trans bR
 replace bO:=(hb0.block _ (ao bO)).trans bO
 clear hb0 zO0
 obtain⟨co0,cof0⟩:=aU bO 0
 obtain⟨co1,cof1⟩:=aU bO 1
 obtain⟨co2,cof2⟩:=aU bO 2
 obtain⟨co3,cof3⟩:=aU bO 3
 obtain⟨co4,cof4⟩:=aU bO 4
 obtain⟨co5,cof5⟩:=aU bO 5
 obtain⟨co6,cof6⟩:=aU bO 6
 obtain⟨co7,cof7⟩:=aU bO 7
 obtain⟨co8,cof8⟩:=aU bO 8
 obtain⟨co9,cof9⟩:=aU bO 9
 simp only[gA,gZ,gS]at co0 co1 co2 co3 co4 co5 co6 co7 co8 co9
 go_upto_region 3 with fail
 clear co0 co1 co2 co3 co4 co5 co6 co7 co8 co9 cof0 cof1 cof2 cof3 cof4 cof5 cof6 cof7 cof8 cof9
 replace bO:((((((((((y0.setCell ⟨w.heap.size+1+1,0,none⟩ (.int .i64 x.s)).setCell ⟨w.heap.size+1+1,1,none⟩ (.int .i64 x.t)).setCell ⟨w.heap.size+1+1,2,none⟩ (.int .i64 x.k)).setCell ⟨w.heap.size+1+1,3,none⟩ (.int .i64 x.z)).setCell ⟨w.heap.size+1+1,4,none⟩ (.int .i64 x.p)).setCell ⟨w.heap.size+1+1,5,none⟩ (.int .i64 x.l)).setCell ⟨w.heap.size+1+1,6,none⟩ (.int .i64 x.e)).setCell ⟨w.heap.size+1+1,7,none⟩ (.bool x.b)).setCell ⟨w.heap.size+1+1,8,none⟩ (.int .i64 x.v)).setCell ⟨w.heap.size+1+1,9,none⟩ (.int .i64 x.r)).heap[w.heap.size+1+1]? =some (.cells #[.int .i64 x.s,.int .i64 x.t,.int .i64 x.k,.int .i64 x.z,.int .i64 x.p,.int .i64 x.l,.int .i64 x.e,.bool x.b,.int .i64 x.v,.int .i64 x.r,.slice none 0 0,.slice none 0 0,.slice none 0 0,.slice none 0 0,.int .i64 0,.bool false,.slice none 0 0,.slice none 0 0,.slice none 0 0,.int .i64 0,.slice none 0 0,.slice none 0 0] 51 (0,0)):=by have h9:=(Joins.block_setCell (i:=9) (Joins.block_setCell (i:=8) (Joins.block_setCell (i:=7) (Joins.block_setCell (i:=6) (Joins.block_setCell (i:=5) (Joins.block_setCell (i:=4) (Joins.block_setCell (i:=3) (Joins.block_setCell (i:=2) (Joins.block_setCell (i:=1) (Joins.block_setCell (i:=0) bO (.int .i64 x.s)) (.int .i64 x.t)) (.int .i64 x.k)) (.int .i64 x.z)) (.int .i64 x.p)) (.int .i64 x.l)) (.int .i64 x.e)) (.bool x.b)) (.int .i64 x.v)) (.int .i64 x.r));simpa using h9
 replace bA:=((Below.heap_setCell _ ⟨w.heap.size+1+1,9,none⟩ (.int .i64 x.r) _ (by show _≠w.heap.size+1+1;omega)).trans ((Below.heap_setCell _ ⟨w.heap.size+1+1,8,none⟩ (.int .i64 x.v) _ (by show _≠w.heap.size+1+1;omega)).trans ((Below.heap_setCell _ ⟨w.heap.size+1+1,7,none⟩ (.bool x.b) _ (by show _≠w.heap.size+1+1;omega)).trans ((Below.heap_setCell _ ⟨w.heap.size+1+1,6,none⟩ (.int .i64 x.e) _ (by show _≠w.heap.size+1+1;omega)).trans ((Below.heap_setCell _ ⟨w.heap.size+1+1,5,none⟩ (.int .i64 x.l) _ (by show _≠w.heap.size+1+1;omega)).trans ((Below.heap_setCell _ ⟨w.heap.size+1+1,4,none⟩ (.int .i64 x.p) _ (by show _≠w.heap.size+1+1;omega)).trans ((Below.heap_setCell _ ⟨w.heap.size+1+1,3,none⟩ (.int .i64 x.z) _ (by show _≠w.heap.size+1+1;omega)).trans ((Below.heap_setCell _ ⟨w.heap.size+1+1,2,none⟩ (.int .i64 x.k) _ (by show _≠w.heap.size+1+1;omega)).trans ((Below.heap_setCell _ ⟨w.heap.size+1+1,1,none⟩ (.int .i64 x.t) _ (by show _≠w.heap.size+1+1;omega)).trans ((Below.heap_setCell _ ⟨w.heap.size+1+1,0,none⟩ (.int .i64 x.s) _ (by show _≠w.heap.size+1+1;omega)).trans bA))))))))))
 replace bR:=((Below.heap_setCell _ ⟨w.heap.size+1+1,9,none⟩ (.int .i64 x.r) _ (by show _≠w.heap.size+1+1;omega)).trans ((Below.heap_setCell _ ⟨w.heap.size+1+1,8,none⟩ (.int .i64 x.v) _ (by show _≠w.heap.size+1+1;omega)).trans ((Below.heap_setCell _ ⟨w.heap.size+1+1,7,none⟩ (.bool x.b) _ (by show _≠w.heap.size+1+1;omega)).trans ((Below.heap_setCell _ ⟨w.heap.size+1+1,6,none⟩ (.int .i64 x.e) _ (by show _≠w.heap.size+1+1;omega)).trans ((Below.heap_setCell _ ⟨w.heap.size+1+1,5,none⟩ (.int .i64 x.l) _ (by show _≠w.heap.size+1+1;omega)).trans ((Below.heap_setCell _ ⟨w.heap.size+1+1,4,none⟩ (.int .i64 x.p) _ (by show _≠w.heap.size+1+1;omega)).trans ((Below.heap_setCell _ ⟨w.heap.size+1+1,3,none⟩ (.int .i64 x.z) _ (by show _≠w.heap.size+1+1;omega)).trans ((Below.heap_setCell _ ⟨w.heap.size+1+1,2,none⟩ (.int .i64 x.k) _ (by show _≠w.heap.size+1+1;omega)).trans ((Below.heap_setCell _ ⟨w.heap.size+1+1,1,none⟩ (.int .i64 x.t) _ (by show _≠w.heap.size+1+1;omega)).trans ((Below.heap_setCell _ ⟨w.heap.size+1+1,0,none⟩ (.int .i64 x.s) _ (by show _≠w.heap.size+1+1;omega)).trans bR))))))))))
 replace HBW:=ab (aV (p:=⟨w.heap.size+1+1,9,none⟩) (aV (p:=⟨w.heap.size+1+1,8,none⟩) (aV (p:=⟨w.heap.size+1+1,7,none⟩) (aV (p:=⟨w.heap.size+1+1,6,none⟩) (aV (p:=⟨w.heap.size+1+1,5,none⟩) (aV (p:=⟨w.heap.size+1+1,4,none⟩) (aV (p:=⟨w.heap.size+1+1,3,none⟩) (aV (p:=⟨w.heap.size+1+1,2,none⟩) (aV (p:=⟨w.heap.size+1+1,1,none⟩) (aV (p:=⟨w.heap.size+1+1,0,none⟩) (aa HBW) (by show _≤w.heap.size+1+1;omega) (.int .i64 x.s)) (by show _≤w.heap.size+1+1;omega) (.int .i64 x.t)) (by show _≤w.heap.size+1+1;omega) (.int .i64 x.k)) (by show _≤w.heap.size+1+1;omega) (.int .i64 x.z)) (by show _≤w.heap.size+1+1;omega) (.int .i64 x.p)) (by show _≤w.heap.size+1+1;omega) (.int .i64 x.l)) (by show _≤w.heap.size+1+1;omega) (.int .i64 x.e)) (by show _≤w.heap.size+1+1;omega) (.bool x.b)) (by show _≤w.heap.size+1+1;omega) (.int .i64 x.v)) (by show _≤w.heap.size+1+1;omega) (.int .i64 x.r))
 generalize ((((((((((y0.setCell ⟨w.heap.size+1+1,0,none⟩ (.int .i64 x.s)).setCell ⟨w.heap.size+1+1,1,none⟩ (.int .i64 x.t)).setCell ⟨w.heap.size+1+1,2,none⟩ (.int .i64 x.k)).setCell ⟨w.heap.size+1+1,3,none⟩ (.int .i64 x.z)).setCell ⟨w.heap.size+1+1,4,none⟩ (.int .i64 x.p)).setCell ⟨w.heap.size+1+1,5,none⟩ (.int .i64 x.l)).setCell ⟨w.heap.size+1+1,6,none⟩ (.int .i64 x.e)).setCell ⟨w.heap.size+1+1,7,none⟩ (.bool x.b)).setCell ⟨w.heap.size+1+1,8,none⟩ (.int .i64 x.v)).setCell ⟨w.heap.size+1+1,9,none⟩ (.int .i64 x.r))=z0 at bA bR bO HBW ⊢
 have ca10:=cA bA 10
 simp only[gA,gZ,gS]at ca10
 go_wp2_with fail
 clear ca10
 refine(toLg_b 0 a10 l10 c10 x.logs _ (h10.below (aa HBW)) m10).mono ?_
 rintro e' y1 ⟨b10,rfl,H10,hb1⟩
 have zO1:=ao bO
 have G10:=ab (H10.less (B':=w.heap.size+1+1+1) (by omega))
 replace HBW:=ab (ae (aa HBW) hb1)
 replace bA:=(hb1.block _ (ao bA)).trans bA
 replace bR:=(hb1.block _ (ao bR)).trans bR
 replace bO:=(hb1.block _ (ao bO)).trans bO
 clear hb1 zO1 H10
 obtain⟨co10,cof10⟩:=aU bO 10
 simp only[gA,gZ,gS]at co10
 go_upto_region 4 with fail
 clear co10 cof10
 replace bO:(y1.setCell ⟨w.heap.size+1+1,10,none⟩ (.slice b10 l10 l10)).heap[w.heap.size+1+1]? =some (.cells #[.int .i64 x.s,.int .i64 x.t,.int .i64 x.k,.int .i64 x.z,.int .i64 x.p,.int .i64 x.l,.int .i64 x.e,.bool x.b,.int .i64 x.v,.int .i64 x.r,.slice b10 l10 l10,.slice none 0 0,.slice none 0 0,.slice none 0 0,.int .i64 0,.bool false,.slice none 0 0,.slice none 0 0,.slice none 0 0,.int .i64 0,.slice none 0 0,.slice none 0 0] 51 (0,0)):=by have h9:=(Joins.block_setCell (i:=10) bO (.slice b10 l10 l10));simpa using h9
 replace bA:=((Below.heap_setCell _ ⟨w.heap.size+1+1,10,none⟩ (.slice b10 l10 l10) _ (by show _≠w.heap.size+1+1;omega)).trans bA)
 replace bR:=((Below.heap_setCell _ ⟨w.heap.size+1+1,10,none⟩ (.slice b10 l10 l10) _ (by show _≠w.heap.size+1+1;omega)).trans bR)
 replace HBW:=ab (aV (p:=⟨w.heap.size+1+1,10,none⟩) (aa HBW) (by show _≤w.heap.size+1+1;omega) (.slice b10 l10 l10))
 replace G10:=ab (ep.set (p:=⟨w.heap.size+1+1,10,none⟩) (v:= .slice b10 l10 l10) (aa G10) (by show w.heap.size+1+1<_;omega))
 generalize (y1.setCell ⟨w.heap.size+1+1,10,none⟩ (.slice b10 l10 l10))=z1 at bA bR bO HBW G10 ⊢
 have ca11:=cA bA 11
 simp only[gA,gZ,gS]at ca11
 go_wp2_with fail
 clear ca11
 refine(toSr_b 0 a11 l11 c11 x.srcs _ (h11.below (aa HBW)) m11).mono ?_
 rintro e' y2 ⟨b11,rfl,H11,hb2⟩
 have zO2:=ao bO
 have G11:=ab (H11.less (B':=w.heap.size+1+1+1) (by omega))
 replace G10:=ab ((aa G10).below hb2)
 replace HBW:=ab (ae (aa HBW) hb2)
 replace bA:=(hb2.block _ (ao bA)).trans bA
 replace bR:=(hb2.block _ (ao bR)).trans bR
 replace bO:=(hb2.block _ (ao bO)).trans bO
 clear hb2 zO2 H11
 obtain⟨co11,cof11⟩:=aU bO 11
 simp only[gA,gZ,gS]at co11
 go_upto_region 5 with fail
 clear co11 cof11
 replace bO:(y2.setCell ⟨w.heap.size+1+1,11,none⟩ (.slice b11 l11 l11)).heap[w.heap.size+1+1]? =some (.cells #[.int .i64 x.s,.int .i64 x.t,.int .i64 x.k,.int .i64 x.z,.int .i64 x.p,.int .i64 x.l,.int .i64 x.e,.bool x.b,.int .i64 x.v,.int .i64 x.r,.slice b10 l10 l10,.slice b11 l11 l11,.slice none 0 0,.slice none 0 0,.int .i64 0,.bool false,.slice none 0 0,.slice none 0 0,.slice none 0 0,.int .i64 0,.slice none 0 0,.slice none 0 0] 51 (0,0)):=by have h9:=(Joins.block_setCell (i:=11) bO (.slice b11 l11 l11));simpa using h9
 replace bA:=((Below.heap_setCell _ ⟨w.heap.size+1+1,11,none⟩ (.slice b11 l11 l11) _ (by show _≠w.heap.size+1+1;omega)).trans bA)
 replace bR:=((Below.heap_setCell _ ⟨w.heap.size+1+1,11,none⟩ (.slice b11 l11 l11) _ (by show _≠w.heap.size+1+1;omega)).trans bR)
 replace HBW:=ab (aV (p:=⟨w.heap.size+1+1,11,none⟩) (aa HBW) (by show _≤w.heap.size+1+1;omega) (.slice b11 l11 l11))
 replace G10:=ab (ep.set (p:=⟨w.heap.size+1+1,11,none⟩) (v:= .slice b11 l11 l11) (aa G10) (by show w.heap.size+1+1<_;omega))
 replace G11:=ab (fk.set (p:=⟨w.heap.size+1+1,11,none⟩) (v:= .slice b11 l11 l11) (aa G11) (by show w.heap.size+1+1<_;omega))
 generalize (y2.setCell ⟨w.heap.size+1+1,11,none⟩ (.slice b11 l11 l11))=z2 at bA bR bO HBW G10 G11 ⊢
 have ca12:=cA bA 12
 simp only[gA,gZ,gS]at ca12
 go_wp2_with fail
 clear ca12
 refine(toTk_b 0 a12 l12 c12 x.tks _ (h12.below (aa HBW)) m12).mono ?_
 rintro e' y3 ⟨b12,rfl,H12,hb3⟩
 have zO3:=ao bO
 have G12:=ab (H12.less (B':=w.heap.size+1+1+1) (by omega))
 replace G10:=ab ((aa G10).below hb3)
 replace G11:=ab ((aa G11).below hb3)
 replace HBW:=ab (ae (aa HBW) hb3)
 replace bA:=(hb3.block _ (ao bA)).trans bA
 replace bR:=(hb3.block _ (ao bR)).trans bR
 replace bO:=(hb3.block _ (ao bO)).trans bO
 clear hb3 zO3 H12
 obtain⟨co12,cof12⟩:=aU bO 12
 simp only[gA,gZ,gS]at co12
 go_upto_region 6 with fail
 clear co12 cof12
 replace bO:(y3.setCell ⟨w.heap.size+1+1,12,none⟩ (.slice b12 l12 l12)).heap[w.heap.size+1+1]? =some (.cells #[.int .i64 x.s,.int .i64 x.t,.int .i64 x.k,.int .i64 x.z,.int .i64 x.p,.int .i64 x.l,.int .i64 x.e,.bool x.b,.int .i64 x.v,.int .i64 x.r,.slice b10 l10 l10,.slice b11 l11 l11,.slice b12 l12 l12,.slice none 0 0,.int .i64 0,.bool false,.slice none 0 0,.slice none 0 0,.slice none 0 0,.int .i64 0,.slice none 0 0,.slice none 0 0] 51 (0,0)):=by have h9:=(Joins.block_setCell (i:=12) bO (.slice b12 l12 l12));simpa using h9
 replace bA:=((Below.heap_setCell _ ⟨w.heap.size+1+1,12,none⟩ (.slice b12 l12 l12) _ (by show _≠w.heap.size+1+1;omega)).trans bA)
 replace bR:=((Below.heap_setCell _ ⟨w.heap.size+1+1,12,none⟩ (.slice b12 l12 l12) _ (by show _≠w.heap.size+1+1;omega)).trans bR)
 replace HBW:=ab (aV (p:=⟨w.heap.size+1+1,12,none⟩) (aa HBW) (by show _≤w.heap.size+1+1;omega) (.slice b12 l12 l12))
 replace G10:=ab (ep.set (p:=⟨w.heap.size+1+1,12,none⟩) (v:= .slice b12 l12 l12) (aa G10) (by show w.heap.size+1+1<_;omega))
 replace G11:=ab (fk.set (p:=⟨w.heap.size+1+1,12,none⟩) (v:= .slice b12 l12 l12) (aa G11) (by show w.heap.size+1+1<_;omega))
 replace G12:=ab (eQ.set (p:=⟨w.heap.size+1+1,12,none⟩) (v:= .slice b12 l12 l12) (aa G12) (by show w.heap.size+1+1<_;omega))
 generalize (y3.setCell ⟨w.heap.size+1+1,12,none⟩ (.slice b12 l12 l12))=z3 at bA bR bO HBW G10 G11 G12 ⊢
 have ca13:=cA bA 13
 simp only[gA,gZ,gS]at ca13
 go_wp2_with fail
 clear ca13
 refine(toSk_b 0 a13 l13 c13 x.sks _ (h13.below (aa HBW)) m13).mono ?_
 rintro e' y4 ⟨b13,rfl,H13,hb4⟩
 have zO4:=ao bO
 have G13:=ab (H13.less (B':=w.heap.size+1+1+1) (by omega))
 replace G10:=ab ((aa G10).below hb4)
 replace G11:=ab ((aa G11).below hb4)
 replace G12:=ab ((aa G12).below hb4)
 replace HBW:=ab (ae (aa HBW) hb4)
 replace bA:=(hb4.block _ (ao bA)).trans bA
 replace bR:=(hb4.block _ (ao bR)).trans bR
 replace bO:=(hb4.block _ (ao bO)).trans bO
 clear hb4 zO4 H13
 obtain⟨co13,cof13⟩:=aU bO 13
 simp only[gA,gZ,gS]at co13
 go_upto_region 7 with fail
 clear co13 cof13
 replace bO:(y4.setCell ⟨w.heap.size+1+1,13,none⟩ (.slice b13 l13 l13)).heap[w.heap.size+1+1]? =some (.cells #[.int .i64 x.s,.int .i64 x.t,.int .i64 x.k,.int .i64 x.z,.int .i64 x.p,.int .i64 x.l,.int .i64 x.e,.bool x.b,.int .i64 x.v,.int .i64 x.r,.slice b10 l10 l10,.slice b11 l11 l11,.slice b12 l12 l12,.slice b13 l13 l13,.int .i64 0,.bool false,.slice none 0 0,.slice none 0 0,.slice none 0 0,.int .i64 0,.slice none 0 0,.slice none 0 0] 51 (0,0)):=by have h9:=(Joins.block_setCell (i:=13) bO (.slice b13 l13 l13));simpa using h9
 replace bA:=((Below.heap_setCell _ ⟨w.heap.size+1+1,13,none⟩ (.slice b13 l13 l13) _ (by show _≠w.heap.size+1+1;omega)).trans bA)
 replace bR:=((Below.heap_setCell _ ⟨w.heap.size+1+1,13,none⟩ (.slice b13 l13 l13) _ (by show _≠w.heap.size+1+1;omega)).trans bR)
 replace HBW:=ab (aV (p:=⟨w.heap.size+1+1,13,none⟩) (aa HBW) (by show _≤w.heap.size+1+1;omega) (.slice b13 l13 l13))
 replace G10:=ab (ep.set (p:=⟨w.heap.size+1+1,13,none⟩) (v:= .slice b13 l13 l13) (aa G10) (by show w.heap.size+1+1<_;omega))
 replace G11:=ab (fk.set (p:=⟨w.heap.size+1+1,13,none⟩) (v:= .slice b13 l13 l13) (aa G11) (by show w.heap.size+1+1<_;omega))
 replace G12:=ab (eQ.set (p:=⟨w.heap.size+1+1,13,none⟩) (v:= .slice b13 l13 l13) (aa G12) (by show w.heap.size+1+1<_;omega))
 replace G13:=ab (fa.set (p:=⟨w.heap.size+1+1,13,none⟩) (v:= .slice b13 l13 l13) (aa G13) (by show w.heap.size+1+1<_;omega))
 generalize (y4.setCell ⟨w.heap.size+1+1,13,none⟩ (.slice b13 l13 l13))=z4 at bA bR bO HBW G10 G11 G12 G13 ⊢
 have ca14:=cA bA 14
 have ca15:=cA bA 15
 have ca16:=cA bA 16
 have ca17:=cA bA 17
 have ca18:=cA bA 18
 have ca19:=cA bA 19
 have ca20:=cA bA 20
 have ca21:=cA bA 21
 simp only[gA,gZ,gS]at ca14 ca15 ca16 ca17 ca18 ca19 ca20 ca21
 go_wp2_with fail
 clear ca14 ca15 ca16 ca17 ca18 ca19 ca20 ca21
 refine(toCk_one ⟨x.n,x.op,x.src,x.tsk,x.sn,x.sfn,x.at_,x.ssn⟩ a16 l16 c16 a17 l17 c17 a18 l18 c18 a20 l20 c20 a21 l21 c21 _ (h16.below (aa HBW)) (h17.below (aa HBW)) (h18.below (aa HBW)) (h20.below (aa HBW)) (h21.below (aa HBW)) m16 m17 m18 m20 m21).mono ?_
 rintro e' y5 ⟨b16,b17,b18,b20,b21,rfl,H16,H17,H18,H20,H21,hb5⟩
 have zO5:=ao bO
 have G16:=ab (H16.less (B':=w.heap.size+1+1+1) (by omega))
 have G17:=ab (H17.less (B':=w.heap.size+1+1+1) (by omega))
 have G18:=ab (H18.less (B':=w.heap.size+1+1+1) (by omega))
 have G20:=ab (H20.less (B':=w.heap.size+1+1+1) (by omega))
 have G21:=ab (H21.less (B':=w.heap.size+1+1+1) (by omega))
 replace G10:=ab ((aa G10).below hb5)
 replace G11:=ab ((aa G11).below hb5)
 replace G12:=ab ((aa G12).below hb5)
 replace G13:=ab ((aa G13).below hb5)
 replace HBW:=ab (ae (aa HBW) hb5)
 replace bA:=(hb5.block _ (ao bA)).trans bA
 replace bR:=(hb5.block _ (ao bR)).trans bR
 replace bO:=(hb5.block _ (ao bO)).trans bO
 clear hb5 zO5 H16 H17 H18 H20 H21
 obtain⟨co14,cof14⟩:=aU bO 14
 obtain⟨co15,cof15⟩:=aU bO 15
 obtain⟨co16,cof16⟩:=aU bO 16
 obtain⟨co17,cof17⟩:=aU bO 17
 obtain⟨co18,cof18⟩:=aU bO 18
 obtain⟨co19,cof19⟩:=aU bO 19
 obtain⟨co20,cof20⟩:=aU bO 20
 obtain⟨co21,cof21⟩:=aU bO 21
 simp only[gA,gZ,gS]at co14 co15 co16 co17 co18 co19 co20 co21
 go_upto_region 8 with fail
 clear co14 co15 co16 co17 co18 co19 co20 co21 cof14 cof15 cof16 cof17 cof18 cof19 cof20 cof21
 replace bO:((((((((y5.setCell ⟨w.heap.size+1+1,14,none⟩ (.int .i64 x.n)).setCell ⟨w.heap.size+1+1,15,none⟩ (.bool x.op)).setCell ⟨w.heap.size+1+1,16,none⟩ (.slice b16 l16 l16)).setCell ⟨w.heap.size+1+1,17,none⟩ (.slice b17 l17 l17)).setCell ⟨w.heap.size+1+1,18,none⟩ (.slice b18 l18 l18)).setCell ⟨w.heap.size+1+1,19,none⟩ (.int .i64 x.sfn)).setCell ⟨w.heap.size+1+1,20,none⟩ (.slice b20 l20 l20)).setCell ⟨w.heap.size+1+1,21,none⟩ (.slice b21 l21 l21)).heap[w.heap.size+1+1]? =some (.cells #[.int .i64 x.s,.int .i64 x.t,.int .i64 x.k,.int .i64 x.z,.int .i64 x.p,.int .i64 x.l,.int .i64 x.e,.bool x.b,.int .i64 x.v,.int .i64 x.r,.slice b10 l10 l10,.slice b11 l11 l11,.slice b12 l12 l12,.slice b13 l13 l13,.int .i64 x.n,.bool x.op,.slice b16 l16 l16,.slice b17 l17 l17,.slice b18 l18 l18,.int .i64 x.sfn,.slice b20 l20 l20,.slice b21 l21 l21] 51 (0,0)):=by have h9:=(Joins.block_setCell (i:=21) (Joins.block_setCell (i:=20) (Joins.block_setCell (i:=19) (Joins.block_setCell (i:=18) (Joins.block_setCell (i:=17) (Joins.block_setCell (i:=16) (Joins.block_setCell (i:=15) (Joins.block_setCell (i:=14) bO (.int .i64 x.n)) (.bool x.op)) (.slice b16 l16 l16)) (.slice b17 l17 l17)) (.slice b18 l18 l18)) (.int .i64 x.sfn)) (.slice b20 l20 l20)) (.slice b21 l21 l21));simpa using h9
 replace bA:=((Below.heap_setCell _ ⟨w.heap.size+1+1,21,none⟩ (.slice b21 l21 l21) _ (by show _≠w.heap.size+1+1;omega)).trans ((Below.heap_setCell _ ⟨w.heap.size+1+1,20,none⟩ (.slice b20 l20 l20) _ (by show _≠w.heap.size+1+1;omega)).trans ((Below.heap_setCell _ ⟨w.heap.size+1+1,19,none⟩ (.int .i64 x.sfn) _ (by show _≠w.heap.size+1+1;omega)).trans ((Below.heap_setCell _ ⟨w.heap.size+1+1,18,none⟩ (.slice b18 l18 l18) _ (by show _≠w.heap.size+1+1;omega)).trans ((Below.heap_setCell _ ⟨w.heap.size+1+1,17,none⟩ (.slice b17 l17 l17) _ (by show _≠w.heap.size+1+1;omega)).trans ((Below.heap_setCell _ ⟨w.heap.size+1+1,16,none⟩ (.slice b16 l16 l16) _ (by show _≠w.heap.size+1+1;omega)).trans ((Below.heap_setCell _ ⟨w.heap.size+1+1,15,none⟩ (.bool x.op) _ (by show _≠w.heap.size+1+1;omega)).trans ((Below.heap_setCell _ ⟨w.heap.size+1+1,14,none⟩ (.int .i64 x.n) _ (by show _≠w.heap.size+1+1;omega)).trans bA))))))))
 replace bR:=((Below.heap_setCell _ ⟨w.heap.size+1+1,21,none⟩ (.slice b21 l21 l21) _ (by show _≠w.heap.size+1+1;omega)).trans ((Below.heap_setCell _ ⟨w.heap.size+1+1,20,none⟩ (.slice b20 l20 l20) _ (by show _≠w.heap.size+1+1;omega)).trans ((Below.heap_setCell _ ⟨w.heap.size+1+1,19,none⟩ (.int .i64 x.sfn) _ (by show _≠w.heap.size+1+1;omega)).trans ((Below.heap_setCell _ ⟨w.heap.size+1+1,18,none⟩ (.slice b18 l18 l18) _ (by show _≠w.heap.size+1+1;omega)).trans ((Below.heap_setCell _ ⟨w.heap.size+1+1,17,none⟩ (.slice b17 l17 l17) _ (by show _≠w.heap.size+1+1;omega)).trans ((Below.heap_setCell _ ⟨w.heap.size+1+1,16,none⟩ (.slice b16 l16 l16) _ (by show _≠w.heap.size+1+1;omega)).trans ((Below.heap_setCell _ ⟨w.heap.size+1+1,15,none⟩ (.bool x.op) _ (by show _≠w.heap.size+1+1;omega)).trans ((Below.heap_setCell _ ⟨w.heap.size+1+1,14,none⟩ (.int .i64 x.n) _ (by show _≠w.heap.size+1+1;omega)).trans bR))))))))
 replace HBW:=ab (aV (p:=⟨w.heap.size+1+1,21,none⟩) (aV (p:=⟨w.heap.size+1+1,20,none⟩) (aV (p:=⟨w.heap.size+1+1,19,none⟩) (aV (p:=⟨w.heap.size+1+1,18,none⟩) (aV (p:=⟨w.heap.size+1+1,17,none⟩) (aV (p:=⟨w.heap.size+1+1,16,none⟩) (aV (p:=⟨w.heap.size+1+1,15,none⟩) (aV (p:=⟨w.heap.size+1+1,14,none⟩) (aa HBW) (by show _≤w.heap.size+1+1;omega) (.int .i64 x.n)) (by show _≤w.heap.size+1+1;omega) (.bool x.op)) (by show _≤w.heap.size+1+1;omega) (.slice b16 l16 l16)) (by show _≤w.heap.size+1+1;omega) (.slice b17 l17 l17)) (by show _≤w.heap.size+1+1;omega) (.slice b18 l18 l18)) (by show _≤w.heap.size+1+1;omega) (.int .i64 x.sfn)) (by show _≤w.heap.size+1+1;omega) (.slice b20 l20 l20)) (by show _≤w.heap.size+1+1;omega) (.slice b21 l21 l21))
 replace G10:=ab (ep.set (p:=⟨w.heap.size+1+1,21,none⟩) (v:= .slice b21 l21 l21) (ep.set (p:=⟨w.heap.size+1+1,20,none⟩) (v:= .slice b20 l20 l20) (ep.set (p:=⟨w.heap.size+1+1,19,none⟩) (v:= .int .i64 x.sfn) (ep.set (p:=⟨w.heap.size+1+1,18,none⟩) (v:= .slice b18 l18 l18) (ep.set (p:=⟨w.heap.size+1+1,17,none⟩) (v:= .slice b17 l17 l17) (ep.set (p:=⟨w.heap.size+1+1,16,none⟩) (v:= .slice b16 l16 l16) (ep.set (p:=⟨w.heap.size+1+1,15,none⟩) (v:= .bool x.op) (ep.set (p:=⟨w.heap.size+1+1,14,none⟩) (v:= .int .i64 x.n) (aa G10) (by show w.heap.size+1+1<_;omega)) (by show w.heap.size+1+1<_;omega)) (by show w.heap.size+1+1<_;omega)) (by show w.heap.size+1+1<_;omega)) (by show w.heap.size+1+1<_;omega)) (by show w.heap.size+1+1<_;omega)) (by show w.heap.size+1+1<_;omega)) (by show w.heap.size+1+1<_;omega))
 replace G11:=ab (fk.set (p:=⟨w.heap.size+1+1,21,none⟩) (v:= .slice b21 l21 l21) (fk.set (p:=⟨w.heap.size+1+1,20,none⟩) (v:= .slice b20 l20 l20) (fk.set (p:=⟨w.heap.size+1+1,19,none⟩) (v:= .int .i64 x.sfn) (fk.set (p:=⟨w.heap.size+1+1,18,none⟩) (v:= .slice b18 l18 l18) (fk.set (p:=⟨w.heap.size+1+1,17,none⟩) (v:= .slice b17 l17 l17) (fk.set (p:=⟨w.heap.size+1+1,16,none⟩) (v:= .slice b16 l16 l16) (fk.set (p:=⟨w.heap.size+1+1,15,none⟩) (v:= .bool x.op) (fk.set (p:=⟨w.heap.size+1+1,14,none⟩) (v:= .int .i64 x.n) (aa G11) (by show w.heap.size+1+1<_;omega)) (by show w.heap.size+1+1<_;omega)) (by show w.heap.size+1+1<_;omega)) (by show w.heap.size+1+1<_;omega)) (by show w.heap.size+1+1<_;omega)) (by show w.heap.size+1+1<_;omega)) (by show w.heap.size+1+1<_;omega)) (by show w.heap.size+1+1<_;omega))
 replace G12:=ab (eQ.set (p:=⟨w.heap.size+1+1,21,none⟩) (v:= .slice b21 l21 l21) (eQ.set (p:=⟨w.heap.size+1+1,20,none⟩) (v:= .slice b20 l20 l20) (eQ.set (p:=⟨w.heap.size+1+1,19,none⟩) (v:= .int .i64 x.sfn) (eQ.set (p:=⟨w.heap.size+1+1,18,none⟩) (v:= .slice b18 l18 l18) (eQ.set (p:=⟨w.heap.size+1+1,17,none⟩) (v:= .slice b17 l17 l17) (eQ.set (p:=⟨w.heap.size+1+1,16,none⟩) (v:= .slice b16 l16 l16) (eQ.set (p:=⟨w.heap.size+1+1,15,none⟩) (v:= .bool x.op) (eQ.set (p:=⟨w.heap.size+1+1,14,none⟩) (v:= .int .i64 x.n) (aa G12) (by show w.heap.size+1+1<_;omega)) (by show w.heap.size+1+1<_;omega)) (by show w.heap.size+1+1<_;omega)) (by show w.heap.size+1+1<_;omega)) (by show w.heap.size+1+1<_;omega)) (by show w.heap.size+1+1<_;omega)) (by show w.heap.size+1+1<_;omega)) (by show w.heap.size+1+1<_;omega))
 replace G13:=ab (fa.set (p:=⟨w.heap.size+1+1,21,none⟩) (v:= .slice b21 l21 l21) (fa.set (p:=⟨w.heap.size+1+1,20,none⟩) (v:= .slice b20 l20 l20) (fa.set (p:=⟨w.heap.size+1+1,19,none⟩) (v:= .int .i64 x.sfn) (fa.set (p:=⟨w.heap.size+1+1,18,none⟩) (v:= .slice b18 l18 l18) (fa.set (p:=⟨w.heap.size+1+1,17,none⟩) (v:= .slice b17 l17 l17) (fa.set (p:=⟨w.heap.size+1+1,16,none⟩) (v:= .slice b16 l16 l16) (fa.set (p:=⟨w.heap.size+1+1,15,none⟩) (v:= .bool x.op) (fa.set (p:=⟨w.heap.size+1+1,14,none⟩) (v:= .int .i64 x.n) (aa G13) (by show w.heap.size+1+1<_;omega)) (by show w.heap.size+1+1<_;omega)) (by show w.heap.size+1+1<_;omega)) (by show w.heap.size+1+1<_;omega)) (by show w.heap.size+1+1<_;omega)) (by show w.heap.size+1+1<_;omega)) (by show w.heap.size+1+1<_;omega)) (by show w.heap.size+1+1<_;omega))
 replace G16:=ab (bn.set (p:=⟨w.heap.size+1+1,21,none⟩) (v:= .slice b21 l21 l21) (bn.set (p:=⟨w.heap.size+1+1,20,none⟩) (v:= .slice b20 l20 l20) (bn.set (p:=⟨w.heap.size+1+1,19,none⟩) (v:= .int .i64 x.sfn) (bn.set (p:=⟨w.heap.size+1+1,18,none⟩) (v:= .slice b18 l18 l18) (bn.set (p:=⟨w.heap.size+1+1,17,none⟩) (v:= .slice b17 l17 l17) (bn.set (p:=⟨w.heap.size+1+1,16,none⟩) (v:= .slice b16 l16 l16) (bn.set (p:=⟨w.heap.size+1+1,15,none⟩) (v:= .bool x.op) (bn.set (p:=⟨w.heap.size+1+1,14,none⟩) (v:= .int .i64 x.n) (aa G16) (by show w.heap.size+1+1<_;omega)) (by show w.heap.size+1+1<_;omega)) (by show w.heap.size+1+1<_;omega)) (by show w.heap.size+1+1<_;omega)) (by show w.heap.size+1+1<_;omega)) (by show w.heap.size+1+1<_;omega)) (by show w.heap.size+1+1<_;omega)) (by show w.heap.size+1+1<_;omega))
 replace G17:=ab (dO.set (p:=⟨w.heap.size+1+1,21,none⟩) (v:= .slice b21 l21 l21) (dO.set (p:=⟨w.heap.size+1+1,20,none⟩) (v:= .slice b20 l20 l20) (dO.set (p:=⟨w.heap.size+1+1,19,none⟩) (v:= .int .i64 x.sfn) (dO.set (p:=⟨w.heap.size+1+1,18,none⟩) (v:= .slice b18 l18 l18) (dO.set (p:=⟨w.heap.size+1+1,17,none⟩) (v:= .slice b17 l17 l17) (dO.set (p:=⟨w.heap.size+1+1,16,none⟩) (v:= .slice b16 l16 l16) (dO.set (p:=⟨w.heap.size+1+1,15,none⟩) (v:= .bool x.op) (dO.set (p:=⟨w.heap.size+1+1,14,none⟩) (v:= .int .i64 x.n) (aa G17) (by show w.heap.size+1+1<_;omega)) (by show w.heap.size+1+1<_;omega)) (by show w.heap.size+1+1<_;omega)) (by show w.heap.size+1+1<_;omega)) (by show w.heap.size+1+1<_;omega)) (by show w.heap.size+1+1<_;omega)) (by show w.heap.size+1+1<_;omega)) (by show w.heap.size+1+1<_;omega))
 replace G18:=ab (bE.set (p:=⟨w.heap.size+1+1,21,none⟩) (v:= .slice b21 l21 l21) (bE.set (p:=⟨w.heap.size+1+1,20,none⟩) (v:= .slice b20 l20 l20) (bE.set (p:=⟨w.heap.size+1+1,19,none⟩) (v:= .int .i64 x.sfn) (bE.set (p:=⟨w.heap.size+1+1,18,none⟩) (v:= .slice b18 l18 l18) (bE.set (p:=⟨w.heap.size+1+1,17,none⟩) (v:= .slice b17 l17 l17) (bE.set (p:=⟨w.heap.size+1+1,16,none⟩) (v:= .slice b16 l16 l16) (bE.set (p:=⟨w.heap.size+1+1,15,none⟩) (v:= .bool x.op) (bE.set (p:=⟨w.heap.size+1+1,14,none⟩) (v:= .int .i64 x.n) (aa G18) (by show w.heap.size+1+1<_;omega)) (by show w.heap.size+1+1<_;omega)) (by show w.heap.size+1+1<_;omega)) (by show w.heap.size+1+1<_;omega)) (by show w.heap.size+1+1<_;omega)) (by show w.heap.size+1+1<_;omega)) (by show w.heap.size+1+1<_;omega)) (by show w.heap.size+1+1<_;omega))
 replace G20:=ab (bn.set (p:=⟨w.heap.size+1+1,21,none⟩) (v:= .slice b21 l21 l21) (bn.set (p:=⟨w.heap.size+1+1,20,none⟩) (v:= .slice b20 l20 l20) (bn.set (p:=⟨w.heap.size+1+1,19,none⟩) (v:= .int .i64 x.sfn) (bn.set (p:=⟨w.heap.size+1+1,18,none⟩) (v:= .slice b18 l18 l18) (bn.set (p:=⟨w.heap.size+1+1,17,none⟩) (v:= .slice b17 l17 l17) (bn.set (p:=⟨w.heap.size+1+1,16,none⟩) (v:= .slice b16 l16 l16) (bn.set (p:=⟨w.heap.size+1+1,15,none⟩) (v:= .bool x.op) (bn.set (p:=⟨w.heap.size+1+1,14,none⟩) (v:= .int .i64 x.n) (aa G20) (by show w.heap.size+1+1<_;omega)) (by show w.heap.size+1+1<_;omega)) (by show w.heap.size+1+1<_;omega)) (by show w.heap.size+1+1<_;omega)) (by show w.heap.size+1+1<_;omega)) (by show w.heap.size+1+1<_;omega)) (by show w.heap.size+1+1<_;omega)) (by show w.heap.size+1+1<_;omega))
 replace G21:=ab (bE.set (p:=⟨w.heap.size+1+1,21,none⟩) (v:= .slice b21 l21 l21) (bE.set (p:=⟨w.heap.size+1+1,20,none⟩) (v:= .slice b20 l20 l20) (bE.set (p:=⟨w.heap.size+1+1,19,none⟩) (v:= .int .i64 x.sfn) (bE.set (p:=⟨w.heap.size+1+1,18,none⟩) (v:= .slice b18 l18 l18) (bE.set (p:=⟨w.heap.size+1+1,17,none⟩) (v:= .slice b17 l17 l17) (bE.set (p:=⟨w.heap.size+1+1,16,none⟩) (v:= .slice b16 l16 l16) (bE.set (p:=⟨w.heap.size+1+1,15,none⟩) (v:= .bool x.op) (bE.set (p:=⟨w.heap.size+1+1,14,none⟩) (v:= .int .i64 x.n) (aa G21) (by show w.heap.size+1+1<_;omega)) (by show w.heap.size+1+1<_;omega)) (by show w.heap.size+1+1<_;omega)) (by show w.heap.size+1+1<_;omega)) (by show w.heap.size+1+1<_;omega)) (by show w.heap.size+1+1<_;omega)) (by show w.heap.size+1+1<_;omega)) (by show w.heap.size+1+1<_;omega))
 generalize ((((((((y5.setCell ⟨w.heap.size+1+1,14,none⟩ (.int .i64 x.n)).setCell ⟨w.heap.size+1+1,15,none⟩ (.bool x.op)).setCell ⟨w.heap.size+1+1,16,none⟩ (.slice b16 l16 l16)).setCell ⟨w.heap.size+1+1,17,none⟩ (.slice b17 l17 l17)).setCell ⟨w.heap.size+1+1,18,none⟩ (.slice b18 l18 l18)).setCell ⟨w.heap.size+1+1,19,none⟩ (.int .i64 x.sfn)).setCell ⟨w.heap.size+1+1,20,none⟩ (.slice b20 l20 l20)).setCell ⟨w.heap.size+1+1,21,none⟩ (.slice b21 l21 l21))=z5 at bA bR bO HBW G10 G11 G12 G13 G16 G17 G18 G20 G21 ⊢
 have hrO:z5.rangeAt (w.heap.size+1+1) 0 [.int .i64 x.s,.int .i64 x.t,.int .i64 x.k,.int .i64 x.z,.int .i64 x.p,.int .i64 x.l,.int .i64 x.e,.bool x.b,.int .i64 x.v,.int .i64 x.r,.slice b10 l10 l10,.slice b11 l11 l11,.slice b12 l12 l12,.slice b13 l13 l13,.int .i64 x.n,.bool x.op,.slice b16 l16 l16,.slice b17 l17 l17,.slice b18 l18 l18,.int .i64 x.sfn,.slice b20 l20 l20,.slice b21 l21 l21]:=fun j v hj=>by
  rw[Nat.zero_add,cA bO];simpa using hj
 have htR:z5.there (w.heap.size+1) 0 22:=fun j hj=>by
  rw[Nat.zero_add]
  exact⟨by rw[cA bR,Array.getElem?_eq_getElem (by simpa using hj)];rfl,Joins.unfrozen_of_block bR j⟩
 have hcl:=World.rangeAt_setCells_same z5 (w.heap.size+1) 0 [.int .i64 x.s,.int .i64 x.t,.int .i64 x.k,.int .i64 x.z,.int .i64 x.p,.int .i64 x.l,.int .i64 x.e,.bool x.b,.int .i64 x.v,.int .i64 x.r,.slice b10 l10 l10,.slice b11 l11 l11,.slice b12 l12 l12,.slice b13 l13 l13,.int .i64 x.n,.bool x.op,.slice b16 l16 l16,.slice b17 l17 l17,.slice b18 l18 l18,.int .i64 x.sfn,.slice b20 l20 l20,.slice b21 l21 l21] htR
 have HBF:Hid (Below w.heap.size w (z5.setCells (w.heap.size+1) 0 [.int .i64 x.s,.int .i64 x.t,.int .i64 x.k,.int .i64 x.z,.int .i64 x.p,.int .i64 x.l,.int .i64 x.e,.bool x.b,.int .i64 x.v,.int .i64 x.r,.slice b10 l10 l10,.slice b11 l11 l11,.slice b12 l12 l12,.slice b13 l13 l13,.int .i64 x.n,.bool x.op,.slice b16 l16 l16,.slice b17 l17 l17,.slice b18 l18 l18,.int .i64 x.sfn,.slice b20 l20 l20,.slice b21 l21 l21])):=ab (bq (P:=fun W=>Below w.heap.size w W) (g:=w.heap.size+1) (fun W p v hp h=>aV h (by omega) v) _ _ _ (aa HBW))
 have F10:Hid (ep (z5.setCells (w.heap.size+1) 0 [.int .i64 x.s,.int .i64 x.t,.int .i64 x.k,.int .i64 x.z,.int .i64 x.p,.int .i64 x.l,.int .i64 x.e,.bool x.b,.int .i64 x.v,.int .i64 x.r,.slice b10 l10 l10,.slice b11 l11 l11,.slice b12 l12 l12,.slice b13 l13 l13,.int .i64 x.n,.bool x.op,.slice b16 l16 l16,.slice b17 l17 l17,.slice b18 l18 l18,.int .i64 x.sfn,.slice b20 l20 l20,.slice b21 l21 l21]) (w.heap.size+1+1) b10 l10 x.logs):=ab (bq (P:=fun W=>ep W (w.heap.size+1+1) b10 l10 x.logs) (g:=w.heap.size+1) (fun W p v hp h=>h.set (by omega)) _ _ _ ((aa G10).less (by omega)))
 have F11:Hid (fk (z5.setCells (w.heap.size+1) 0 [.int .i64 x.s,.int .i64 x.t,.int .i64 x.k,.int .i64 x.z,.int .i64 x.p,.int .i64 x.l,.int .i64 x.e,.bool x.b,.int .i64 x.v,.int .i64 x.r,.slice b10 l10 l10,.slice b11 l11 l11,.slice b12 l12 l12,.slice b13 l13 l13,.int .i64 x.n,.bool x.op,.slice b16 l16 l16,.slice b17 l17 l17,.slice b18 l18 l18,.int .i64 x.sfn,.slice b20 l20 l20,.slice b21 l21 l21]) (w.heap.size+1+1) b11 l11 x.srcs):=ab (bq (P:=fun W=>fk W (w.heap.size+1+1) b11 l11 x.srcs) (g:=w.heap.size+1) (fun W p v hp h=>h.set (by omega)) _ _ _ ((aa G11).less (by omega)))
 have F12:Hid (eQ (z5.setCells (w.heap.size+1) 0 [.int .i64 x.s,.int .i64 x.t,.int .i64 x.k,.int .i64 x.z,.int .i64 x.p,.int .i64 x.l,.int .i64 x.e,.bool x.b,.int .i64 x.v,.int .i64 x.r,.slice b10 l10 l10,.slice b11 l11 l11,.slice b12 l12 l12,.slice b13 l13 l13,.int .i64 x.n,.bool x.op,.slice b16 l16 l16,.slice b17 l17 l17,.slice b18 l18 l18,.int .i64 x.sfn,.slice b20 l20 l20,.slice b21 l21 l21]) (w.heap.size+1+1) b12 l12 x.tks):=ab (bq (P:=fun W=>eQ W (w.heap.size+1+1) b12 l12 x.tks) (g:=w.heap.size+1) (fun W p v hp h=>h.set (by omega)) _ _ _ ((aa G12).less (by omega)))
 have F13:Hid (fa (z5.setCells (w.heap.size+1) 0 [.int .i64 x.s,.int .i64 x.t,.int .i64 x.k,.int .i64 x.z,.int .i64 x.p,.int .i64 x.l,.int .i64 x.e,.bool x.b,.int .i64 x.v,.int .i64 x.r,.slice b10 l10 l10,.slice b11 l11 l11,.slice b12 l12 l12,.slice b13 l13 l13,.int .i64 x.n,.bool x.op,.slice b16 l16 l16,.slice b17 l17 l17,.slice b18 l18 l18,.int .i64 x.sfn,.slice b20 l20 l20,.slice b21 l21 l21]) (w.heap.size+1+1) b13 l13 x.sks):=ab (bq (P:=fun W=>fa W (w.heap.size+1+1) b13 l13 x.sks) (g:=w.heap.size+1) (fun W p v hp h=>h.set (by omega)) _ _ _ ((aa G13).less (by omega)))
 have F16:Hid (bn (z5.setCells (w.heap.size+1) 0 [.int .i64 x.s,.int .i64 x.t,.int .i64 x.k,.int .i64 x.z,.int .i64 x.p,.int .i64 x.l,.int .i64 x.e,.bool x.b,.int .i64 x.v,.int .i64 x.r,.slice b10 l10 l10,.slice b11 l11 l11,.slice b12 l12 l12,.slice b13 l13 l13,.int .i64 x.n,.bool x.op,.slice b16 l16 l16,.slice b17 l17 l17,.slice b18 l18 l18,.int .i64 x.sfn,.slice b20 l20 l20,.slice b21 l21 l21]) (w.heap.size+1+1) b16 l16 x.src):=ab (bq (P:=fun W=>bn W (w.heap.size+1+1) b16 l16 x.src) (g:=w.heap.size+1) (fun W p v hp h=>h.set (by omega)) _ _ _ ((aa G16).less (by omega)))
 have F17:Hid (dO (z5.setCells (w.heap.size+1) 0 [.int .i64 x.s,.int .i64 x.t,.int .i64 x.k,.int .i64 x.z,.int .i64 x.p,.int .i64 x.l,.int .i64 x.e,.bool x.b,.int .i64 x.v,.int .i64 x.r,.slice b10 l10 l10,.slice b11 l11 l11,.slice b12 l12 l12,.slice b13 l13 l13,.int .i64 x.n,.bool x.op,.slice b16 l16 l16,.slice b17 l17 l17,.slice b18 l18 l18,.int .i64 x.sfn,.slice b20 l20 l20,.slice b21 l21 l21]) (w.heap.size+1+1) b17 l17 x.tsk):=ab (bq (P:=fun W=>dO W (w.heap.size+1+1) b17 l17 x.tsk) (g:=w.heap.size+1) (fun W p v hp h=>h.set (by omega)) _ _ _ ((aa G17).less (by omega)))
 have F18:Hid (bE (z5.setCells (w.heap.size+1) 0 [.int .i64 x.s,.int .i64 x.t,.int .i64 x.k,.int .i64 x.z,.int .i64 x.p,.int .i64 x.l,.int .i64 x.e,.bool x.b,.int .i64 x.v,.int .i64 x.r,.slice b10 l10 l10,.slice b11 l11 l11,.slice b12 l12 l12,.slice b13 l13 l13,.int .i64 x.n,.bool x.op,.slice b16 l16 l16,.slice b17 l17 l17,.slice b18 l18 l18,.int .i64 x.sfn,.slice b20 l20 l20,.slice b21 l21 l21]) (w.heap.size+1+1) b18 l18 x.sn):=ab (bq (P:=fun W=>bE W (w.heap.size+1+1) b18 l18 x.sn) (g:=w.heap.size+1) (fun W p v hp h=>h.set (by omega)) _ _ _ ((aa G18).less (by omega)))
 have F20:Hid (bn (z5.setCells (w.heap.size+1) 0 [.int .i64 x.s,.int .i64 x.t,.int .i64 x.k,.int .i64 x.z,.int .i64 x.p,.int .i64 x.l,.int .i64 x.e,.bool x.b,.int .i64 x.v,.int .i64 x.r,.slice b10 l10 l10,.slice b11 l11 l11,.slice b12 l12 l12,.slice b13 l13 l13,.int .i64 x.n,.bool x.op,.slice b16 l16 l16,.slice b17 l17 l17,.slice b18 l18 l18,.int .i64 x.sfn,.slice b20 l20 l20,.slice b21 l21 l21]) (w.heap.size+1+1) b20 l20 x.at_):=ab (bq (P:=fun W=>bn W (w.heap.size+1+1) b20 l20 x.at_) (g:=w.heap.size+1) (fun W p v hp h=>h.set (by omega)) _ _ _ ((aa G20).less (by omega)))
 have F21:Hid (bE (z5.setCells (w.heap.size+1) 0 [.int .i64 x.s,.int .i64 x.t,.int .i64 x.k,.int .i64 x.z,.int .i64 x.p,.int .i64 x.l,.int .i64 x.e,.bool x.b,.int .i64 x.v,.int .i64 x.r,.slice b10 l10 l10,.slice b11 l11 l11,.slice b12 l12 l12,.slice b13 l13 l13,.int .i64 x.n,.bool x.op,.slice b16 l16 l16,.slice b17 l17 l17,.slice b18 l18 l18,.int .i64 x.sfn,.slice b20 l20 l20,.slice b21 l21 l21]) (w.heap.size+1+1) b21 l21 x.ssn):=ab (bq (P:=fun W=>bE W (w.heap.size+1+1) b21 l21 x.ssn) (g:=w.heap.size+1) (fun W p v hp h=>h.set (by omega)) _ _ _ ((aa G21).less (by omega)))
 refine wp_region_lit ?_
 refine wpList_load_mid rfl 51 (.tmp 3) rfl (w.heap.size+1+1) 0 rfl [.int .i64 x.s,.int .i64 x.t,.int .i64 x.k,.int .i64 x.z,.int .i64 x.p,.int .i64 x.l,.int .i64 x.e,.bool x.b,.int .i64 x.v,.int .i64 x.r,.slice b10 l10 l10,.slice b11 l11 l11,.slice b12 l12 l12,.slice b13 l13 l13,.int .i64 x.n,.bool x.op,.slice b16 l16 l16,.slice b17 l17 l17,.slice b18 l18 l18,.int .i64 x.sfn,.slice b20 l20 l20,.slice b21 l21 l21] _ hrO Tryz.underlying51 rfl (jK) ?_
 refine wpList_store_mid rfl 51 (.tmp 2) (.tmp 28) rfl (w.heap.size+1) 0 #[.int .i64 x.s,.int .i64 x.t,.int .i64 x.k,.int .i64 x.z,.int .i64 x.p,.int .i64 x.l,.int .i64 x.e,.bool x.b,.int .i64 x.v,.int .i64 x.r,.slice b10 l10 l10,.slice b11 l11 l11,.slice b12 l12 l12,.slice b13 l13 l13,.int .i64 x.n,.bool x.op,.slice b16 l16 l16,.slice b17 l17 l17,.slice b18 l18 l18,.int .i64 x.sfn,.slice b20 l20 l20,.slice b21 l21 l21] rfl rfl htR (jK) (by simp[Value.oneCell']) ?_
 show wpList _ _ _ _ _ (z5.setCells (w.heap.size+1) 0 [.int .i64 x.s,.int .i64 x.t,.int .i64 x.k,.int .i64 x.z,.int .i64 x.p,.int .i64 x.l,.int .i64 x.e,.bool x.b,.int .i64 x.v,.int .i64 x.r,.slice b10 l10 l10,.slice b11 l11 l11,.slice b12 l12 l12,.slice b13 l13 l13,.int .i64 x.n,.bool x.op,.slice b16 l16 l16,.slice b17 l17 l17,.slice b18 l18 l18,.int .i64 x.sfn,.slice b20 l20 l20,.slice b21 l21 l21])
 generalize z5.setCells (w.heap.size+1) 0 [.int .i64 x.s,.int .i64 x.t,.int .i64 x.k,.int .i64 x.z,.int .i64 x.p,.int .i64 x.l,.int .i64 x.e,.bool x.b,.int .i64 x.v,.int .i64 x.r,.slice b10 l10 l10,.slice b11 l11 l11,.slice b12 l12 l12,.slice b13 l13 l13,.int .i64 x.n,.bool x.op,.slice b16 l16 l16,.slice b17 l17 l17,.slice b18 l18 l18,.int .i64 x.sfn,.slice b20 l20 l20,.slice b21 l21 l21]=z9 at hcl HBF F10 F11 F12 F13 F16 F17 F18 F20 F21 ⊢
 clear hrO htR bA bR bO HBW G10 G11 G12 G13 G16 G17 G18 G20 G21
 go_wp2
 refine bodyPost_ret (v:= .agg #[.int .i64 x.s,.int .i64 x.t,.int .i64 x.k,.int .i64 x.z,.int .i64 x.p,.int .i64 x.l,.int .i64 x.e,.bool x.b,.int .i64 x.v,.int .i64 x.r,.slice b10 l10 l10,.slice b11 l11 l11,.slice b12 l12 l12,.slice b13 l13 l13,.int .i64 x.n,.bool x.op,.slice b16 l16 l16,.slice b17 l17 l17,.slice b18 l18 l18,.int .i64 x.sfn,.slice b20 l20 l20,.slice b21 l21 l21]) (gm Tryz.results8 _ _ (w.heap.size+1) 0 [.int .i64 x.s,.int .i64 x.t,.int .i64 x.k,.int .i64 x.z,.int .i64 x.p,.int .i64 x.l,.int .i64 x.e,.bool x.b,.int .i64 x.v,.int .i64 x.r,.slice b10 l10 l10,.slice b11 l11 l11,.slice b12 l12 l12,.slice b13 l13 l13,.int .i64 x.n,.bool x.op,.slice b16 l16 l16,.slice b17 l17 l17,.slice b18 l18 l18,.int .i64 x.sfn,.slice b20 l20 l20,.slice b21 l21 l21] _ rfl hcl Tryz.underlying51 rfl (jK)) rfl ?_
 exact⟨b10,b11,b12,b13,b16,b17,b18,b20,b21,rfl,(aa F10).less (by omega),(aa F11).less (by omega),(aa F12).less (by omega),(aa F13).less (by omega),(aa F16).less (by omega),(aa F17).less (by omega),(aa F18).less (by omega),(aa F20).less (by omega),(aa F21).less (by omega),aa HBF⟩
end Go.Proofs.YtealpjmannopeaaGreat
