/- Laid together: what the claim needs of the texts that were built one by one. -/
import Derived.Test.YtealpjmannopeaaGreatX2
import Derived.Test.YtealpjmannopeaaGreatX7
import Derived.Test.YtealpjmannopeaaGreatX0
import Derived.Test.YtealpjmannopeaaGreatRows
import Derived.Deep.RegionHeld3
set_option linter.unusedVariables false
namespace Go.Proofs.YtealpjmannopeaaGreat
open Go.ChangeShapes Go.WideShapes Go.ChangeAt Go.RowKit Go.Deep
set_option maxHeartbeats 1000000 in
theorem eqJob_any(s t k z p l e:Int)(b:Bool)(v r:Int)(w:World):Calls Tryz.prog 39 #[.agg #[.int .i64 s,.int .i64 t,.int .i64 k,.int .i64 z,.int .i64 p,.int .i64 l,.int .i64 e,.bool b,.int .i64 v,.int .i64 r],.agg #[.int .i64 s,.int .i64 t,.int .i64 k,.int .i64 z,.int .i64 p,.int .i64 l,.int .i64 e,.bool b,.int .i64 v,.int .i64 r]] w fun e' w'=>e'= .returned (.bool true)∧Below w.heap.size w w':=by
 go_enter Tryz.func39,Tryz.ntmps39
 go_wp2
 go_ret
 exact⟨rfl,(ar)⟩
set_option maxRecDepth 20000 in
set_option maxHeartbeats 2000000 in
theorem eqFl_one(B1 B2:Nat)(x:fW)(a10x a10y:Option Addr)(l10 c10x c10y:Nat)(a11x a11y:Option Addr)(l11 c11x c11y:Nat)(a12x a12y:Option Addr)(l12 c12x c12y:Nat)(a13x a13y:Option Addr)(l13 c13x c13y:Nat)(a16x a16y:Option Addr)(l16 c16x c16y:Nat)(a17x a17y:Option Addr)(l17 c17x c17y:Nat)(a18x a18y:Option Addr)(l18 c18x c18y:Nat)(a20x a20y:Option Addr)(l20 c20x c20y:Nat)(a21x a21y:Option Addr)(l21 c21x c21y:Nat)(w:World)(h10x:ep w B1 a10x l10 x.logs)(h10y:ep w B2 a10y l10 x.logs)(h11x:fk w B1 a11x l11 x.srcs)(h11y:fk w B2 a11y l11 x.srcs)(h12x:eQ w B1 a12x l12 x.tks)(h12y:eQ w B2 a12y l12 x.tks)(h13x:fa w B1 a13x l13 x.sks)(h13y:fa w B2 a13y l13 x.sks)(h16x:bn w B1 a16x l16 x.src)(h16y:bn w B2 a16y l16 x.src)(h17x:dO w B1 a17x l17 x.tsk)(h17y:dO w B2 a17y l17 x.tsk)(h18x:bE w B1 a18x l18 x.sn)(h18y:bE w B2 a18y l18 x.sn)(h20x:bn w B1 a20x l20 x.at_)(h20y:bn w B2 a20y l20 x.at_)(h21x:bE w B1 a21x l21 x.ssn)(h21y:bE w B2 a21y l21 x.ssn):Calls Tryz.prog 11 #[.agg #[.int .i64 x.s,.int .i64 x.t,.int .i64 x.k,.int .i64 x.z,.int .i64 x.p,.int .i64 x.l,.int .i64 x.e,.bool x.b,.int .i64 x.v,.int .i64 x.r,.slice a10x l10 c10x,.slice a11x l11 c11x,.slice a12x l12 c12x,.slice a13x l13 c13x,.int .i64 x.n,.bool x.op,.slice a16x l16 c16x,.slice a17x l17 c17x,.slice a18x l18 c18x,.int .i64 x.sfn,.slice a20x l20 c20x,.slice a21x l21 c21x],.agg #[.int .i64 x.s,.int .i64 x.t,.int .i64 x.k,.int .i64 x.z,.int .i64 x.p,.int .i64 x.l,.int .i64 x.e,.bool x.b,.int .i64 x.v,.int .i64 x.r,.slice a10y l10 c10y,.slice a11y l11 c11y,.slice a12y l12 c12y,.slice a13y l13 c13y,.int .i64 x.n,.bool x.op,.slice a16y l16 c16y,.slice a17y l17 c17y,.slice a18y l18 c18y,.int .i64 x.sfn,.slice a20y l20 c20y,.slice a21y l21 c21y]] w fun e w'=>e= .returned (.bool true)∧Below w.heap.size w w':=by
 have HB0:Below w.heap.size w ((w.alloc (.cells #[.int .i64 x.s,.int .i64 x.t,.int .i64 x.k,.int .i64 x.z,.int .i64 x.p,.int .i64 x.l,.int .i64 x.e,.bool x.b,.int .i64 x.v,.int .i64 x.r,.slice a10x l10 c10x,.slice a11x l11 c11x,.slice a12x l12 c12x,.slice a13x l13 c13x,.int .i64 x.n,.bool x.op,.slice a16x l16 c16x,.slice a17x l17 c17x,.slice a18x l18 c18x,.int .i64 x.sfn,.slice a20x l20 c20x,.slice a21x l21 c21x] 51)).alloc (.cells #[.int .i64 x.s,.int .i64 x.t,.int .i64 x.k,.int .i64 x.z,.int .i64 x.p,.int .i64 x.l,.int .i64 x.e,.bool x.b,.int .i64 x.v,.int .i64 x.r,.slice a10y l10 c10y,.slice a11y l11 c11y,.slice a12y l12 c12y,.slice a13y l13 c13y,.int .i64 x.n,.bool x.op,.slice a16y l16 c16y,.slice a17y l17 c17y,.slice a18y l18 c18y,.int .i64 x.sfn,.slice a20y l20 c20y,.slice a21y l21 c21y] 51)):=aB (ai _ _) _
 have bA:((w.alloc (.cells #[.int .i64 x.s,.int .i64 x.t,.int .i64 x.k,.int .i64 x.z,.int .i64 x.p,.int .i64 x.l,.int .i64 x.e,.bool x.b,.int .i64 x.v,.int .i64 x.r,.slice a10x l10 c10x,.slice a11x l11 c11x,.slice a12x l12 c12x,.slice a13x l13 c13x,.int .i64 x.n,.bool x.op,.slice a16x l16 c16x,.slice a17x l17 c17x,.slice a18x l18 c18x,.int .i64 x.sfn,.slice a20x l20 c20x,.slice a21x l21 c21x] 51)).alloc (.cells #[.int .i64 x.s,.int .i64 x.t,.int .i64 x.k,.int .i64 x.z,.int .i64 x.p,.int .i64 x.l,.int .i64 x.e,.bool x.b,.int .i64 x.v,.int .i64 x.r,.slice a10y l10 c10y,.slice a11y l11 c11y,.slice a12y l12 c12y,.slice a13y l13 c13y,.int .i64 x.n,.bool x.op,.slice a16y l16 c16y,.slice a17y l17 c17y,.slice a18y l18 c18y,.int .i64 x.sfn,.slice a20y l20 c20y,.slice a21y l21 c21y] 51)).heap[w.heap.size]? =some (.cells #[.int .i64 x.s,.int .i64 x.t,.int .i64 x.k,.int .i64 x.z,.int .i64 x.p,.int .i64 x.l,.int .i64 x.e,.bool x.b,.int .i64 x.v,.int .i64 x.r,.slice a10x l10 c10x,.slice a11x l11 c11x,.slice a12x l12 c12x,.slice a13x l13 c13x,.int .i64 x.n,.bool x.op,.slice a16x l16 c16x,.slice a17x l17 c17x,.slice a18x l18 c18x,.int .i64 x.sfn,.slice a20x l20 c20x,.slice a21x l21 c21x] 51 (0,0)):=(Below.heap_alloc _ _ _ (by simp)).trans (aR _ _ _)
 have bD:((w.alloc (.cells #[.int .i64 x.s,.int .i64 x.t,.int .i64 x.k,.int .i64 x.z,.int .i64 x.p,.int .i64 x.l,.int .i64 x.e,.bool x.b,.int .i64 x.v,.int .i64 x.r,.slice a10x l10 c10x,.slice a11x l11 c11x,.slice a12x l12 c12x,.slice a13x l13 c13x,.int .i64 x.n,.bool x.op,.slice a16x l16 c16x,.slice a17x l17 c17x,.slice a18x l18 c18x,.int .i64 x.sfn,.slice a20x l20 c20x,.slice a21x l21 c21x] 51)).alloc (.cells #[.int .i64 x.s,.int .i64 x.t,.int .i64 x.k,.int .i64 x.z,.int .i64 x.p,.int .i64 x.l,.int .i64 x.e,.bool x.b,.int .i64 x.v,.int .i64 x.r,.slice a10y l10 c10y,.slice a11y l11 c11y,.slice a12y l12 c12y,.slice a13y l13 c13y,.int .i64 x.n,.bool x.op,.slice a16y l16 c16y,.slice a17y l17 c17y,.slice a18y l18 c18y,.int .i64 x.sfn,.slice a20y l20 c20y,.slice a21y l21 c21y] 51)).heap[w.heap.size+1]? =some (.cells #[.int .i64 x.s,.int .i64 x.t,.int .i64 x.k,.int .i64 x.z,.int .i64 x.p,.int .i64 x.l,.int .i64 x.e,.bool x.b,.int .i64 x.v,.int .i64 x.r,.slice a10y l10 c10y,.slice a11y l11 c11y,.slice a12y l12 c12y,.slice a13y l13 c13y,.int .i64 x.n,.bool x.op,.slice a16y l16 c16y,.slice a17y l17 c17y,.slice a18y l18 c18y,.int .i64 x.sfn,.slice a20y l20 c20y,.slice a21y l21 c21y] 51 (0,0)):=by have h9:=aR (w.alloc (.cells #[.int .i64 x.s,.int .i64 x.t,.int .i64 x.k,.int .i64 x.z,.int .i64 x.p,.int .i64 x.l,.int .i64 x.e,.bool x.b,.int .i64 x.v,.int .i64 x.r,.slice a10x l10 c10x,.slice a11x l11 c11x,.slice a12x l12 c12x,.slice a13x l13 c13x,.int .i64 x.n,.bool x.op,.slice a16x l16 c16x,.slice a17x l17 c17x,.slice a18x l18 c18x,.int .i64 x.sfn,.slice a20x l20 c20x,.slice a21x l21 c21x] 51)) #[.int .i64 x.s,.int .i64 x.t,.int .i64 x.k,.int .i64 x.z,.int .i64 x.p,.int .i64 x.l,.int .i64 x.e,.bool x.b,.int .i64 x.v,.int .i64 x.r,.slice a10y l10 c10y,.slice a11y l11 c11y,.slice a12y l12 c12y,.slice a13y l13 c13y,.int .i64 x.n,.bool x.op,.slice a16y l16 c16y,.slice a17y l17 c17y,.slice a18y l18 c18y,.int .i64 x.sfn,.slice a20y l20 c20y,.slice a21y l21 c21y] 51;rw[World.size_alloc]at h9;exact h9
 go_enter Tryz.func11,Tryz.ntmps11
 go_upto_region 1 with fail
 generalize ((w.alloc (.cells #[.int .i64 x.s,.int .i64 x.t,.int .i64 x.k,.int .i64 x.z,.int .i64 x.p,.int .i64 x.l,.int .i64 x.e,.bool x.b,.int .i64 x.v,.int .i64 x.r,.slice a10x l10 c10x,.slice a11x l11 c11x,.slice a12x l12 c12x,.slice a13x l13 c13x,.int .i64 x.n,.bool x.op,.slice a16x l16 c16x,.slice a17x l17 c17x,.slice a18x l18 c18x,.int .i64 x.sfn,.slice a20x l20 c20x,.slice a21x l21 c21x] 51)).alloc (.cells #[.int .i64 x.s,.int .i64 x.t,.int .i64 x.k,.int .i64 x.z,.int .i64 x.p,.int .i64 x.l,.int .i64 x.e,.bool x.b,.int .i64 x.v,.int .i64 x.r,.slice a10y l10 c10y,.slice a11y l11 c11y,.slice a12y l12 c12y,.slice a13y l13 c13y,.int .i64 x.n,.bool x.op,.slice a16y l16 c16y,.slice a17y l17 c17y,.slice a18y l18 c18y,.int .i64 x.sfn,.slice a20y l20 c20y,.slice a21y l21 c21y] 51))=W0 at bA bD HB0 ⊢
 have HBW:=ab HB0
 clear HB0
 have ca0:=Joins.cell_of_block bA 0
 have ca1:=Joins.cell_of_block bA 1
 have ca2:=Joins.cell_of_block bA 2
 have ca3:=Joins.cell_of_block bA 3
 have ca4:=Joins.cell_of_block bA 4
 have ca5:=Joins.cell_of_block bA 5
 have ca6:=Joins.cell_of_block bA 6
 have ca7:=Joins.cell_of_block bA 7
 have ca8:=Joins.cell_of_block bA 8
 have ca9:=Joins.cell_of_block bA 9
 simp only [List.getElem?_toArray,List.getElem?_cons_zero,List.getElem?_cons_succ] at ca0 ca1 ca2 ca3 ca4 ca5 ca6 ca7 ca8 ca9
 have cd0:=Joins.cell_of_block bD 0
 have cd1:=Joins.cell_of_block bD 1
 have cd2:=Joins.cell_of_block bD 2
 have cd3:=Joins.cell_of_block bD 3
 have cd4:=Joins.cell_of_block bD 4
 have cd5:=Joins.cell_of_block bD 5
 have cd6:=Joins.cell_of_block bD 6
 have cd7:=Joins.cell_of_block bD 7
 have cd8:=Joins.cell_of_block bD 8
 have cd9:=Joins.cell_of_block bD 9
 simp only [List.getElem?_toArray,List.getElem?_cons_zero,List.getElem?_cons_succ] at cd0 cd1 cd2 cd3 cd4 cd5 cd6 cd7 cd8 cd9
 have zA:=ao bA
 have zD:=ao bD
 go_wp2_with fail
 refine(eqJob_any x.s x.t x.k x.z x.p x.l x.e x.b x.v x.r _).mono ?_
 rintro e' y0 ⟨rfl,hb0⟩
 clear ca0 ca1 ca2 ca3 ca4 ca5 ca6 ca7 ca8 ca9
 clear cd0 cd1 cd2 cd3 cd4 cd5 cd6 cd7 cd8 cd9
 clear zA zD
 replace HBW:=ab (ae (by repeat(first|(with_reducible exact(aa HBW))|(with_reducible refine aj ?_)|(with_reducible refine aK ?_ _))) hb0)
 replace bA:=(hb0.block _ (ao bA)).trans bA
 replace bD:=(hb0.block _ (ao bD)).trans bD
 clear hb0
 have ca10:=cA bA 10
 simp only[gA,gZ,gS]at ca10
 have cd10:=cA bD 10
 simp only[gA,gZ,gS]at cd10
 have zA:=ao bA
 have zD:=ao bD
 go_wp2_with fail
 refine(eqLg_b B1 B2 a10x a10y l10 c10x c10y x.logs _ (h10x.below (by repeat(first|(with_reducible exact(aa HBW))|(with_reducible refine aj ?_)|(with_reducible refine aK ?_ _)))) (h10y.below (by repeat(first|(with_reducible exact(aa HBW))|(with_reducible refine aj ?_)|(with_reducible refine aK ?_ _))))).mono ?_
 rintro e' y1 ⟨rfl,hb1⟩
 clear ca10
 clear cd10
 clear zA zD
 replace HBW:=ab (ae (by repeat(first|(with_reducible exact(aa HBW))|(with_reducible refine aj ?_)|(with_reducible refine aK ?_ _))) hb1)
 replace bA:=(hb1.block _ (ao bA)).trans bA
 replace bD:=(hb1.block _ (ao bD)).trans bD
 clear hb1
 have ca11:=cA bA 11
 simp only[gA,gZ,gS]at ca11
 have cd11:=cA bD 11
 simp only[gA,gZ,gS]at cd11
 have zA:=ao bA
 have zD:=ao bD
 go_wp2_with fail
 refine(eqSr_b B1 B2 a11x a11y l11 c11x c11y x.srcs _ (h11x.below (by repeat(first|(with_reducible exact(aa HBW))|(with_reducible refine aj ?_)|(with_reducible refine aK ?_ _)))) (h11y.below (by repeat(first|(with_reducible exact(aa HBW))|(with_reducible refine aj ?_)|(with_reducible refine aK ?_ _))))).mono ?_
 rintro e' y2 ⟨rfl,hb2⟩
 clear ca11
 clear cd11
 clear zA zD
 replace HBW:=ab (ae (by repeat(first|(with_reducible exact(aa HBW))|(with_reducible refine aj ?_)|(with_reducible refine aK ?_ _))) hb2)
 replace bA:=(hb2.block _ (ao bA)).trans bA
 replace bD:=(hb2.block _ (ao bD)).trans bD
 clear hb2
 have ca12:=cA bA 12
 simp only[gA,gZ,gS]at ca12
 have cd12:=cA bD 12
 simp only[gA,gZ,gS]at cd12
 have zA:=ao bA
 have zD:=ao bD
 go_wp2_with fail
 refine(eqTk_b B1 B2 a12x a12y l12 c12x c12y x.tks _ (h12x.below (by repeat(first|(with_reducible exact(aa HBW))|(with_reducible refine aj ?_)|(with_reducible refine aK ?_ _)))) (h12y.below (by repeat(first|(with_reducible exact(aa HBW))|(with_reducible refine aj ?_)|(with_reducible refine aK ?_ _))))).mono ?_
 rintro e' y3 ⟨rfl,hb3⟩
 clear ca12
 clear cd12
 clear zA zD
 replace HBW:=ab (ae (by repeat(first|(with_reducible exact(aa HBW))|(with_reducible refine aj ?_)|(with_reducible refine aK ?_ _))) hb3)
 replace bA:=(hb3.block _ (ao bA)).trans bA
 replace bD:=(hb3.block _ (ao bD)).trans bD
 clear hb3
 have ca13:=cA bA 13
 simp only[gA,gZ,gS]at ca13
 have cd13:=cA bD 13
 simp only[gA,gZ,gS]at cd13
 have zA:=ao bA
 have zD:=ao bD
 go_wp2_with fail
 refine(eqSk_b B1 B2 a13x a13y l13 c13x c13y x.sks _ (h13x.below (by repeat(first|(with_reducible exact(aa HBW))|(with_reducible refine aj ?_)|(with_reducible refine aK ?_ _)))) (h13y.below (by repeat(first|(with_reducible exact(aa HBW))|(with_reducible refine aj ?_)|(with_reducible refine aK ?_ _))))).mono ?_
 rintro e' y4 ⟨rfl,hb4⟩
 clear ca13
 clear cd13
 clear zA zD
 replace HBW:=ab (ae (by repeat(first|(with_reducible exact(aa HBW))|(with_reducible refine aj ?_)|(with_reducible refine aK ?_ _))) hb4)
 replace bA:=(hb4.block _ (ao bA)).trans bA
 replace bD:=(hb4.block _ (ao bD)).trans bD
 clear hb4
 have ca14:=cA bA 14
 have ca15:=cA bA 15
 have ca16:=cA bA 16
 have ca17:=cA bA 17
 have ca18:=cA bA 18
 have ca19:=cA bA 19
 have ca20:=cA bA 20
 have ca21:=cA bA 21
 simp only[gA,gZ,gS]at ca14 ca15 ca16 ca17 ca18 ca19 ca20 ca21
 have cd14:=cA bD 14
 have cd15:=cA bD 15
 have cd16:=cA bD 16
 have cd17:=cA bD 17
 have cd18:=cA bD 18
 have cd19:=cA bD 19
 have cd20:=cA bD 20
 have cd21:=cA bD 21
 simp only[gA,gZ,gS]at cd14 cd15 cd16 cd17 cd18 cd19 cd20 cd21
 have zA:=ao bA
 have zD:=ao bD
 go_wp2_with fail
 refine(eqCk_one B1 B2 ⟨x.n,x.op,x.src,x.tsk,x.sn,x.sfn,x.at_,x.ssn⟩ a16x a16y l16 c16x c16y a17x a17y l17 c17x c17y a18x a18y l18 c18x c18y a20x a20y l20 c20x c20y a21x a21y l21 c21x c21y _ (h16x.below (by repeat(first|(with_reducible exact(aa HBW))|(with_reducible refine aj ?_)|(with_reducible refine aK ?_ _)))) (h16y.below (by repeat(first|(with_reducible exact(aa HBW))|(with_reducible refine aj ?_)|(with_reducible refine aK ?_ _)))) (h17x.below (by repeat(first|(with_reducible exact(aa HBW))|(with_reducible refine aj ?_)|(with_reducible refine aK ?_ _)))) (h17y.below (by repeat(first|(with_reducible exact(aa HBW))|(with_reducible refine aj ?_)|(with_reducible refine aK ?_ _)))) (h18x.below (by repeat(first|(with_reducible exact(aa HBW))|(with_reducible refine aj ?_)|(with_reducible refine aK ?_ _)))) (h18y.below (by repeat(first|(with_reducible exact(aa HBW))|(with_reducible refine aj ?_)|(with_reducible refine aK ?_ _)))) (h20x.below (by repeat(first|(with_reducible exact(aa HBW))|(with_reducible refine aj ?_)|(with_reducible refine aK ?_ _)))) (h20y.below (by repeat(first|(with_reducible exact(aa HBW))|(with_reducible refine aj ?_)|(with_reducible refine aK ?_ _)))) (h21x.below (by repeat(first|(with_reducible exact(aa HBW))|(with_reducible refine aj ?_)|(with_reducible refine aK ?_ _)))) (h21y.below (by repeat(first|(with_reducible exact(aa HBW))|(with_reducible refine aj ?_)|(with_reducible refine aK ?_ _))))).mono ?_
 rintro e' y5 ⟨rfl,hb5⟩
 clear ca14 ca15 ca16 ca17 ca18 ca19 ca20 ca21
 clear cd14 cd15 cd16 cd17 cd18 cd19 cd20 cd21
 clear zA zD
 replace HBW:=ab (ae (by repeat(first|(with_reducible exact(aa HBW))|(with_reducible refine aj ?_)|(with_reducible refine aK ?_ _))) hb5)
 replace bA:=(hb5.block _ (ao bA)).trans bA
 replace bD:=(hb5.block _ (ao bD)).trans bD
 clear hb5
 go_wp2
 go_ret
 exact⟨rfl,aa HBW⟩
end Go.Proofs.YtealpjmannopeaaGreat
namespace Go.Proofs.YtealpjmannopeaaGreat
open Go.ChangeShapes Go.WideShapes Go.ChangeAt Go.RowKit
def fM(a b:Int):Int:=if a<b then -1 else if b<a then 1 else 0
def orI(x y z:Int):Int:=if x=0 then(if y=0 then z else y)else x
theorem cmpI_l{a b:Int}(h:a<b):fM a b= -1:=if_pos h
theorem cmpI_g{a b:Int}(h:b<a):fM a b=1:=by unfold fM;rw[if_neg (by omega),if_pos h]
theorem cmpI_e{a b:Int}(h1:¬ a<b)(h2:¬ b<a):fM a b=0:=by unfold fM;rw[if_neg h1,if_neg h2]
theorem orI_1{x y z:Int}(h:¬ x=0):orI x y z=x:=if_neg h
theorem orI_2{x y z:Int}(h:x=0)(h2:¬ y=0):orI x y z=y:=by unfold orI;rw[if_pos h,if_neg h2]
theorem orI_3{x y z:Int}(h:x=0)(h2:y=0):orI x y z=z:=by unfold orI;rw[if_pos h,if_pos h2]
theorem jf(a:Int)(w:World):Calls Tryz.prog 203 #[.int .i64 a] w fun e w'=>e= .returned (.bool false)∧w'=w:=by
 go_enter Tryz.func203,Tryz.ntmps203
 go_wp2
 go_ret
 exact⟨rfl,rfl⟩
theorem cmp_any(a b:Int)(w:World):Calls Tryz.prog 202 #[.int .i64 a,.int .i64 b] w fun e w'=>e= .returned (.int .i64 (fM a b))∧w'=w:=by
 by_cases h1:a<b
 ·have hq:=ab (cmpI_l h1)
  go_enter Tryz.func202,Tryz.ntmps202
  go_wp2_with (go_at_call 203;refine(jf _ _).mono ?_;rintro e wx ⟨rfl,hw⟩;obtain rfl:=hw.symm;clear hw)
  go_ret
  exact⟨db (aa hq).symm,rfl⟩
 by_cases h2:b<a
 ·have hq:=ab (cmpI_g h2)
  go_enter Tryz.func202,Tryz.ntmps202
  go_wp2_with (go_at_call 203;refine(jf _ _).mono ?_;rintro e wx ⟨rfl,hw⟩;obtain rfl:=hw.symm;clear hw)
  go_ret
  exact⟨db (aa hq).symm,rfl⟩
 have hq:=ab (cmpI_e h1 h2)
 go_enter Tryz.func202,Tryz.ntmps202
 go_wp2_with (go_at_call 203;refine(jf _ _).mono ?_;rintro e wx ⟨rfl,hw⟩;obtain rfl:=hw.symm;clear hw)
 go_ret
 exact⟨db (aa hq).symm,rfl⟩
set_option maxHeartbeats 1000000 in
theorem or_any(x y z:Int)(g cap:Nat)(w:World)(h0:w.cell? ⟨g,0,none⟩=some (.int .i64 x))(h1:w.cell? ⟨g,1,none⟩=some (.int .i64 y))(h2:w.cell? ⟨g,2,none⟩=some (.int .i64 z)):Calls Tryz.prog 201 #[.slice (some ⟨g,0,none⟩) 3 cap] w fun e w'=>e= .returned (.int .i64 (orI x y z))∧w'=w:=by
 go_enter Tryz.func201,Tryz.ntmps201
 go_wp2
 go_loop [8] (fun i=>∃j:Nat,j≤3∧i= .int .i64 j∧Hid ((1≤j→x=0)∧(2≤j→y=0)∧(3≤j→z=0))) (fun i=>3 - (intOf i).toNat)
 case atStart=>exact⟨0,by omega,rfl,ab ⟨by omega,by omega,by omega⟩⟩
 case round=>
  obtain⟨j,hj,rfl,HZ⟩:=hrel
  rcases(show j=0∨j=1∨j=2∨j=3 by omega)with rfl|rfl|rfl|rfl
  ·by_cases hx:x=0
   ·have HZ2:Hid ((1≤1→x=0)∧(2≤1→y=0)∧(3≤1→z=0)):=ab ⟨fun _=>hx,by omega,by omega⟩
    go_wp2
    go_round
    case rel=>exact⟨1,by omega,rfl,HZ2⟩
    case measure=>simp[intOf]
   ·have HQ:=ab (orI_1 (y:=y) (z:=z) hx)
    have hx':(x==0)=false:=by simpa using hx
    go_wp2
    go_ret
    exact⟨db (aa HQ).symm,rfl⟩
  ·by_cases hy:y=0
   ·have HZ2:Hid ((1≤2→x=0)∧(2≤2→y=0)∧(3≤2→z=0)):=ab ⟨fun _=>(aa HZ).1 (by omega),fun _=>hy,by omega⟩
    go_wp2
    go_round
    case rel=>exact⟨2,by omega,rfl,HZ2⟩
    case measure=>simp[intOf]
   ·have HQ:=ab (orI_2 (z:=z) ((aa HZ).1 (by omega)) hy)
    have hy':(y==0)=false:=by simpa using hy
    go_wp2
    go_ret
    exact⟨db (aa HQ).symm,rfl⟩
  ·by_cases hz:z=0
   ·have HZ2:Hid ((1≤3→x=0)∧(2≤3→y=0)∧(3≤3→z=0)):=ab ⟨fun _=>(aa HZ).1 (by omega),fun _=>(aa HZ).2.1 (by omega),fun _=>hz⟩
    go_wp2
    go_round
    case rel=>exact⟨3,by omega,rfl,HZ2⟩
    case measure=>simp[intOf]
   ·have HQ:=ab (orI_3 (z:=z) ((aa HZ).1 (by omega)) ((aa HZ).2.1 (by omega)))
    have hz':(z==0)=false:=by simpa using hz
    go_wp2
    go_ret
    exact⟨db (aa HQ).symm,rfl⟩
  ·have HQ:=ab ((orI_3 (z:=z) ((aa HZ).1 (by omega)) ((aa HZ).2.1 (by omega))).trans ((aa HZ).2.2 (by omega)))
   go_wp2
   go_ret
   exact⟨db (aa HQ).symm,rfl⟩
/-- How two windows of keys stand. -/
def gy(ky st en ky' st' en':Int):Int:=orI (fM ky ky') (fM st st') (fM en en')
set_option maxRecDepth 20000 in
set_option maxHeartbeats 2000000 in
theorem bo(ky st en ky' st' en':Int)(w:World):Calls Tryz.prog 200 #[.agg #[.int .i64 ky,.int .i64 st,.int .i64 en],.agg #[.int .i64 ky',.int .i64 st',.int .i64 en']] w fun e w'=>e= .returned (.int .i64 (gy ky st en ky' st' en'))∧Below w.heap.size w w':=by
 go_enter Tryz.func200,Tryz.ntmps200
 go_wp2
 go_region_held3 (fun W=>((W.cell? ⟨w.heap.size,0,none⟩=some (.int .i64 ky)∧W.cell? ⟨w.heap.size,1,none⟩=some (.int .i64 st)∧W.cell? ⟨w.heap.size,2,none⟩=some (.int .i64 en)∧W.cell? ⟨w.heap.size+1,0,none⟩=some (.int .i64 ky')∧W.cell? ⟨w.heap.size+1,1,none⟩=some (.int .i64 st')∧W.cell? ⟨w.heap.size+1,2,none⟩=some (.int .i64 en'))∧w.heap.size<W.heap.size∧w.heap.size+1<W.heap.size)) ((first|((repeat(first|(with_reducible assumption)|(with_reducible refine dh ?_ (jF))|(with_reducible refine dh ?_ (aj (Below.refl _ _)))|(with_reducible refine dh ?_ (ai _ _))));done)|(refine⟨⟨?_,?_,?_,?_,?_,?_⟩,?_,?_⟩<;>first|(go_keep;done)|(simp;done)|(simp;omega)|omega)))
  (first
  |(go_at_call 202;refine(cmp_any _ _ _).mono ?_;rintro e wx ⟨rfl,hw⟩;obtain rfl:=hw.symm;clear hw)
  |(go_at_call 201;refine(or_any (fM ky ky') (fM st st') (fM en en') _ _ _ (jI) (jI) (jI)).mono ?_;rintro e wx ⟨rfl,hw⟩;obtain rfl:=hw.symm;clear hw))
 all_goals
  go_wp2
  go_ret
  exact⟨rfl,(ak)⟩
theorem aD(ky st en an asu ale amo fn fsu fle fmo td:Int)(tm:Bool)(w:World):Calls Tryz.prog 198 #[.agg #[.int .i64 ky,.int .i64 st,.int .i64 en,.int .i64 an,.int .i64 asu,.int .i64 ale,.int .i64 amo,.int .i64 fn,.int .i64 fsu,.int .i64 fle,.int .i64 fmo,.int .i64 td,.bool tm]] w fun e' w'=>e'= .returned (.agg #[.int .i64 ky,.int .i64 st,.int .i64 en])∧Below w.heap.size w w':=by
 go_enter Tryz.func198,Tryz.ntmps198
 go_wp2
 refine bodyPost_ret (v:= .agg #[.int .i64 ky,.int .i64 st,.int .i64 en]) (by simp[results,Tryz.results198,go_sem]) rfl ⟨rfl,?_⟩
 exact(ar)
/-- When a window of a key is ok; when a pane is. -/
def bl(ky st en:Int):Bool:=aP ky 0 3&&bV st en
def aI(kd no n:Int):Bool:=if kd=3 then n==0&&decide (0<no)else decide (0<n)&&((kd==1&&no==0)||(kd==2&&decide (0<no)))
def bZ(ky st en no kd n s l m:Int):Bool:=aP ky 0 3&&bV st en&&aP no 0 1500&&dj n s l m&&aI kd no n
theorem iR{n s l m:Int}(h:dj n s l m=true):n=0∨0<n:=by
 by_cases h0:n=0
 ·exact Or.inl h0
 ·rw[i9 h0]at h
  simp only[Bool.and_eq_true]at h
  have:=aZ.1 h.1.1.1
  omega
theorem ax(ky st en:Int)(w:World):Calls Tryz.prog 192 #[.agg #[.int .i64 ky,.int .i64 st,.int .i64 en]] w fun e' w'=>e'= .returned (.bool (bl ky st en))∧Below w.heap.size w w':=by
 cases c0:aP ky 0 3
 ·have hq:Hid (bl ky st en=false):=ab (by simp[bl,c0])
  go_enter Tryz.func192,Tryz.ntmps192
  go_wp2_with (first
   |(go_at_call 126;refine(ah _ _ _ _).mono ?_;rintro e' w' ⟨rfl,rfl⟩)
   |(go_at_call 195;refine(eg _ _ _).mono ?_;rintro e w' ⟨rfl,hb⟩;obtain⟨hc,hf,hs⟩:=ac hb;(try have hz0:=zA hb w.heap.size)))
  go_ret
  exact⟨af (aa hq).symm,(ar)⟩
 ·have hq:Hid (bl ky st en=bV st en):=ab (by simp[bl,c0])
  go_enter Tryz.func192,Tryz.ntmps192
  go_wp2_with (first
   |(go_at_call 126;refine(ah _ _ _ _).mono ?_;rintro e' w' ⟨rfl,rfl⟩)
   |(go_at_call 195;refine(eg _ _ _).mono ?_;rintro e w' ⟨rfl,hb⟩;obtain⟨hc,hf,hs⟩:=ac hb;(try have hz0:=zA hb w.heap.size)))
  go_ret
  exact⟨af (aa hq).symm,(ar)⟩
theorem aG(ky st en no kd n s l m:Int)(w:World):Calls Tryz.prog 191 #[.agg #[.int .i64 ky,.int .i64 st,.int .i64 en,.int .i64 no,.int .i64 kd,.int .i64 n,.int .i64 s,.int .i64 l,.int .i64 m]] w fun e' w'=>e'= .returned (.agg #[.int .i64 ky,.int .i64 st,.int .i64 en])∧Below w.heap.size w w':=by
 go_enter Tryz.func191,Tryz.ntmps191
 go_wp2
 refine bodyPost_ret (v:= .agg #[.int .i64 ky,.int .i64 st,.int .i64 en]) (by simp[results,Tryz.results191,go_sem]) rfl ⟨rfl,?_⟩
 exact(ar)
set_option maxRecDepth 20000 in
set_option maxHeartbeats 4000000 in
theorem dZ(ky st en no kd n s l m:Int)(w:World):Calls Tryz.prog 113 #[.agg #[.int .i64 ky,.int .i64 st,.int .i64 en,.int .i64 no,.int .i64 kd,.int .i64 n,.int .i64 s,.int .i64 l,.int .i64 m]] w fun e' w'=>e'= .returned (.bool (bZ ky st en no kd n s l m))∧Below w.heap.size w w':=by
 cases c0:aP ky 0 3
 ·have hq:Hid (bZ ky st en no kd n s l m=false):=ab (by simp[bZ,c0])
  go_enter Tryz.func113,Tryz.ntmps113
  go_wp2_with (first
   |(go_at_call 63;refine(al _ _ _ _).mono ?_;rintro e' w' ⟨rfl,rfl⟩)
   |(go_at_call 146;refine(au _ _ _).mono ?_;rintro e w' ⟨rfl,hb⟩;obtain⟨hc,hf,hs⟩:=ac hb;(try have hz0:=zA hb w.heap.size))
   |(go_at_call 147;refine(av _ _ _ _ _).mono ?_;rintro e w' ⟨rfl,hb⟩;obtain⟨hc,hf,hs⟩:=ac hb;(try have hz0:=zA hb w.heap.size)))
  go_ret
  exact⟨af (aa hq).symm,(ar)⟩
 cases c1:bV st en
 ·have hq:Hid (bZ ky st en no kd n s l m=false):=ab (by simp[bZ,c0,c1])
  go_enter Tryz.func113,Tryz.ntmps113
  go_wp2_with (first
   |(go_at_call 63;refine(al _ _ _ _).mono ?_;rintro e' w' ⟨rfl,rfl⟩)
   |(go_at_call 146;refine(au _ _ _).mono ?_;rintro e w' ⟨rfl,hb⟩;obtain⟨hc,hf,hs⟩:=ac hb;(try have hz0:=zA hb w.heap.size))
   |(go_at_call 147;refine(av _ _ _ _ _).mono ?_;rintro e w' ⟨rfl,hb⟩;obtain⟨hc,hf,hs⟩:=ac hb;(try have hz0:=zA hb w.heap.size)))
  go_ret
  exact⟨af (aa hq).symm,(ar)⟩
 cases c2:aP no 0 1500
 ·have hq:Hid (bZ ky st en no kd n s l m=false):=ab (by simp[bZ,c0,c1,c2])
  go_enter Tryz.func113,Tryz.ntmps113
  go_wp2_with (first
   |(go_at_call 63;refine(al _ _ _ _).mono ?_;rintro e' w' ⟨rfl,rfl⟩)
   |(go_at_call 146;refine(au _ _ _).mono ?_;rintro e w' ⟨rfl,hb⟩;obtain⟨hc,hf,hs⟩:=ac hb;(try have hz0:=zA hb w.heap.size))
   |(go_at_call 147;refine(av _ _ _ _ _).mono ?_;rintro e w' ⟨rfl,hb⟩;obtain⟨hc,hf,hs⟩:=ac hb;(try have hz0:=zA hb w.heap.size)))
  go_ret
  exact⟨af (aa hq).symm,(ar)⟩
 cases c3:dj n s l m
 ·have hq:Hid (bZ ky st en no kd n s l m=false):=ab (by simp[bZ,c0,c1,c2,c3])
  go_enter Tryz.func113,Tryz.ntmps113
  go_wp2_with (first
   |(go_at_call 63;refine(al _ _ _ _).mono ?_;rintro e' w' ⟨rfl,rfl⟩)
   |(go_at_call 146;refine(au _ _ _).mono ?_;rintro e w' ⟨rfl,hb⟩;obtain⟨hc,hf,hs⟩:=ac hb;(try have hz0:=zA hb w.heap.size))
   |(go_at_call 147;refine(av _ _ _ _ _).mono ?_;rintro e w' ⟨rfl,hb⟩;obtain⟨hc,hf,hs⟩:=ac hb;(try have hz0:=zA hb w.heap.size)))
  go_ret
  exact⟨af (aa hq).symm,(ar)⟩
 have hq0:Hid (bZ ky st en no kd n s l m=aI kd no n):=ab (by simp[bZ,c0,c1,c2,c3])
 have hno:=aZ.1 c2
 have hn:=iR c3
 rcases(show no=0∨0<no by omega)with h1|h1
 ·subst h1
  rcases hn with h2|h2
  ·subst h2
   by_cases k1:kd=1
   ·subst k1
    have hq:=ab ((aa hq0).trans (show aI 1 0 0=false from by simp[aI, *]))
    clear hq0
    go_enter Tryz.func113,Tryz.ntmps113
    go_wp2_with (first
     |(go_at_call 63;refine(al _ _ _ _).mono ?_;rintro e' w' ⟨rfl,rfl⟩)
     |(go_at_call 146;refine(au _ _ _).mono ?_;rintro e w' ⟨rfl,hb⟩;obtain⟨hc,hf,hs⟩:=ac hb;(try have hz0:=zA hb w.heap.size))
     |(go_at_call 147;refine(av _ _ _ _ _).mono ?_;rintro e w' ⟨rfl,hb⟩;obtain⟨hc,hf,hs⟩:=ac hb;(try have hz0:=zA hb w.heap.size)))
    go_ret
    exact⟨af (aa hq).symm,(ar)⟩
   by_cases k2:kd=2
   ·subst k2
    have hq:=ab ((aa hq0).trans (show aI 2 0 0=false from by simp[aI, *]))
    clear hq0
    go_enter Tryz.func113,Tryz.ntmps113
    go_wp2_with (first
     |(go_at_call 63;refine(al _ _ _ _).mono ?_;rintro e' w' ⟨rfl,rfl⟩)
     |(go_at_call 146;refine(au _ _ _).mono ?_;rintro e w' ⟨rfl,hb⟩;obtain⟨hc,hf,hs⟩:=ac hb;(try have hz0:=zA hb w.heap.size))
     |(go_at_call 147;refine(av _ _ _ _ _).mono ?_;rintro e w' ⟨rfl,hb⟩;obtain⟨hc,hf,hs⟩:=ac hb;(try have hz0:=zA hb w.heap.size)))
    go_ret
    exact⟨af (aa hq).symm,(ar)⟩
   by_cases k3:kd=3
   ·subst k3
    have hq:=ab ((aa hq0).trans (show aI 3 0 0=false from by simp[aI, *]))
    clear hq0
    go_enter Tryz.func113,Tryz.ntmps113
    go_wp2_with (first
     |(go_at_call 63;refine(al _ _ _ _).mono ?_;rintro e' w' ⟨rfl,rfl⟩)
     |(go_at_call 146;refine(au _ _ _).mono ?_;rintro e w' ⟨rfl,hb⟩;obtain⟨hc,hf,hs⟩:=ac hb;(try have hz0:=zA hb w.heap.size))
     |(go_at_call 147;refine(av _ _ _ _ _).mono ?_;rintro e w' ⟨rfl,hb⟩;obtain⟨hc,hf,hs⟩:=ac hb;(try have hz0:=zA hb w.heap.size)))
    go_ret
    exact⟨af (aa hq).symm,(ar)⟩
   have k1':(kd==1)=false:=by simpa using k1
   have k2':(kd==2)=false:=by simpa using k2
   have k3':(kd==3)=false:=by simpa using k3
   have hq:=ab ((aa hq0).trans (show aI kd 0 0=false from by simp[aI, *]))
   clear hq0 k1 k2 k3
   go_enter Tryz.func113,Tryz.ntmps113
   go_wp2_with (first
    |(go_at_call 63;refine(al _ _ _ _).mono ?_;rintro e' w' ⟨rfl,rfl⟩)
    |(go_at_call 146;refine(au _ _ _).mono ?_;rintro e w' ⟨rfl,hb⟩;obtain⟨hc,hf,hs⟩:=ac hb;(try have hz0:=zA hb w.heap.size))
    |(go_at_call 147;refine(av _ _ _ _ _).mono ?_;rintro e w' ⟨rfl,hb⟩;obtain⟨hc,hf,hs⟩:=ac hb;(try have hz0:=zA hb w.heap.size)))
   go_ret
   exact⟨af (aa hq).symm,(ar)⟩
  ·have h2':(n==0)=false:=by simp;omega
   by_cases k1:kd=1
   ·subst k1
    have hq:=ab ((aa hq0).trans (show aI 1 0 n=true from by simp[aI, *]))
    clear hq0
    go_enter Tryz.func113,Tryz.ntmps113
    go_wp2_with (first
     |(go_at_call 63;refine(al _ _ _ _).mono ?_;rintro e' w' ⟨rfl,rfl⟩)
     |(go_at_call 146;refine(au _ _ _).mono ?_;rintro e w' ⟨rfl,hb⟩;obtain⟨hc,hf,hs⟩:=ac hb;(try have hz0:=zA hb w.heap.size))
     |(go_at_call 147;refine(av _ _ _ _ _).mono ?_;rintro e w' ⟨rfl,hb⟩;obtain⟨hc,hf,hs⟩:=ac hb;(try have hz0:=zA hb w.heap.size)))
    go_ret
    exact⟨af (aa hq).symm,(ar)⟩
   by_cases k2:kd=2
   ·subst k2
    have hq:=ab ((aa hq0).trans (show aI 2 0 n=false from by simp[aI, *]))
    clear hq0
    go_enter Tryz.func113,Tryz.ntmps113
    go_wp2_with (first
     |(go_at_call 63;refine(al _ _ _ _).mono ?_;rintro e' w' ⟨rfl,rfl⟩)
     |(go_at_call 146;refine(au _ _ _).mono ?_;rintro e w' ⟨rfl,hb⟩;obtain⟨hc,hf,hs⟩:=ac hb;(try have hz0:=zA hb w.heap.size))
     |(go_at_call 147;refine(av _ _ _ _ _).mono ?_;rintro e w' ⟨rfl,hb⟩;obtain⟨hc,hf,hs⟩:=ac hb;(try have hz0:=zA hb w.heap.size)))
    go_ret
    exact⟨af (aa hq).symm,(ar)⟩
   by_cases k3:kd=3
   ·subst k3
    have hq:=ab ((aa hq0).trans (show aI 3 0 n=false from by simp[aI, *]))
    clear hq0
    go_enter Tryz.func113,Tryz.ntmps113
    go_wp2_with (first
     |(go_at_call 63;refine(al _ _ _ _).mono ?_;rintro e' w' ⟨rfl,rfl⟩)
     |(go_at_call 146;refine(au _ _ _).mono ?_;rintro e w' ⟨rfl,hb⟩;obtain⟨hc,hf,hs⟩:=ac hb;(try have hz0:=zA hb w.heap.size))
     |(go_at_call 147;refine(av _ _ _ _ _).mono ?_;rintro e w' ⟨rfl,hb⟩;obtain⟨hc,hf,hs⟩:=ac hb;(try have hz0:=zA hb w.heap.size)))
    go_ret
    exact⟨af (aa hq).symm,(ar)⟩
   have k1':(kd==1)=false:=by simpa using k1
   have k2':(kd==2)=false:=by simpa using k2
   have k3':(kd==3)=false:=by simpa using k3
   have hq:=ab ((aa hq0).trans (show aI kd 0 n=false from by simp[aI, *]))
   clear hq0 k1 k2 k3
   go_enter Tryz.func113,Tryz.ntmps113
   go_wp2_with (first
    |(go_at_call 63;refine(al _ _ _ _).mono ?_;rintro e' w' ⟨rfl,rfl⟩)
    |(go_at_call 146;refine(au _ _ _).mono ?_;rintro e w' ⟨rfl,hb⟩;obtain⟨hc,hf,hs⟩:=ac hb;(try have hz0:=zA hb w.heap.size))
    |(go_at_call 147;refine(av _ _ _ _ _).mono ?_;rintro e w' ⟨rfl,hb⟩;obtain⟨hc,hf,hs⟩:=ac hb;(try have hz0:=zA hb w.heap.size)))
   go_ret
   exact⟨af (aa hq).symm,(ar)⟩
 ·have h1':(no==0)=false:=by simp;omega
  rcases hn with h2|h2
  ·subst h2
   by_cases k1:kd=1
   ·subst k1
    have hq:=ab ((aa hq0).trans (show aI 1 no 0=false from by simp[aI, *]))
    clear hq0
    go_enter Tryz.func113,Tryz.ntmps113
    go_wp2_with (first
     |(go_at_call 63;refine(al _ _ _ _).mono ?_;rintro e' w' ⟨rfl,rfl⟩)
     |(go_at_call 146;refine(au _ _ _).mono ?_;rintro e w' ⟨rfl,hb⟩;obtain⟨hc,hf,hs⟩:=ac hb;(try have hz0:=zA hb w.heap.size))
     |(go_at_call 147;refine(av _ _ _ _ _).mono ?_;rintro e w' ⟨rfl,hb⟩;obtain⟨hc,hf,hs⟩:=ac hb;(try have hz0:=zA hb w.heap.size)))
    go_ret
    exact⟨af (aa hq).symm,(ar)⟩
   by_cases k2:kd=2
   ·subst k2
    have hq:=ab ((aa hq0).trans (show aI 2 no 0=false from by simp[aI, *]))
    clear hq0
    go_enter Tryz.func113,Tryz.ntmps113
    go_wp2_with (first
     |(go_at_call 63;refine(al _ _ _ _).mono ?_;rintro e' w' ⟨rfl,rfl⟩)
     |(go_at_call 146;refine(au _ _ _).mono ?_;rintro e w' ⟨rfl,hb⟩;obtain⟨hc,hf,hs⟩:=ac hb;(try have hz0:=zA hb w.heap.size))
     |(go_at_call 147;refine(av _ _ _ _ _).mono ?_;rintro e w' ⟨rfl,hb⟩;obtain⟨hc,hf,hs⟩:=ac hb;(try have hz0:=zA hb w.heap.size)))
    go_ret
    exact⟨af (aa hq).symm,(ar)⟩
   by_cases k3:kd=3
   ·subst k3
    have hq:=ab ((aa hq0).trans (show aI 3 no 0=true from by simp[aI, *]))
    clear hq0
    go_enter Tryz.func113,Tryz.ntmps113
    go_wp2_with (first
     |(go_at_call 63;refine(al _ _ _ _).mono ?_;rintro e' w' ⟨rfl,rfl⟩)
     |(go_at_call 146;refine(au _ _ _).mono ?_;rintro e w' ⟨rfl,hb⟩;obtain⟨hc,hf,hs⟩:=ac hb;(try have hz0:=zA hb w.heap.size))
     |(go_at_call 147;refine(av _ _ _ _ _).mono ?_;rintro e w' ⟨rfl,hb⟩;obtain⟨hc,hf,hs⟩:=ac hb;(try have hz0:=zA hb w.heap.size)))
    go_ret
    exact⟨af (aa hq).symm,(ar)⟩
   have k1':(kd==1)=false:=by simpa using k1
   have k2':(kd==2)=false:=by simpa using k2
   have k3':(kd==3)=false:=by simpa using k3
   have hq:=ab ((aa hq0).trans (show aI kd no 0=false from by simp[aI, *]))
   clear hq0 k1 k2 k3
   go_enter Tryz.func113,Tryz.ntmps113
   go_wp2_with (first
    |(go_at_call 63;refine(al _ _ _ _).mono ?_;rintro e' w' ⟨rfl,rfl⟩)
    |(go_at_call 146;refine(au _ _ _).mono ?_;rintro e w' ⟨rfl,hb⟩;obtain⟨hc,hf,hs⟩:=ac hb;(try have hz0:=zA hb w.heap.size))
    |(go_at_call 147;refine(av _ _ _ _ _).mono ?_;rintro e w' ⟨rfl,hb⟩;obtain⟨hc,hf,hs⟩:=ac hb;(try have hz0:=zA hb w.heap.size)))
   go_ret
   exact⟨af (aa hq).symm,(ar)⟩
  ·have h2':(n==0)=false:=by simp;omega
   by_cases k1:kd=1
   ·subst k1
    have hq:=ab ((aa hq0).trans (show aI 1 no n=false from by simp[aI, *]))
    clear hq0
    go_enter Tryz.func113,Tryz.ntmps113
    go_wp2_with (first
     |(go_at_call 63;refine(al _ _ _ _).mono ?_;rintro e' w' ⟨rfl,rfl⟩)
     |(go_at_call 146;refine(au _ _ _).mono ?_;rintro e w' ⟨rfl,hb⟩;obtain⟨hc,hf,hs⟩:=ac hb;(try have hz0:=zA hb w.heap.size))
     |(go_at_call 147;refine(av _ _ _ _ _).mono ?_;rintro e w' ⟨rfl,hb⟩;obtain⟨hc,hf,hs⟩:=ac hb;(try have hz0:=zA hb w.heap.size)))
    go_ret
    exact⟨af (aa hq).symm,(ar)⟩
   by_cases k2:kd=2
   ·subst k2
    have hq:=ab ((aa hq0).trans (show aI 2 no n=true from by simp[aI, *]))
    clear hq0
    go_enter Tryz.func113,Tryz.ntmps113
    go_wp2_with (first
     |(go_at_call 63;refine(al _ _ _ _).mono ?_;rintro e' w' ⟨rfl,rfl⟩)
     |(go_at_call 146;refine(au _ _ _).mono ?_;rintro e w' ⟨rfl,hb⟩;obtain⟨hc,hf,hs⟩:=ac hb;(try have hz0:=zA hb w.heap.size))
     |(go_at_call 147;refine(av _ _ _ _ _).mono ?_;rintro e w' ⟨rfl,hb⟩;obtain⟨hc,hf,hs⟩:=ac hb;(try have hz0:=zA hb w.heap.size)))
    go_ret
    exact⟨af (aa hq).symm,(ar)⟩
   by_cases k3:kd=3
   ·subst k3
    have hq:=ab ((aa hq0).trans (show aI 3 no n=false from by simp[aI, *]))
    clear hq0
    go_enter Tryz.func113,Tryz.ntmps113
    go_wp2_with (first
     |(go_at_call 63;refine(al _ _ _ _).mono ?_;rintro e' w' ⟨rfl,rfl⟩)
     |(go_at_call 146;refine(au _ _ _).mono ?_;rintro e w' ⟨rfl,hb⟩;obtain⟨hc,hf,hs⟩:=ac hb;(try have hz0:=zA hb w.heap.size))
     |(go_at_call 147;refine(av _ _ _ _ _).mono ?_;rintro e w' ⟨rfl,hb⟩;obtain⟨hc,hf,hs⟩:=ac hb;(try have hz0:=zA hb w.heap.size)))
    go_ret
    exact⟨af (aa hq).symm,(ar)⟩
   have k1':(kd==1)=false:=by simpa using k1
   have k2':(kd==2)=false:=by simpa using k2
   have k3':(kd==3)=false:=by simpa using k3
   have hq:=ab ((aa hq0).trans (show aI kd no n=false from by simp[aI, *]))
   clear hq0 k1 k2 k3
   go_enter Tryz.func113,Tryz.ntmps113
   go_wp2_with (first
    |(go_at_call 63;refine(al _ _ _ _).mono ?_;rintro e' w' ⟨rfl,rfl⟩)
    |(go_at_call 146;refine(au _ _ _).mono ?_;rintro e w' ⟨rfl,hb⟩;obtain⟨hc,hf,hs⟩:=ac hb;(try have hz0:=zA hb w.heap.size))
    |(go_at_call 147;refine(av _ _ _ _ _).mono ?_;rintro e w' ⟨rfl,hb⟩;obtain⟨hc,hf,hs⟩:=ac hb;(try have hz0:=zA hb w.heap.size)))
   go_ret
   exact⟨af (aa hq).symm,(ar)⟩
set_option maxRecDepth 20000 in
set_option maxHeartbeats 4000000 in
theorem fG(ky st en no kd n s l m:Int)(w:World):Calls Tryz.prog 173 #[.agg #[.int .i64 ky,.int .i64 st,.int .i64 en,.int .i64 no,.int .i64 kd,.int .i64 n,.int .i64 s,.int .i64 l,.int .i64 m]] w fun e' w'=>e'= .returned (.bool (bZ ky st en no kd n s l m))∧Below w.heap.size w w':=by
 cases c0:aP ky 0 3
 ·have hq:Hid (bZ ky st en no kd n s l m=false):=ab (by simp[bZ,c0])
  have cp:bl ky st en=false:=by simp[bl,c0]
  go_enter Tryz.func173,Tryz.ntmps173
  go_wp2_with (first
   |(go_at_call 126;refine(ah _ _ _ _).mono ?_;rintro e' w' ⟨rfl,rfl⟩)
   |(go_at_call 191;refine(aG _ _ _ _ _ _ _ _ _ _).mono ?_;rintro e w' ⟨rfl,hb⟩;obtain⟨hc,hf,hs⟩:=ac hb;(try have hz0:=zA hb w.heap.size))
   |(go_at_call 192;refine(ax _ _ _ _).mono ?_;rintro e w' ⟨rfl,hb⟩;obtain⟨hc,hf,hs⟩:=ac hb;(try have hz0:=zA hb w.heap.size))
   |(go_at_call 193;refine(aC _ _ _ _ _).mono ?_;rintro e w' ⟨rfl,hb⟩;obtain⟨hc,hf,hs⟩:=ac hb;(try have hz0:=zA hb w.heap.size)))
  go_ret
  exact⟨af (aa hq).symm,(ar)⟩
 cases c1:bV st en
 ·have hq:Hid (bZ ky st en no kd n s l m=false):=ab (by simp[bZ,c0,c1])
  have cp:bl ky st en=false:=by simp[bl,c0,c1]
  go_enter Tryz.func173,Tryz.ntmps173
  go_wp2_with (first
   |(go_at_call 126;refine(ah _ _ _ _).mono ?_;rintro e' w' ⟨rfl,rfl⟩)
   |(go_at_call 191;refine(aG _ _ _ _ _ _ _ _ _ _).mono ?_;rintro e w' ⟨rfl,hb⟩;obtain⟨hc,hf,hs⟩:=ac hb;(try have hz0:=zA hb w.heap.size))
   |(go_at_call 192;refine(ax _ _ _ _).mono ?_;rintro e w' ⟨rfl,hb⟩;obtain⟨hc,hf,hs⟩:=ac hb;(try have hz0:=zA hb w.heap.size))
   |(go_at_call 193;refine(aC _ _ _ _ _).mono ?_;rintro e w' ⟨rfl,hb⟩;obtain⟨hc,hf,hs⟩:=ac hb;(try have hz0:=zA hb w.heap.size)))
  go_ret
  exact⟨af (aa hq).symm,(ar)⟩
 cases c2:aP no 0 1500
 ·have hq:Hid (bZ ky st en no kd n s l m=false):=ab (by simp[bZ,c0,c1,c2])
  have cp:bl ky st en=true:=by simp[bl,c0,c1]
  go_enter Tryz.func173,Tryz.ntmps173
  go_wp2_with (first
   |(go_at_call 126;refine(ah _ _ _ _).mono ?_;rintro e' w' ⟨rfl,rfl⟩)
   |(go_at_call 191;refine(aG _ _ _ _ _ _ _ _ _ _).mono ?_;rintro e w' ⟨rfl,hb⟩;obtain⟨hc,hf,hs⟩:=ac hb;(try have hz0:=zA hb w.heap.size))
   |(go_at_call 192;refine(ax _ _ _ _).mono ?_;rintro e w' ⟨rfl,hb⟩;obtain⟨hc,hf,hs⟩:=ac hb;(try have hz0:=zA hb w.heap.size))
   |(go_at_call 193;refine(aC _ _ _ _ _).mono ?_;rintro e w' ⟨rfl,hb⟩;obtain⟨hc,hf,hs⟩:=ac hb;(try have hz0:=zA hb w.heap.size)))
  go_ret
  exact⟨af (aa hq).symm,(ar)⟩
 cases c3:dj n s l m
 ·have hq:Hid (bZ ky st en no kd n s l m=false):=ab (by simp[bZ,c0,c1,c2,c3])
  have cp:bl ky st en=true:=by simp[bl,c0,c1]
  go_enter Tryz.func173,Tryz.ntmps173
  go_wp2_with (first
   |(go_at_call 126;refine(ah _ _ _ _).mono ?_;rintro e' w' ⟨rfl,rfl⟩)
   |(go_at_call 191;refine(aG _ _ _ _ _ _ _ _ _ _).mono ?_;rintro e w' ⟨rfl,hb⟩;obtain⟨hc,hf,hs⟩:=ac hb;(try have hz0:=zA hb w.heap.size))
   |(go_at_call 192;refine(ax _ _ _ _).mono ?_;rintro e w' ⟨rfl,hb⟩;obtain⟨hc,hf,hs⟩:=ac hb;(try have hz0:=zA hb w.heap.size))
   |(go_at_call 193;refine(aC _ _ _ _ _).mono ?_;rintro e w' ⟨rfl,hb⟩;obtain⟨hc,hf,hs⟩:=ac hb;(try have hz0:=zA hb w.heap.size)))
  go_ret
  exact⟨af (aa hq).symm,(ar)⟩
 have cp:bl ky st en=true:=by simp[bl,c0,c1]
 have hq0:Hid (bZ ky st en no kd n s l m=aI kd no n):=ab (by simp[bZ,c0,c1,c2,c3])
 have hno:=aZ.1 c2
 have hn:=iR c3
 rcases(show no=0∨0<no by omega)with h1|h1
 ·subst h1
  rcases hn with h2|h2
  ·subst h2
   by_cases k1:kd=1
   ·subst k1
    have hq:=ab ((aa hq0).trans (show aI 1 0 0=false from by simp[aI, *]))
    clear hq0
    go_enter Tryz.func173,Tryz.ntmps173
    go_wp2_with (first
     |(go_at_call 126;refine(ah _ _ _ _).mono ?_;rintro e' w' ⟨rfl,rfl⟩)
     |(go_at_call 191;refine(aG _ _ _ _ _ _ _ _ _ _).mono ?_;rintro e w' ⟨rfl,hb⟩;obtain⟨hc,hf,hs⟩:=ac hb;(try have hz0:=zA hb w.heap.size))
     |(go_at_call 192;refine(ax _ _ _ _).mono ?_;rintro e w' ⟨rfl,hb⟩;obtain⟨hc,hf,hs⟩:=ac hb;(try have hz0:=zA hb w.heap.size))
     |(go_at_call 193;refine(aC _ _ _ _ _).mono ?_;rintro e w' ⟨rfl,hb⟩;obtain⟨hc,hf,hs⟩:=ac hb;(try have hz0:=zA hb w.heap.size)))
    go_ret
    exact⟨af (aa hq).symm,(ar)⟩
   by_cases k2:kd=2
   ·subst k2
    have hq:=ab ((aa hq0).trans (show aI 2 0 0=false from by simp[aI, *]))
    clear hq0
    go_enter Tryz.func173,Tryz.ntmps173
    go_wp2_with (first
     |(go_at_call 126;refine(ah _ _ _ _).mono ?_;rintro e' w' ⟨rfl,rfl⟩)
     |(go_at_call 191;refine(aG _ _ _ _ _ _ _ _ _ _).mono ?_;rintro e w' ⟨rfl,hb⟩;obtain⟨hc,hf,hs⟩:=ac hb;(try have hz0:=zA hb w.heap.size))
     |(go_at_call 192;refine(ax _ _ _ _).mono ?_;rintro e w' ⟨rfl,hb⟩;obtain⟨hc,hf,hs⟩:=ac hb;(try have hz0:=zA hb w.heap.size))
     |(go_at_call 193;refine(aC _ _ _ _ _).mono ?_;rintro e w' ⟨rfl,hb⟩;obtain⟨hc,hf,hs⟩:=ac hb;(try have hz0:=zA hb w.heap.size)))
    go_ret
    exact⟨af (aa hq).symm,(ar)⟩
   by_cases k3:kd=3
   ·subst k3
    have hq:=ab ((aa hq0).trans (show aI 3 0 0=false from by simp[aI, *]))
    clear hq0
    go_enter Tryz.func173,Tryz.ntmps173
    go_wp2_with (first
     |(go_at_call 126;refine(ah _ _ _ _).mono ?_;rintro e' w' ⟨rfl,rfl⟩)
     |(go_at_call 191;refine(aG _ _ _ _ _ _ _ _ _ _).mono ?_;rintro e w' ⟨rfl,hb⟩;obtain⟨hc,hf,hs⟩:=ac hb;(try have hz0:=zA hb w.heap.size))
     |(go_at_call 192;refine(ax _ _ _ _).mono ?_;rintro e w' ⟨rfl,hb⟩;obtain⟨hc,hf,hs⟩:=ac hb;(try have hz0:=zA hb w.heap.size))
     |(go_at_call 193;refine(aC _ _ _ _ _).mono ?_;rintro e w' ⟨rfl,hb⟩;obtain⟨hc,hf,hs⟩:=ac hb;(try have hz0:=zA hb w.heap.size)))
    go_ret
    exact⟨af (aa hq).symm,(ar)⟩
   have k1':(kd==1)=false:=by simpa using k1
   have k2':(kd==2)=false:=by simpa using k2
   have k3':(kd==3)=false:=by simpa using k3
   have hq:=ab ((aa hq0).trans (show aI kd 0 0=false from by simp[aI, *]))
   clear hq0 k1 k2 k3
   go_enter Tryz.func173,Tryz.ntmps173
   go_wp2_with (first
    |(go_at_call 126;refine(ah _ _ _ _).mono ?_;rintro e' w' ⟨rfl,rfl⟩)
    |(go_at_call 191;refine(aG _ _ _ _ _ _ _ _ _ _).mono ?_;rintro e w' ⟨rfl,hb⟩;obtain⟨hc,hf,hs⟩:=ac hb;(try have hz0:=zA hb w.heap.size))
    |(go_at_call 192;refine(ax _ _ _ _).mono ?_;rintro e w' ⟨rfl,hb⟩;obtain⟨hc,hf,hs⟩:=ac hb;(try have hz0:=zA hb w.heap.size))
    |(go_at_call 193;refine(aC _ _ _ _ _).mono ?_;rintro e w' ⟨rfl,hb⟩;obtain⟨hc,hf,hs⟩:=ac hb;(try have hz0:=zA hb w.heap.size)))
   go_ret
   exact⟨af (aa hq).symm,(ar)⟩
  ·have h2':(n==0)=false:=by simp;omega
   by_cases k1:kd=1
   ·subst k1
    have hq:=ab ((aa hq0).trans (show aI 1 0 n=true from by simp[aI, *]))
    clear hq0
    go_enter Tryz.func173,Tryz.ntmps173
    go_wp2_with (first
     |(go_at_call 126;refine(ah _ _ _ _).mono ?_;rintro e' w' ⟨rfl,rfl⟩)
     |(go_at_call 191;refine(aG _ _ _ _ _ _ _ _ _ _).mono ?_;rintro e w' ⟨rfl,hb⟩;obtain⟨hc,hf,hs⟩:=ac hb;(try have hz0:=zA hb w.heap.size))
     |(go_at_call 192;refine(ax _ _ _ _).mono ?_;rintro e w' ⟨rfl,hb⟩;obtain⟨hc,hf,hs⟩:=ac hb;(try have hz0:=zA hb w.heap.size))
     |(go_at_call 193;refine(aC _ _ _ _ _).mono ?_;rintro e w' ⟨rfl,hb⟩;obtain⟨hc,hf,hs⟩:=ac hb;(try have hz0:=zA hb w.heap.size)))
    go_ret
    exact⟨af (aa hq).symm,(ar)⟩
   by_cases k2:kd=2
   ·subst k2
    have hq:=ab ((aa hq0).trans (show aI 2 0 n=false from by simp[aI, *]))
    clear hq0
    go_enter Tryz.func173,Tryz.ntmps173
    go_wp2_with (first
     |(go_at_call 126;refine(ah _ _ _ _).mono ?_;rintro e' w' ⟨rfl,rfl⟩)
     |(go_at_call 191;refine(aG _ _ _ _ _ _ _ _ _ _).mono ?_;rintro e w' ⟨rfl,hb⟩;obtain⟨hc,hf,hs⟩:=ac hb;(try have hz0:=zA hb w.heap.size))
     |(go_at_call 192;refine(ax _ _ _ _).mono ?_;rintro e w' ⟨rfl,hb⟩;obtain⟨hc,hf,hs⟩:=ac hb;(try have hz0:=zA hb w.heap.size))
     |(go_at_call 193;refine(aC _ _ _ _ _).mono ?_;rintro e w' ⟨rfl,hb⟩;obtain⟨hc,hf,hs⟩:=ac hb;(try have hz0:=zA hb w.heap.size)))
    go_ret
    exact⟨af (aa hq).symm,(ar)⟩
   by_cases k3:kd=3
   ·subst k3
    have hq:=ab ((aa hq0).trans (show aI 3 0 n=false from by simp[aI, *]))
    clear hq0
    go_enter Tryz.func173,Tryz.ntmps173
    go_wp2_with (first
     |(go_at_call 126;refine(ah _ _ _ _).mono ?_;rintro e' w' ⟨rfl,rfl⟩)
     |(go_at_call 191;refine(aG _ _ _ _ _ _ _ _ _ _).mono ?_;rintro e w' ⟨rfl,hb⟩;obtain⟨hc,hf,hs⟩:=ac hb;(try have hz0:=zA hb w.heap.size))
     |(go_at_call 192;refine(ax _ _ _ _).mono ?_;rintro e w' ⟨rfl,hb⟩;obtain⟨hc,hf,hs⟩:=ac hb;(try have hz0:=zA hb w.heap.size))
     |(go_at_call 193;refine(aC _ _ _ _ _).mono ?_;rintro e w' ⟨rfl,hb⟩;obtain⟨hc,hf,hs⟩:=ac hb;(try have hz0:=zA hb w.heap.size)))
    go_ret
    exact⟨af (aa hq).symm,(ar)⟩
   have k1':(kd==1)=false:=by simpa using k1
   have k2':(kd==2)=false:=by simpa using k2
   have k3':(kd==3)=false:=by simpa using k3
   have hq:=ab ((aa hq0).trans (show aI kd 0 n=false from by simp[aI, *]))
   clear hq0 k1 k2 k3
   go_enter Tryz.func173,Tryz.ntmps173
   go_wp2_with (first
    |(go_at_call 126;refine(ah _ _ _ _).mono ?_;rintro e' w' ⟨rfl,rfl⟩)
    |(go_at_call 191;refine(aG _ _ _ _ _ _ _ _ _ _).mono ?_;rintro e w' ⟨rfl,hb⟩;obtain⟨hc,hf,hs⟩:=ac hb;(try have hz0:=zA hb w.heap.size))
    |(go_at_call 192;refine(ax _ _ _ _).mono ?_;rintro e w' ⟨rfl,hb⟩;obtain⟨hc,hf,hs⟩:=ac hb;(try have hz0:=zA hb w.heap.size))
    |(go_at_call 193;refine(aC _ _ _ _ _).mono ?_;rintro e w' ⟨rfl,hb⟩;obtain⟨hc,hf,hs⟩:=ac hb;(try have hz0:=zA hb w.heap.size)))
   go_ret
   exact⟨af (aa hq).symm,(ar)⟩
 ·have h1':(no==0)=false:=by simp;omega
  rcases hn with h2|h2
  ·subst h2
   by_cases k1:kd=1
   ·subst k1
    have hq:=ab ((aa hq0).trans (show aI 1 no 0=false from by simp[aI, *]))
    clear hq0
    go_enter Tryz.func173,Tryz.ntmps173
    go_wp2_with (first
     |(go_at_call 126;refine(ah _ _ _ _).mono ?_;rintro e' w' ⟨rfl,rfl⟩)
     |(go_at_call 191;refine(aG _ _ _ _ _ _ _ _ _ _).mono ?_;rintro e w' ⟨rfl,hb⟩;obtain⟨hc,hf,hs⟩:=ac hb;(try have hz0:=zA hb w.heap.size))
     |(go_at_call 192;refine(ax _ _ _ _).mono ?_;rintro e w' ⟨rfl,hb⟩;obtain⟨hc,hf,hs⟩:=ac hb;(try have hz0:=zA hb w.heap.size))
     |(go_at_call 193;refine(aC _ _ _ _ _).mono ?_;rintro e w' ⟨rfl,hb⟩;obtain⟨hc,hf,hs⟩:=ac hb;(try have hz0:=zA hb w.heap.size)))
    go_ret
    exact⟨af (aa hq).symm,(ar)⟩
   by_cases k2:kd=2
   ·subst k2
    have hq:=ab ((aa hq0).trans (show aI 2 no 0=false from by simp[aI, *]))
    clear hq0
    go_enter Tryz.func173,Tryz.ntmps173
    go_wp2_with (first
     |(go_at_call 126;refine(ah _ _ _ _).mono ?_;rintro e' w' ⟨rfl,rfl⟩)
     |(go_at_call 191;refine(aG _ _ _ _ _ _ _ _ _ _).mono ?_;rintro e w' ⟨rfl,hb⟩;obtain⟨hc,hf,hs⟩:=ac hb;(try have hz0:=zA hb w.heap.size))
     |(go_at_call 192;refine(ax _ _ _ _).mono ?_;rintro e w' ⟨rfl,hb⟩;obtain⟨hc,hf,hs⟩:=ac hb;(try have hz0:=zA hb w.heap.size))
     |(go_at_call 193;refine(aC _ _ _ _ _).mono ?_;rintro e w' ⟨rfl,hb⟩;obtain⟨hc,hf,hs⟩:=ac hb;(try have hz0:=zA hb w.heap.size)))
    go_ret
    exact⟨af (aa hq).symm,(ar)⟩
   by_cases k3:kd=3
   ·subst k3
    have hq:=ab ((aa hq0).trans (show aI 3 no 0=true from by simp[aI, *]))
    clear hq0
    go_enter Tryz.func173,Tryz.ntmps173
    go_wp2_with (first
     |(go_at_call 126;refine(ah _ _ _ _).mono ?_;rintro e' w' ⟨rfl,rfl⟩)
     |(go_at_call 191;refine(aG _ _ _ _ _ _ _ _ _ _).mono ?_;rintro e w' ⟨rfl,hb⟩;obtain⟨hc,hf,hs⟩:=ac hb;(try have hz0:=zA hb w.heap.size))
     |(go_at_call 192;refine(ax _ _ _ _).mono ?_;rintro e w' ⟨rfl,hb⟩;obtain⟨hc,hf,hs⟩:=ac hb;(try have hz0:=zA hb w.heap.size))
     |(go_at_call 193;refine(aC _ _ _ _ _).mono ?_;rintro e w' ⟨rfl,hb⟩;obtain⟨hc,hf,hs⟩:=ac hb;(try have hz0:=zA hb w.heap.size)))
    go_ret
    exact⟨af (aa hq).symm,(ar)⟩
   have k1':(kd==1)=false:=by simpa using k1
   have k2':(kd==2)=false:=by simpa using k2
   have k3':(kd==3)=false:=by simpa using k3
   have hq:=ab ((aa hq0).trans (show aI kd no 0=false from by simp[aI, *]))
   clear hq0 k1 k2 k3
   go_enter Tryz.func173,Tryz.ntmps173
   go_wp2_with (first
    |(go_at_call 126;refine(ah _ _ _ _).mono ?_;rintro e' w' ⟨rfl,rfl⟩)
    |(go_at_call 191;refine(aG _ _ _ _ _ _ _ _ _ _).mono ?_;rintro e w' ⟨rfl,hb⟩;obtain⟨hc,hf,hs⟩:=ac hb;(try have hz0:=zA hb w.heap.size))
    |(go_at_call 192;refine(ax _ _ _ _).mono ?_;rintro e w' ⟨rfl,hb⟩;obtain⟨hc,hf,hs⟩:=ac hb;(try have hz0:=zA hb w.heap.size))
    |(go_at_call 193;refine(aC _ _ _ _ _).mono ?_;rintro e w' ⟨rfl,hb⟩;obtain⟨hc,hf,hs⟩:=ac hb;(try have hz0:=zA hb w.heap.size)))
   go_ret
   exact⟨af (aa hq).symm,(ar)⟩
  ·have h2':(n==0)=false:=by simp;omega
   by_cases k1:kd=1
   ·subst k1
    have hq:=ab ((aa hq0).trans (show aI 1 no n=false from by simp[aI, *]))
    clear hq0
    go_enter Tryz.func173,Tryz.ntmps173
    go_wp2_with (first
     |(go_at_call 126;refine(ah _ _ _ _).mono ?_;rintro e' w' ⟨rfl,rfl⟩)
     |(go_at_call 191;refine(aG _ _ _ _ _ _ _ _ _ _).mono ?_;rintro e w' ⟨rfl,hb⟩;obtain⟨hc,hf,hs⟩:=ac hb;(try have hz0:=zA hb w.heap.size))
     |(go_at_call 192;refine(ax _ _ _ _).mono ?_;rintro e w' ⟨rfl,hb⟩;obtain⟨hc,hf,hs⟩:=ac hb;(try have hz0:=zA hb w.heap.size))
     |(go_at_call 193;refine(aC _ _ _ _ _).mono ?_;rintro e w' ⟨rfl,hb⟩;obtain⟨hc,hf,hs⟩:=ac hb;(try have hz0:=zA hb w.heap.size)))
    go_ret
    exact⟨af (aa hq).symm,(ar)⟩
   by_cases k2:kd=2
   ·subst k2
    have hq:=ab ((aa hq0).trans (show aI 2 no n=true from by simp[aI, *]))
    clear hq0
    go_enter Tryz.func173,Tryz.ntmps173
    go_wp2_with (first
     |(go_at_call 126;refine(ah _ _ _ _).mono ?_;rintro e' w' ⟨rfl,rfl⟩)
     |(go_at_call 191;refine(aG _ _ _ _ _ _ _ _ _ _).mono ?_;rintro e w' ⟨rfl,hb⟩;obtain⟨hc,hf,hs⟩:=ac hb;(try have hz0:=zA hb w.heap.size))
     |(go_at_call 192;refine(ax _ _ _ _).mono ?_;rintro e w' ⟨rfl,hb⟩;obtain⟨hc,hf,hs⟩:=ac hb;(try have hz0:=zA hb w.heap.size))
     |(go_at_call 193;refine(aC _ _ _ _ _).mono ?_;rintro e w' ⟨rfl,hb⟩;obtain⟨hc,hf,hs⟩:=ac hb;(try have hz0:=zA hb w.heap.size)))
    go_ret
    exact⟨af (aa hq).symm,(ar)⟩
   by_cases k3:kd=3
   ·subst k3
    have hq:=ab ((aa hq0).trans (show aI 3 no n=false from by simp[aI, *]))
    clear hq0
    go_enter Tryz.func173,Tryz.ntmps173
    go_wp2_with (first
     |(go_at_call 126;refine(ah _ _ _ _).mono ?_;rintro e' w' ⟨rfl,rfl⟩)
     |(go_at_call 191;refine(aG _ _ _ _ _ _ _ _ _ _).mono ?_;rintro e w' ⟨rfl,hb⟩;obtain⟨hc,hf,hs⟩:=ac hb;(try have hz0:=zA hb w.heap.size))
     |(go_at_call 192;refine(ax _ _ _ _).mono ?_;rintro e w' ⟨rfl,hb⟩;obtain⟨hc,hf,hs⟩:=ac hb;(try have hz0:=zA hb w.heap.size))
     |(go_at_call 193;refine(aC _ _ _ _ _).mono ?_;rintro e w' ⟨rfl,hb⟩;obtain⟨hc,hf,hs⟩:=ac hb;(try have hz0:=zA hb w.heap.size)))
    go_ret
    exact⟨af (aa hq).symm,(ar)⟩
   have k1':(kd==1)=false:=by simpa using k1
   have k2':(kd==2)=false:=by simpa using k2
   have k3':(kd==3)=false:=by simpa using k3
   have hq:=ab ((aa hq0).trans (show aI kd no n=false from by simp[aI, *]))
   clear hq0 k1 k2 k3
   go_enter Tryz.func173,Tryz.ntmps173
   go_wp2_with (first
    |(go_at_call 126;refine(ah _ _ _ _).mono ?_;rintro e' w' ⟨rfl,rfl⟩)
    |(go_at_call 191;refine(aG _ _ _ _ _ _ _ _ _ _).mono ?_;rintro e w' ⟨rfl,hb⟩;obtain⟨hc,hf,hs⟩:=ac hb;(try have hz0:=zA hb w.heap.size))
    |(go_at_call 192;refine(ax _ _ _ _).mono ?_;rintro e w' ⟨rfl,hb⟩;obtain⟨hc,hf,hs⟩:=ac hb;(try have hz0:=zA hb w.heap.size))
    |(go_at_call 193;refine(aC _ _ _ _ _).mono ?_;rintro e w' ⟨rfl,hb⟩;obtain⟨hc,hf,hs⟩:=ac hb;(try have hz0:=zA hb w.heap.size)))
   go_ret
   exact⟨af (aa hq).symm,(ar)⟩
end Go.Proofs.YtealpjmannopeaaGreat
